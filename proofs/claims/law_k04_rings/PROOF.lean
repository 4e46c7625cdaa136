import PyProof.Rows.All
import Wide.All
import OpenK.AllK
import Wide.FinOn
import HandS.ForMost
import HandS.Evl
import HandS.IsInst
import HandS.Walk
import HandS.Zip
import HandS.TupAny
import HandS.More
import HandS.Set
import HandS.SetFor
import HandS.SetKeys
import HandS.SortInts
import PyProof.Rows.SortShellAny
import HandS.Conv
import PySem.Challenge.RW_formlines_k04_rings
set_option Elab.async false
set_option linter.all false
set_option maxRecDepth 100000
set_option maxHeartbeats 4000000
namespace Qa
open PySem PySem.Spec PyProof.Rows L2

/-- a def that can be called by its name -/
def Cal (P : Program) (w : World) (K : PySem.W.Frag) (mg : Str → Option Value) (base : Heap) (x : Str) (k : Nat) (ps : List Str) (sp : Sp) : Prop :=
  ∃ f fd, FnOk P w K mg base CX0 k f fd ps sp ∧ mg x = some (.ref f) ∧ PySem.W.keepIn K (.ref f) = true ∧ Binds K fd ps [] ∧ ∃ oc od osl, K.lookup f = some ⟨oc, od, .func fd, osl⟩
def tCal (sp : Sp) (t : TA) : TE := fun σ H Q => t σ H fun vs H1 => sp vs H1 Q E0
theorem pe_cal {X : Cx} {x : Str} {k : Nat} {ps : List Str} {sp : Sp} {e : Expr} {es : List Expr} {t : TA} {p pos : Pos} (c : Cal X.prog X.w X.K X.mg X.base x k ps sp) (hr : Room k X.A) (ha : PA X (e :: es) t) (hg : Gl X x := by rfl)
    (hdb : (x == ("__debug__" : Str)) = false := by decide) (he : starEach (e :: es) X.env = (false, eval e X.env) :: starEach es X.env := by rfl) (hpl : (backTo pos (starEach es X.env)).any (·.1) = false := by rfl) :
    PE X (.Call (.Name x p) (e :: es) [] pos) (tCal sp t) := by
  obtain ⟨f, fd, F, hm, hk, hb, _⟩ := c
  have h := pe_call (p := p) (pos := pos) F hr hg hm hk hb Paired.nil (pass0 (X := X)) ha hdb he hpl
  have e : tCall sp [] E0 t = tCal sp t := by
    funext σ H Q
    show (t σ H fun vs H1 => sp (vs ++ []) H1 Q E0) = t σ H fun vs H1 => sp vs H1 Q E0
    congr 1
    funext vs H1
    rw [List.append_nil]
  rw [e] at h
  exact h
theorem pe_cal0 {X : Cx} {x : Str} {k : Nat} {ps : List Str} {sp : Sp} {p pos : Pos} (c : Cal X.prog X.w X.K X.mg X.base x k ps sp) (hr : Room k X.A) (hg : Gl X x := by rfl)
    (hdb : (x == ("__debug__" : Str)) = false := by decide) : PE X (.Call (.Name x p) [] [] pos) (tCal sp tNil) := by
  obtain ⟨f, fd, F, hm, hk, hb, _⟩ := c
  exact pe_call0 (p := p) (pos := pos) F hr hg hm hk hb Paired.nil (pass0 (X := X)) hdb

/-! promises by the number of arguments -/
def sp1 (f : V → Hp → VK → Prop) : Sp := fun vs H Q _ => ∃ a, vs = [a] ∧ f a H Q
def sp2 (f : V → V → Hp → VK → Prop) : Sp := fun vs H Q _ => ∃ a b, vs = [a, b] ∧ f a b H Q
def sp3 (f : V → V → V → Hp → VK → Prop) : Sp := fun vs H Q _ => ∃ a b c, vs = [a, b, c] ∧ f a b c H Q
def sp4 (f : V → V → V → V → Hp → VK → Prop) : Sp := fun vs H Q _ => ∃ a b c d, vs = [a, b, c, d] ∧ f a b c d H Q
def sp5 (f : V → V → V → V → V → Hp → VK → Prop) : Sp := fun vs H Q _ => ∃ a b c d e, vs = [a, b, c, d, e] ∧ f a b c d e H Q
theorem rd_sp1 {f : V → Hp → VK → Prop} {a : V} {H : Hp} {Q : VK} {E : XK} (h : f a H Q) : sp1 f [a] H Q E := ⟨a, rfl, h⟩
theorem rd_sp2 {f : V → V → Hp → VK → Prop} {a b : V} {H : Hp} {Q : VK} {E : XK} (h : f a b H Q) : sp2 f [a, b] H Q E := ⟨a, b, rfl, h⟩
theorem rd_sp3 {f : V → V → V → Hp → VK → Prop} {a b c : V} {H : Hp} {Q : VK} {E : XK} (h : f a b c H Q) : sp3 f [a, b, c] H Q E := ⟨a, b, c, rfl, h⟩
theorem rd_sp4 {f : V → V → V → V → Hp → VK → Prop} {a b c d : V} {H : Hp} {Q : VK} {E : XK} (h : f a b c d H Q) : sp4 f [a, b, c, d] H Q E := ⟨a, b, c, d, rfl, h⟩
theorem rd_sp5 {f : V → V → V → V → V → Hp → VK → Prop} {a b c d e : V} {H : Hp} {Q : VK} {E : XK} (h : f a b c d e H Q) : sp5 f [a, b, c, d, e] H Q E := ⟨a, b, c, d, e, rfl, h⟩
section
variable {P : Program} {w : World} {K : PySem.W.Frag} {mg : Str → Option Value} {base : Heap} {x : Str} {st : Stmt} {N ps : List Str} {k : Nat}
def FunAt (K : PySem.W.Frag) (mg : Str → Option Value) (x : Str) (st : Stmt) : Prop := ∃ f fd, Fun K x x st f fd ∧ mg x = some (.ref f)
def BindOk (x : Str) (st : Stmt) (ps : List Str) : Prop := ∀ (kV doc pm : Value) (an : Option Addr) (cdv ct : Value) (us : List Value), us.length = ps.length → bindArgs (PySem.W.fnOf x x (defArgs st) (defBody st) (defScope st) .none kV doc pm an cdv ct) ⟨us, []⟩ = pure (ps.zip us)
theorem cal_mk {sp : Sp} (F : FunAt K mg x st) (S : FnScope N ps (defScope st)) (hb : BindOk x st ps) (len : ∀ vs H Q E, sp vs H Q E → vs.length = ps.length)
    (hbody : ∀ (f : Addr) (cdv : Value) (A : Around) (outer : List Env) (s : Shared) (H : Hp) (vs : List V) (Q : VK) (E : XK), Room k (A.deeper (envOfC x (defScope st) s.heap.objs.size f cdv)) → sp vs H Q E →
      ∃ t, PSs (cxOf CX0 P w K mg base N x (defScope st) f cdv A outer s H E).nox (defBody st) t ∧ t { nx := fun _ H' => Q .non H', rt := Q } (start N vs) H) : Cal P w K mg base x (k + 1) ps sp := by
  obtain ⟨f, fd, F, hm⟩ := F
  refine ⟨f, fd, F.ok S len (hbody f), hm, F.kp, F.binds hb, ?_⟩
  obtain ⟨oc, od, kV, doc, pm, an, cdv, ct, osl, _, l, _⟩ := F.ex
  exact ⟨oc, od, osl, l⟩
theorem cal1 {f : V → Hp → VK → Prop} (F : FunAt K mg x st) (S : FnScope N ps (defScope st)) (hb : BindOk x st ps) (hn : ps.length = 1)
    (hbody : ∀ (g : Addr) (cdv : Value) (A : Around) (outer : List Env) (s : Shared) (H : Hp) (a : V) (Q : VK) (E : XK), Room k (A.deeper (envOfC x (defScope st) s.heap.objs.size g cdv)) → f a H Q →
      ∃ t, PSs (cxOf CX0 P w K mg base N x (defScope st) g cdv A outer s H E).nox (defBody st) t ∧ t { nx := fun _ H' => Q .non H', rt := Q } (start N [a]) H) : Cal P w K mg base x (k + 1) ps (sp1 f) :=
  cal_mk F S hb (fun vs H Q E h => by obtain ⟨a, rfl, _⟩ := h; exact hn.symm) fun g cdv A outer s H vs Q E hr h => by obtain ⟨a, rfl, h⟩ := h; exact hbody g cdv A outer s H a Q E hr h
theorem cal2 {f : V → V → Hp → VK → Prop} (F : FunAt K mg x st) (S : FnScope N ps (defScope st)) (hb : BindOk x st ps) (hn : ps.length = 2)
    (hbody : ∀ (g : Addr) (cdv : Value) (A : Around) (outer : List Env) (s : Shared) (H : Hp) (a b : V) (Q : VK) (E : XK), Room k (A.deeper (envOfC x (defScope st) s.heap.objs.size g cdv)) → f a b H Q →
      ∃ t, PSs (cxOf CX0 P w K mg base N x (defScope st) g cdv A outer s H E).nox (defBody st) t ∧ t { nx := fun _ H' => Q .non H', rt := Q } (start N [a, b]) H) : Cal P w K mg base x (k + 1) ps (sp2 f) :=
  cal_mk F S hb (fun vs H Q E h => by obtain ⟨a, b, rfl, _⟩ := h; exact hn.symm) fun g cdv A outer s H vs Q E hr h => by obtain ⟨a, b, rfl, h⟩ := h; exact hbody g cdv A outer s H a b Q E hr h
theorem cal3 {f : V → V → V → Hp → VK → Prop} (F : FunAt K mg x st) (S : FnScope N ps (defScope st)) (hb : BindOk x st ps) (hn : ps.length = 3)
    (hbody : ∀ (g : Addr) (cdv : Value) (A : Around) (outer : List Env) (s : Shared) (H : Hp) (a b c : V) (Q : VK) (E : XK), Room k (A.deeper (envOfC x (defScope st) s.heap.objs.size g cdv)) → f a b c H Q →
      ∃ t, PSs (cxOf CX0 P w K mg base N x (defScope st) g cdv A outer s H E).nox (defBody st) t ∧ t { nx := fun _ H' => Q .non H', rt := Q } (start N [a, b, c]) H) : Cal P w K mg base x (k + 1) ps (sp3 f) :=
  cal_mk F S hb (fun vs H Q E h => by obtain ⟨a, b, c, rfl, _⟩ := h; exact hn.symm) fun g cdv A outer s H vs Q E hr h => by obtain ⟨a, b, c, rfl, h⟩ := h; exact hbody g cdv A outer s H a b c Q E hr h
theorem cal4 {f : V → V → V → V → Hp → VK → Prop} (F : FunAt K mg x st) (S : FnScope N ps (defScope st)) (hb : BindOk x st ps) (hn : ps.length = 4)
    (hbody : ∀ (g : Addr) (cdv : Value) (A : Around) (outer : List Env) (s : Shared) (H : Hp) (a b c d : V) (Q : VK) (E : XK), Room k (A.deeper (envOfC x (defScope st) s.heap.objs.size g cdv)) → f a b c d H Q →
      ∃ t, PSs (cxOf CX0 P w K mg base N x (defScope st) g cdv A outer s H E).nox (defBody st) t ∧ t { nx := fun _ H' => Q .non H', rt := Q } (start N [a, b, c, d]) H) : Cal P w K mg base x (k + 1) ps (sp4 f) :=
  cal_mk F S hb (fun vs H Q E h => by obtain ⟨a, b, c, d, rfl, _⟩ := h; exact hn.symm) fun g cdv A outer s H vs Q E hr h => by obtain ⟨a, b, c, d, rfl, h⟩ := h; exact hbody g cdv A outer s H a b c d Q E hr h
theorem cal5 {f : V → V → V → V → V → Hp → VK → Prop} (F : FunAt K mg x st) (S : FnScope N ps (defScope st)) (hb : BindOk x st ps) (hn : ps.length = 5)
    (hbody : ∀ (g : Addr) (cdv : Value) (A : Around) (outer : List Env) (s : Shared) (H : Hp) (a b c d e : V) (Q : VK) (E : XK), Room k (A.deeper (envOfC x (defScope st) s.heap.objs.size g cdv)) → f a b c d e H Q →
      ∃ t, PSs (cxOf CX0 P w K mg base N x (defScope st) g cdv A outer s H E).nox (defBody st) t ∧ t { nx := fun _ H' => Q .non H', rt := Q } (start N [a, b, c, d, e]) H) : Cal P w K mg base x (k + 1) ps (sp5 f) :=
  cal_mk F S hb (fun vs H Q E h => by obtain ⟨a, b, c, d, e, rfl, _⟩ := h; exact hn.symm) fun g cdv A outer s H vs Q E hr h => by obtain ⟨a, b, c, d, e, rfl, h⟩ := h; exact hbody g cdv A outer s H a b c d e Q E hr h
theorem Cal.mono {sp : Sp} {j : Nat} (c : Cal P w K mg base x k ps sp) (h : k ≤ j) : Cal P w K mg base x j ps sp := by
  obtain ⟨f, fd, F, r⟩ := c
  exact ⟨f, fd, F.mono h, r⟩
end

/-- the law's own def, for the end -/
theorem law_fd {P : Program} {w : World} {K : PySem.W.Frag} {mg : Str → Option Value} {x : Str} {st : Stmt} {p : Str} {k : Nat} {sp : Sp} {fa : Addr} {good : Heap → Prop} (F : FunAt K mg x st) (hb : BindOk x st [p]) (hfa : mg x = some (.ref fa))
    (h : ∀ base : Heap, good base → Cal P w K mg base x k [p] sp) :
    ∃ fd : FuncData, (∀ (s : Shared) (v : Value), BindsTo s fd ⟨[v], []⟩ [(p, v)]) ∧ ∀ base : Heap, good base → FnOk P w K mg base CX0 k fa fd [p] sp := by
  obtain ⟨f, fd, F, hm⟩ := F
  rw [hfa] at hm
  cases hm
  obtain ⟨oc, od, kV, doc, pm, an, cdv, ct, osl, rfl, l, _⟩ := F.ex
  refine ⟨_, fun s v => .of_eq (hb kV doc pm an cdv ct [v] rfl), fun base g => ?_⟩
  obtain ⟨f', fd', F', hm', _, _, oc', od', osl', l'⟩ := h base g
  rw [hfa] at hm'
  cases hm'
  rw [l] at l'
  cases l'
  exact F'

/-! names of the module -/
theorem pe_gint {X : Cx} {x : Str} {i : Int} {pos : Pos} (hm : ∃ t, X.mg x = some (.int i t)) (hg : Gl X x := by rfl) (hd : (x == ("__debug__" : Str)) = false := by decide) : PE X (.Name x pos) (tC (.int i)) := by
  obtain ⟨t, h⟩ := hm
  exact pe_glob hg h ⟨_, rfl⟩ hd
theorem pe_gstr {X : Cx} {x : Str} {i : Str} {pos : Pos} (hm : ∃ t, X.mg x = some (.str i t)) (hg : Gl X x := by rfl) (hd : (x == ("__debug__" : Str)) = false := by decide) : PE X (.Name x pos) (tC (.str i)) := by
  obtain ⟨t, h⟩ := hm
  exact pe_glob hg h ⟨_, rfl⟩ hd
theorem pe_ty {X : Cx} {x : Str} {n : String} {pos : Pos} (hm : X.mg x = none) (hv : bootBuiltins x = some (.type n)) (hg : Gl X x := by rfl) (hn : x ≠ "__name__" := by decide) (hd : (x == ("__debug__" : Str)) = false := by decide) : PE X (.Name x pos) (tC (.ty n)) :=
  pe_bltn hg hm hv rfl hn hd

/-! operators, all kinds -/
abbrev rAddS0 : R2 := fun x y H Q => ∃ i j, x = .str i ∧ y = .str j ∧ i.length + j.length ≤ sizeLine ∧ Q (.str (i ++ j)) H
def rAddA (K : PySem.W.Frag) : R2 := fun x y H Q => (rI0 (fun i j => .int (i + j)) x y H Q ∨ rAddS0 x y H Q) ∨ (rCatA K x y H Q ∨ rCat x y H Q)
theorem op_addA {X : Cx} : OpR X (binaryOp .Add) (rAddA X.K) := (op_add.or op_add_str).or (op_catA.or op_cat)
def rEqA (K : PySem.W.Frag) : R2 := fun x y H Q => rEq x y H Q ∨ rEqD K x y H Q
def rNeA (K : PySem.W.Frag) : R2 := fun x y H Q => rNe x y H Q ∨ rNeD K x y H Q
theorem op_eqA {X : Cx} {k : Nat} (hr : Room k X.A) : OpR X (compareOp .Eq) (rEqA X.K) := op_eq.or (op_eqD hr.units)
theorem op_neA {X : Cx} {k : Nat} (hr : Room k X.A) : OpR X (compareOp .NotEq) (rNeA X.K) := op_ne.or (op_neD hr.units)
def rLenA (K : PySem.W.Frag) : List V → Hp → VK → Prop := fun xs H Q => ∃ x n, xs = [x] ∧ LenV K x H n ∧ Q (.int n) H
theorem cr_lenA {X : Cx} : CallR X (.builtin "len") (rLenA X.K) := call_len
def rTupOf (K : PySem.W.Frag) : List V → Hp → VK → Prop := fun xs H Q => ∃ p ys, xs = [.ref p] ∧ ((SqL K H p ys ∧ ∀ l, H l = none → Q (.ref l) (upd H l (.tup ys))) ∨ (SqT K H p ys ∧ Q (.ref p) H))
theorem cr_tupOf {X : Cx} : CallR X (.type "tuple") (rTupOf X.K) := call_tuple_of
def rLstOf (K : PySem.W.Frag) : List V → Hp → VK → Prop := fun xs H Q => ∃ p ys, xs = [.ref p] ∧ (SqL K H p ys ∨ SqT K H p ys) ∧ ∀ l, H l = none → Q (.ref l) (upd H l (.lst ys))
theorem cr_lstOf {X : Cx} : CallR X (.type "list") (rLstOf X.K) := call_list_of
def rInt1 : List V → Hp → VK → Prop := fun xs H Q => (∃ i, xs = [.int i] ∧ Q (.int i) H) ∨ ∃ k, xs = [.bl k] ∧ Q (.int (if k then 1 else 0)) H
theorem cr_int1 {X : Cx} : CallR X (.type "int") rInt1 := call_int1
def rMin2 : List V → Hp → VK → Prop := fun xs H Q => ∃ i j, xs = [.int i, .int j] ∧ Q (.int (if j < i then j else i)) H
theorem cr_min2 {X : Cx} (hc : X.calm = true) : CallR X (.builtin "min") rMin2 := call_min2 hc
def rMax2 : List V → Hp → VK → Prop := fun xs H Q => ∃ i j, xs = [.int i, .int j] ∧ Q (.int (if j > i then j else i)) H
theorem cr_max2 {X : Cx} (hc : X.calm = true) : CallR X (.builtin "max") rMax2 := call_max2 hc

/-! walked things, all kinds -/
theorem pi_or {X : Cx} {tg e : Expr} {a b : TI} (h : PI X tg e a) (h' : PI X tg e b) : PI X tg e (fun σ H R => a σ H R ∨ b σ H R) :=
  ⟨fun pins s σ H R I hw => hw.elim (fun z => h.run pins s σ H R I z) fun z => h'.run pins s σ H R I z⟩
def iSeq (K : PySem.W.Frag) (t : TE) : TI := fun σ H R => t σ H fun x H1 => ((∃ a, x = .ref a ∧ (∃ xs, SqL K H1 a xs) ∧ R (Itl K a) H1) ∨ (∃ a, x = .ref a ∧ (∃ xs, SqT K H1 a xs) ∧ R (Itt K a) H1)) ∨ ∃ z, x = .str z ∧ R (Its z) H1
theorem pi_seq {X : Cx} {tg e : Expr} {te : TE} (he : PE X e te) : PI X tg e (iSeq X.K te) := by
  refine ⟨fun pins s σ H R I h => ?_⟩
  refine thn (he.run pins s σ H _ I h) fun v s1 ⟨x, H1, I1, r1, q1⟩ => ?_
  rcases q1 with (q | q) | q
  · obtain ⟨a, e, ⟨xs, hq⟩, q⟩ := q
    subst e
    cases r1
    obtain ⟨its, rv, p, hz⟩ := I1.list hq
    refine wpAny_pyIter_list p.isList ?_
    refine ⟨s1.heap.objs.size, [s1.heap.objs.size], _, _, H1, rfl, I1.kept (t' := s1.toks) fun b o e => Heap.get?_push_of_some _ e, turn_list a _, ⟨_, Heap.get?_push_size _ rfl, rfl, rfl⟩, fun b hb => ?_, q⟩
    have e : b = s1.heap.objs.size := by simpa using hb
    subst e
    exact I1.fpOk (Nat.le_refl _) (I1.hok.fresh (Nat.le_refl _))
  · obtain ⟨a, e, ⟨xs, hq⟩, q⟩ := q
    subst e
    cases r1
    obtain ⟨its, rv, p, hz⟩ := I1.tuple hq
    refine wpAny_pyIter_tuple (show s1.heap.IsTuple a its.toArray from p) ?_
    refine ⟨s1.heap.objs.size, [s1.heap.objs.size], _, _, H1, rfl, I1.kept (t' := s1.toks) fun b o e => Heap.get?_push_of_some _ e, turn_tuple a _, ⟨_, Heap.get?_push_size _ rfl, rfl, rfl⟩, fun b hb => ?_, q⟩
    have e : b = s1.heap.objs.size := by simpa using hb
    subst e
    exact I1.fpOk (Nat.le_refl _) (I1.hok.fresh (Nat.le_refl _))
  · obtain ⟨z, e, q⟩ := q
    subst e
    obtain ⟨t, rfl⟩ := r1
    cases ha : z.cps.all (· < 128)
    · exact wpAny_pyIter_wide ha (pi_one (tk := s1.toks) I1 _ (turn_str _ z t "str_iterator" (.inr rfl)) ⟨_, Heap.get?_push_size _ rfl, rfl, rfl⟩ q)
    · exact wpAny_pyIter_ascii ha (pi_one (tk := s1.toks) I1 _ (turn_str _ z t "str_ascii_iterator" (.inl rfl)) ⟨_, Heap.get?_push_size _ rfl, rfl, rfl⟩ q)

/-! slices, all kinds -/
def rSlX (K : PySem.W.Frag) : V → Option Int → Option Int → Hp → VK → Prop := fun x lo hi H Q => (rSlL K x lo hi H Q ∨ rSlA K x lo hi H Q) ∨ rSlS x lo hi H Q
theorem sl_any {X : Cx} : SlR X (rSlX X.K) := (sl_list.or sl_tupA).or sl_str

/-! ### data that stays: None, truths, ints, texts, tuples; of a list only that it is one -/
inductive T where
  | non | bl (b : Bool) | int (i : Int) | str (s : Str) | tup (ts : List T) | lst
mutual
inductive Tv (K : PySem.W.Frag) (H : Hp) : V → T → Prop
  | non : Tv K H .non .non
  | bl (b : Bool) : Tv K H (.bl b) (.bl b)
  | int (i : Int) : Tv K H (.int i) (.int i)
  | str (s : Str) (h : s.length ≤ 1000) : Tv K H (.str s) (.str s)
  | tup {a : Addr} {xs : List V} {ts : List T} : SqT K H a xs → TvA K H xs ts → Tv K H (.ref a) (.tup ts)
  | lst {a : Addr} {xs : List V} : SqL K H a xs → Tv K H (.ref a) .lst
inductive TvA (K : PySem.W.Frag) (H : Hp) : List V → List T → Prop
  | nil : TvA K H [] []
  | cons {v : V} {vs : List V} {t : T} {ts : List T} : Tv K H v t → TvA K H vs ts → TvA K H (v :: vs) (t :: ts)
end
/-- tuples stay, a list stays one -/
structure Tame (H H' : Hp) : Prop where
  tup : ∀ a xs, Rd H a (.tup xs) → Rd H' a (.tup xs)
  lst : ∀ a xs, Rd H a (.lst xs) → ∃ ys, Rd H' a (.lst ys)
theorem Tame.refl (H : Hp) : Tame H H := ⟨fun _ _ h => h, fun _ xs h => ⟨xs, h⟩⟩
theorem Tame.trans {H H1 H2 : Hp} (a : Tame H H1) (b : Tame H1 H2) : Tame H H2 :=
  ⟨fun x xs h => b.tup x xs (a.tup x xs h), fun x xs h => by obtain ⟨ys, h⟩ := a.lst x xs h; exact b.lst x ys h⟩
abbrev Ex := Evl.Ex
theorem Tame.ex {H H' : Hp} (e : Ex H H') : Tame H H' := ⟨fun _ _ h => Evl.ex_rd e h, fun _ xs h => ⟨xs, Evl.ex_rd e h⟩⟩
theorem Tame.sqT {K : PySem.W.Frag} {H H' : Hp} {a : Addr} {xs : List V} (e : Tame H H') (h : SqT K H a xs) : SqT K H' a xs := h.elim (fun z => .inl (e.tup _ _ z)) .inr
theorem Tame.sqL {K : PySem.W.Frag} {H H' : Hp} {a : Addr} {xs : List V} (e : Tame H H') (h : SqL K H a xs) : ∃ ys, SqL K H' a ys :=
  h.elim (fun z => by obtain ⟨ys, q⟩ := e.lst _ _ z; exact ⟨ys, .inl q⟩) fun z => ⟨xs, .inr z⟩
theorem Tame.upd {H : Hp} {a : Addr} {xs ys : List V} (h : H a = some (.lst xs)) : Tame H (upd H a (.lst ys)) := by
  refine ⟨fun b zs q => ?_, fun b zs q => ?_⟩
  · have ne : b ≠ a := by
      rintro rfl
      rcases q with q | ⟨o, q⟩
      · rw [h] at q; cases q
      · rw [h] at q; cases q
    rcases q with q | ⟨o, q⟩
    · exact .inl (by rw [upd_ne ne]; exact q)
    · exact .inr ⟨o, by rw [upd_ne ne]; exact q⟩
  · by_cases ne : b = a
    · subst ne
      exact ⟨ys, .inl upd_same⟩
    · rcases q with q | ⟨o, q⟩
      · exact ⟨zs, .inl (by rw [upd_ne ne]; exact q)⟩
      · exact ⟨zs, .inr ⟨o, by rw [upd_ne ne]; exact q⟩⟩
section
variable {K : PySem.W.Frag} {H H' : Hp}
mutual
theorem Tame.tv (e : Tame H H') : ∀ {v : V} {t : T}, Tv K H v t → Tv K H' v t
  | _, _, .non => .non
  | _, _, .bl b => .bl b
  | _, _, .int i => .int i
  | _, _, .str s h => .str s h
  | _, _, .tup h a => .tup (e.sqT h) (Tame.tvA e a)
  | _, _, .lst h => by obtain ⟨ys, q⟩ := e.sqL h; exact .lst q
theorem Tame.tvA (e : Tame H H') : ∀ {v : List V} {t : List T}, TvA K H v t → TvA K H' v t
  | _, _, .nil => .nil
  | _, _, .cons h a => .cons (Tame.tv e h) (Tame.tvA e a)
end
theorem TvA.len : ∀ {vs : List V} {ts : List T}, TvA K H vs ts → vs.length = ts.length
  | _, _, .nil => rfl
  | _, _, .cons _ a => congrArg (· + 1) a.len
theorem TvA.get : ∀ {vs : List V} {ts : List T} {i : Nat} {t : T}, TvA K H vs ts → ts[i]? = some t → ∃ v, vs[i]? = some v ∧ Tv K H v t
  | _, _, i, _, .nil, h => by simp at h
  | _, _, 0, _, .cons h _, e => by cases (Option.some.inj e); exact ⟨_, rfl, h⟩
  | _, _, i + 1, _, .cons _ a, e => a.get (i := i) e
theorem TvA.getV : ∀ {vs : List V} {ts : List T} {i : Nat} {v : V}, TvA K H vs ts → vs[i]? = some v → ∃ t, ts[i]? = some t ∧ Tv K H v t
  | _, _, i, _, .nil, h => by simp at h
  | _, _, 0, _, .cons h _, e => by cases (Option.some.inj e); exact ⟨_, rfl, h⟩
  | _, _, i + 1, _, .cons _ a, e => a.getV (i := i) e
theorem TvA.append : ∀ {xs ys : List V} {ts us : List T}, TvA K H xs ts → TvA K H ys us → TvA K H (xs ++ ys) (ts ++ us)
  | _, _, _, _, .nil, b => b
  | _, _, _, _, .cons h a, b => .cons h (a.append b)
theorem TvA.take : ∀ {xs : List V} {ts : List T} (n : Nat), TvA K H xs ts → TvA K H (xs.take n) (ts.take n)
  | _, _, 0, _ => .nil
  | _, _, n + 1, .nil => .nil
  | _, _, n + 1, .cons h a => .cons h (a.take n)
theorem TvA.drop : ∀ {xs : List V} {ts : List T} (n : Nat), TvA K H xs ts → TvA K H (xs.drop n) (ts.drop n)
  | _, _, 0, a => a
  | _, _, n + 1, .nil => .nil
  | _, _, n + 1, .cons _ a => a.drop n
def cutT (xs : List T) (lo hi : Option Int) : List T := (xs.drop (HT.sIx xs.length 0 lo)).take (HT.sIx xs.length xs.length hi - HT.sIx xs.length 0 lo)
theorem TvA.cut {xs : List V} {ts : List T} (h : TvA K H xs ts) (lo hi : Option Int) : TvA K H (cutV xs lo hi) (cutT ts lo hi) := by
  unfold cutV cutT
  rw [h.len]
  exact (h.drop _).take _
end
theorem TvA.one {K : PySem.W.Frag} {H : Hp} {v : V} {t : T} (h : Tv K H v t) : TvA K H [v] [t] := .cons h .nil
theorem Tv.tupE {K : PySem.W.Frag} {H : Hp} {v : V} {ts : List T} (h : Tv K H v (.tup ts)) : ∃ a xs, v = .ref a ∧ SqT K H a xs ∧ TvA K H xs ts := by
  cases h with | tup h a => exact ⟨_, _, rfl, h, a⟩
theorem TvA.consE {K : PySem.W.Frag} {H : Hp} {vs : List V} {t : T} {ts : List T} (h : TvA K H vs (t :: ts)) : ∃ x xs, vs = x :: xs ∧ Tv K H x t ∧ TvA K H xs ts := by
  cases h with | cons h a => exact ⟨_, _, rfl, h, a⟩
theorem TvA.nilE {K : PySem.W.Frag} {H : Hp} {vs : List V} (h : TvA K H vs []) : vs = [] := by cases h; rfl
theorem Tv.intE {K : PySem.W.Frag} {H : Hp} {v : V} {i : Int} (h : Tv K H v (.int i)) : v = .int i := by cases h; rfl
theorem Tv.strE {K : PySem.W.Frag} {H : Hp} {v : V} {i : Str} (h : Tv K H v (.str i)) : v = .str i := by cases h; rfl
theorem Tv.blE {K : PySem.W.Frag} {H : Hp} {v : V} {i : Bool} (h : Tv K H v (.bl i)) : v = .bl i := by cases h; rfl
theorem Tv.nonE {K : PySem.W.Frag} {H : Hp} {v : V} (h : Tv K H v .non) : v = .non := by cases h; rfl

theorem TvA.mem {K : PySem.W.Frag} {H : Hp} {vs : List V} {ts : List T} {v : V} (h : TvA K H vs ts) (m : v ∈ vs) : ∃ t, t ∈ ts ∧ Tv K H v t := by
  obtain ⟨i, e⟩ := List.getElem?_of_mem m
  obtain ⟨t, e2, hv⟩ := h.getV e
  exact ⟨t, List.mem_of_getElem? e2, hv⟩
/-! isinstance by kind -/
def tyT : T → String
  | .non => "NoneType" | .bl _ => "bool" | .int _ => "int" | .str _ => "str" | .tup _ => "tuple" | .lst => "list"
theorem Tv.ty {K : PySem.W.Frag} {H : Hp} {v : V} {t : T} (h : Tv K H v t) : TyX K H v (.type (tyT t)) := by
  cases h with
  | non => exact .base .non
  | bl b => exact .base (.bl b)
  | int i => exact .base (.int i)
  | str i _ => exact .base (.str i)
  | tup h _ =>
    rcases h with (h | ⟨o, h⟩) | ⟨o, its, n, h, c, _⟩
    · exact .base (.tup h)
    · exact .fTuple h
    · exact .kTuple h c
  | lst h =>
    rcases h with (h | ⟨o, h⟩) | ⟨o, its, n, h, c, _⟩
    · exact .base (.lst h)
    · exact .base (.frz h)
    · exact .kList h c
def isS (s n : String) : Bool := n == s || (s == "bool" && n == "int")
def isT (t : T) (n : String) : Bool := isS (tyT t) n
theorem kitS : ∀ s ∈ ["NoneType", "bool", "int", "str", "tuple", "list"], ∀ n ∈ ["int", "bool", "str", "tuple", "list"], kitB s n = some (isS s n) := by decide +kernel
theorem isT_kit {K : PySem.W.Frag} (t : T) {n : String} (hn : n ∈ ["int", "bool", "str", "tuple", "list"]) : PySem.W.kitOne K (.type (tyT t)) (.type n) = some (isT t n) := by
  refine kit_ty (kitS _ ?_ n hn)
  cases t <;> simp [tyT]
def isInt : T → Bool | .int _ => true | .bl _ => true | _ => false
def isBool : T → Bool | .bl _ => true | _ => false
def isStr : T → Bool | .str _ => true | _ => false
def isTup : T → Bool | .tup _ => true | _ => false
def isLst : T → Bool | .lst => true | _ => false
section
variable {K : PySem.W.Frag} {H : Hp} {Q : VK} {v : V} {t : T}
theorem rd_isi {n : String} {b : Bool} (h : Tv K H v t) (hn : n ∈ ["int", "bool", "str", "tuple", "list"]) (e : isT t n = b) (q : Q (.bl b) H) : rIsi K [v, .ty n] H Q :=
  ⟨v, .ty n, _, _, _, rfl, .ty n, h.ty, isT_kit t hn, by rw [e]; exact q⟩
theorem rd_isInt (h : Tv K H v t) (q : Q (.bl (isInt t)) H) : rIsi K [v, .ty "int"] H Q := rd_isi h (by decide) (by cases t <;> rfl) q
theorem rd_isBool (h : Tv K H v t) (q : Q (.bl (isBool t)) H) : rIsi K [v, .ty "bool"] H Q := rd_isi h (by decide) (by cases t <;> rfl) q
theorem rd_isStr (h : Tv K H v t) (q : Q (.bl (isStr t)) H) : rIsi K [v, .ty "str"] H Q := rd_isi h (by decide) (by cases t <;> rfl) q
theorem rd_isTup (h : Tv K H v t) (q : Q (.bl (isTup t)) H) : rIsi K [v, .ty "tuple"] H Q := rd_isi h (by decide) (by cases t <;> rfl) q
theorem rd_isLst (h : Tv K H v t) (q : Q (.bl (isLst t)) H) : rIsi K [v, .ty "list"] H Q := rd_isi h (by decide) (by cases t <;> rfl) q
end

/-! ### reading step by step -/
section
variable {K : PySem.W.Frag} {σ : L2.St} {H : Hp} {Q : VK} {ta tb tc te : TE} {tt tu : TT} {x y v : V} {D : Ends} {s1 s2 : TS}
theorem rd_var {i : Nat} (h : σ[i]? = some (some v)) (q : Q v H) : tVar i σ H Q := ⟨v, h, q⟩
theorem rd_c (q : Q v H) : tC v σ H Q := q
theorem rd_op {r : R2} (q : ta σ H fun x H1 => tb σ H1 fun y H2 => r x y H2 Q) : tOp r ta tb σ H Q := q
theorem rd_un {r : V → Hp → VK → Prop} (q : ta σ H fun x H1 => r x H1 Q) : tUn r ta σ H Q := q
theorem rd_cb {r : List V → Hp → VK → Prop} {t : TA} (q : t σ H fun vs H1 => r vs H1 Q) : tCB r t σ H Q := q
theorem rd_cal {sp : Sp} {t : TA} (q : t σ H fun vs H1 => sp vs H1 Q E0) : tCal sp t σ H Q := q
theorem rd_cons {t : TA} {R : List V → Hp → Prop} (q : ta σ H fun x H1 => t σ H1 fun xs H2 => R (x :: xs) H2) : tCons ta t σ H R := q
theorem rd_nil {R : List V → Hp → Prop} (q : R [] H) : tNil σ H R := q
def NewL (xs : List V) (H : Hp) (Q : VK) : Prop := xs.length ≤ sizeLine ∧ ∀ p, H p = none → Q (.ref p) (upd H p (.lst xs))
def NewT (xs : List V) (H : Hp) (Q : VK) : Prop := xs.length ≤ sizeLine ∧ ∀ p, H p = none → Q (.ref p) (upd H p (.tup xs))
theorem rd_tup {t : TA} (q : t σ H fun xs H1 => NewT xs H1 Q) : tTup t σ H Q := q
theorem rd_lst {t : TA} (q : t σ H fun xs H1 => NewL xs H1 Q) : tLst t σ H Q := q
theorem new_tup {xs : List V} (q : ∀ p H', H p = none → Ex H H' → H' p = some (.tup xs) → Q (.ref p) H') (hl : xs.length ≤ 1000 := by first | decide | assumption | simp) : NewT xs H Q :=
  ⟨Nat.le_of_lt (small1000 hl), fun p hp => q p _ hp (Evl.Ex.new hp) upd_same⟩
theorem new_lst {xs : List V} (q : ∀ p H', H p = none → Ex H H' → H' p = some (.lst xs) → Q (.ref p) H') (hl : xs.length ≤ 1000 := by first | decide | assumption | simp) : NewL xs H Q :=
  ⟨Nat.le_of_lt (small1000 hl), fun p hp => q p _ hp (Evl.Ex.new hp) upd_same⟩
theorem rd_test {R : Bool → Hp → Prop} (q : te σ H fun x H' => ∃ k, x = .bl k ∧ R k H') : tTest te σ H R := q
theorem rd_tB {R : Bool → Hp → Prop} (q : te σ H fun x H' => ∃ k, x = .bl k ∧ R k H') : tB te σ H R := q
theorem rd_bl {b : Bool} {R : Bool → Hp → Prop} (q : R b H) : ∃ k, V.bl b = .bl k ∧ R k H := ⟨b, rfl, q⟩
theorem rd_blP {b : Bool} {P : Bool → Prop} (q : P b) : ∃ k, V.bl b = .bl k ∧ P k := ⟨b, rfl, q⟩
def tTru (K : PySem.W.Frag) (ta : TE) : TT := fun σ H Q => ta σ H fun x H' => ∃ k, TruV K x H' k ∧ Q k H'
theorem pt_tru {X : Cx} {a : Expr} {ta : TE} (ha : PE X a ta) (he : ∀ whole, isTrue a X.env whole = (do let v ← whole; standAt a.pos; holding [v] (truthy v)) := by intro _; rfl) : PT X a (tTru X.K ta) := pt_truth ha he
theorem rd_tru {R : Bool → Hp → Prop} (q : ta σ H fun x H' => ∃ k, TruV K x H' k ∧ R k H') : tTru K ta σ H R := q
theorem rd_trub {b : Bool} {R : Bool → Prop} (q : R b) : ∃ k, TruV K (.bl b) H k ∧ R k := ⟨b, rfl, q⟩
theorem rd_trui {i : Int} {R : Bool → Prop} (q : R (i != 0)) : ∃ k, TruV K (.int i) H k ∧ R k := ⟨_, rfl, q⟩
theorem rd_trun {R : Bool → Prop} (q : R false) : ∃ k, TruV K .non H k ∧ R k := ⟨_, rfl, q⟩
theorem rd_truT {ts : List T} (h : Tv K H v (.tup ts)) {R : Bool → Prop} (q : R (!ts.isEmpty)) : ∃ k, TruV K v H k ∧ R k := by
  obtain ⟨a, xs, rfl, hs, ha⟩ := h.tupE
  refine ⟨_, .inr (.inl ⟨xs, hs, rfl⟩), ?_⟩
  have e : xs.isEmpty = ts.isEmpty := by cases ha <;> rfl
  rw [e]; exact q
theorem rd_truL {a : Addr} {xs : List V} (h : SqL K H a xs) {R : Bool → Prop} (q : R (!xs.isEmpty)) : ∃ k, TruV K (.ref a) H k ∧ R k := ⟨_, .inl ⟨xs, h, rfl⟩, q⟩
theorem rd_not {R : Bool → Hp → Prop} (q : tt σ H fun c H1 => R (!c) H1) : tNot tt σ H R := q
theorem rd_and {R : Bool → Hp → Prop} (q : tt σ H fun c H1 => if c = true then tu σ H1 R else R false H1) : tAnd tt tu σ H R := q
theorem rd_or {R : Bool → Hp → Prop} (q : tt σ H fun c H1 => if c = true then R true H1 else tu σ H1 R) : tOr tt tu σ H R := q
theorem rd_andV (q : ta σ H fun x H1 => ∃ c, x = .bl c ∧ if c = true then tb σ H1 Q else Q (.bl false) H1) : tAndV ta tb σ H Q := q
theorem rd_orV (q : ta σ H fun x H1 => ∃ c, x = .bl c ∧ if c = true then Q (.bl true) H1 else tb σ H1 Q) : tOrV ta tb σ H Q := q
theorem rd_notV (q : ta σ H fun x H1 => ∃ c, x = .bl c ∧ Q (.bl (!c)) H1) : tNotV ta σ H Q := q
theorem rd_ifE (q : tt σ H fun c H1 => if c = true then ta σ H1 Q else tb σ H1 Q) : tIf tt ta tb σ H Q := q
theorem rd_chain {r r' : R2} (q : ta σ H fun x H1 => tb σ H1 fun y H2 => r x y H2 fun z H3 => ∃ k, z = .bl k ∧ if k = true then tc σ H3 fun w H4 => r' y w H4 Q else Q (.bl false) H3) : tChain r r' ta tb tc σ H Q := q
theorem rd_seq (q : s1 { D with nx := s2 D } σ H) : tSeq s1 s2 D σ H := q
theorem rd_cut (M : L2.St → Hp → Prop) (h : s1 { D with nx := M } σ H) (k : ∀ σ' H', M σ' H' → s2 D σ' H') : Evl.tCut s1 s2 D σ H := ⟨M, h, k⟩
theorem rd_asg {g : TG} (q : te σ H fun x H1 => g x σ H1 D.nx) : tAsg te g D σ H := q
theorem rd_name {i : Nat} {σ' : L2.St} {R : L2.St → Hp → Prop} (e : σ.set i (some v) = σ') (q : R σ' H) : gName i v σ H R := by subst e; exact q
theorem rd_ifS (q : tt σ H fun b H1 => if b = true then s1 D σ H1 else s2 D σ H1) : tIfS tt s1 s2 D σ H := q
theorem rd_ret (q : te σ H D.rt) : tRet te D σ H := q
theorem rd_retN (q : D.rt .non H) : tRetN D σ H := q
theorem rd_drop (q : te σ H fun _ H1 => D.nx σ H1) : tDrop te D σ H := q
theorem rd_next (q : D.nx σ H) : tNext D σ H := q
theorem rd_brk (q : D.bk σ H) : tBreak D σ H := q
theorem rd_cont (q : D.ct σ H) : tCont D σ H := q
theorem rd_aug {i : Nat} {ti : TIp} {σ' : L2.St → L2.V → L2.St} (h : σ[i]? = some (some x)) (q : te σ H fun y H1 => ti x y H1 fun z H2 => gName i z σ H2 D.nx) : tAug i te ti D σ H := ⟨x, h, q⟩
theorem rd_par {i j : Nat} {t : TA} (q : t σ H fun vs H1 => ∃ v w, vs = [v, w] ∧ D.nx ((σ.set i (some v)).set j (some w)) H1) : tPar i j t D σ H := q
theorem rd_par2 {i j : Nat} {a b : V} {σ' : L2.St} {R : L2.St → Hp → Prop} (e : (σ.set i (some a)).set j (some b) = σ') (q : R σ' H) : ∃ v w, [a, b] = [v, w] ∧ R ((σ.set i (some v)).set j (some w)) H := ⟨a, b, rfl, by rw [e]; exact q⟩
theorem rd_gtup {n : Nat} {t : TGs} {a : Addr} {xs : List V} {R : L2.St → Hp → Prop} (h : SqT K H a xs) (hl : xs.length = n) (q : t xs σ H R) : gTup K n t (.ref a) σ H R := ⟨a, xs, rfl, h, hl, q⟩
theorem rd_gcons {g : TG} {t : TGs} {xs : List V} {R : L2.St → Hp → Prop} (q : g x σ H fun σ' H' => t xs σ' H' R) : gCons g t (x :: xs) σ H R := ⟨x, xs, rfl, q⟩
theorem rd_gnil {R : L2.St → Hp → Prop} (q : R σ H) : gNil [] σ H R := ⟨rfl, q⟩
theorem rd_gsub {to ti : TE} {t : TSet} {R : L2.St → Hp → Prop} (q : to σ H fun o H1 => ti σ H1 fun i H2 => t o i v H2 fun H3 => R σ H3) : gSub to ti t v σ H R := q
theorem rd_setL {p : Addr} {xs : List V} {k : Int} {j : Nat} {R : Hp → Prop} (h : H p = some (.lst xs)) (hk : ixN xs.length k = some j) (q : R (upd H p (.lst (xs.set j v)))) : rSetL (.ref p) (.int k) v H R := ⟨p, xs, k, j, rfl, rfl, h, hk, q⟩
theorem rd_bm {T' : String} {r : V → List V → Hp → VK → Prop} {to : TE} {t : TA} (q : to σ H fun x H1 => tyV K T' x H1 ∧ t σ H1 fun xs H2 => r x xs H2 Q) : tBM K T' r to t σ H Q := q
theorem rd_tyL {a : Addr} {xs : List V} {B : Prop} (h : SqL K H a xs) (q : B) : tyV K "list" (.ref a) H ∧ B := ⟨.inl ⟨rfl, _, h⟩, q⟩
theorem rd_append {l : Addr} {xs : List V} {y : V} (h : H l = some (.lst xs)) (hl : xs.length < 1000) (q : Q .non (upd H l (.lst (xs ++ [y])))) : rAppend (.ref l) [y] H Q := ⟨l, xs, y, rfl, rfl, h, small1000 (Nat.le_of_lt hl), q⟩
theorem rd_sl {r : V → Option Int → Option Int → Hp → VK → Prop} {tl th : TO} (q : te σ H fun x H1 => tl σ H1 fun l H2 => th σ H2 fun u H3 => r x l u H3 Q) : tSl r te tl th σ H Q := q
theorem rd_part {R : Option Int → Hp → Prop} (q : te σ H fun x H1 => ∃ i, x = .int i ∧ R (some i) H1) : tPart te σ H R := q
theorem rd_partI {i : Int} {R : Int → Prop} (q : R i) : ∃ j, V.int i = .int j ∧ R j := ⟨i, rfl, q⟩
theorem rd_nopart {R : Option Int → Hp → Prop} (q : R none H) : tNoPart σ H R := q
/-! values -/
theorem rd_addI {i j : Int} (q : Q (.int (i + j)) H) : rAddA K (.int i) (.int j) H Q := .inl (.inl ⟨i, j, rfl, rfl, q⟩)
theorem rd_addS {i j : Str} (hl : i.length + j.length ≤ 1000) (q : Q (.str (i ++ j)) H) : rAddA K (.str i) (.str j) H Q := .inl (.inr ⟨i, j, rfl, rfl, Nat.le_of_lt (small1000 hl), q⟩)
theorem rd_addT {a b : Addr} {xs ys : List V} (ha : SqT K H a xs) (hb : SqT K H b ys) (hl : xs.length + ys.length ≤ 1000) (q : ∀ p H', Ex H H' → SqT K H' p (xs ++ ys) → Q (.ref p) H') : rAddA K (.ref a) (.ref b) H Q := by
  refine .inr (.inl ⟨a, b, xs, ys, rfl, rfl, ha, hb, Nat.le_of_lt (small1000 hl), fun e => ?_, fun e e' => ?_, fun _ _ p hp => q p _ (Evl.Ex.new hp) (.inl (.inl upd_same))⟩)
  · subst e
    exact q b H (Evl.Ex.refl H) hb
  · subst e'
    exact q a H (Evl.Ex.refl H) (by rw [List.append_nil]; exact ha)
theorem rd_addL {a b : Addr} {xs ys : List V} (ha : H a = some (.lst xs)) (hb : H b = some (.lst ys)) (hl : xs.length + ys.length ≤ 1000) (q : ∀ p H', H p = none → Ex H H' → H' p = some (.lst (xs ++ ys)) → Q (.ref p) H') : rAddA K (.ref a) (.ref b) H Q :=
  .inr (.inr ⟨a, b, xs, ys, rfl, rfl, ha, hb, Nat.le_of_lt (small1000 hl), fun p hp => q p _ hp (Evl.Ex.new hp) upd_same⟩)
theorem rd_I0 {i j : Int} {g : Int → Int → V} (q : Q (g i j) H) : rI0 g (.int i) (.int j) H Q := ⟨i, j, rfl, rfl, q⟩
theorem rd_I {i j : Int} {C : Int → Int → Prop} {g : Int → Int → V} (h : C i j) (q : Q (g i j) H) : rI C g (.int i) (.int j) H Q := ⟨i, j, rfl, rfl, h, q⟩
theorem rd_pow9 (q : Q (.int 1000000000) H) : rI CPow (fun i j => .int (i ^ j.toNat)) (.int 10) (.int 9) H Q := ⟨10, 9, rfl, rfl, ⟨by decide, by decide, by decide⟩, q⟩
theorem rd_pow12 (q : Q (.int 1000000000000) H) : rI CPow (fun i j => .int (i ^ j.toNat)) (.int 10) (.int 12) H Q := ⟨10, 12, rfl, rfl, ⟨by decide, by decide, by decide⟩, q⟩
theorem rd_U {i : Int} {g : Int → V} (q : Q (g i) H) : rU g (.int i) H Q := ⟨i, rfl, q⟩
theorem rd_eqI {i j : Int} (q : Q (.bl (decide (i = j))) H) : rEqA K (.int i) (.int j) H Q := .inl ⟨rfl, by rw [show decide (V.int i = V.int j) = decide (i = j) from by rw [Bool.eq_iff_iff]; simp]; exact q⟩
theorem rd_eqS {i j : Str} (q : Q (.bl (decide (i = j))) H) : rEqA K (.str i) (.str j) H Q := .inl ⟨rfl, by rw [show decide (V.str i = V.str j) = decide (i = j) from by rw [Bool.eq_iff_iff]; simp]; exact q⟩
theorem rd_eqB {i j : Bool} (q : Q (.bl (decide (i = j))) H) : rEqA K (.bl i) (.bl j) H Q := .inl ⟨rfl, by rw [show decide (V.bl i = V.bl j) = decide (i = j) from by rw [Bool.eq_iff_iff]; simp]; exact q⟩
theorem rd_neI {i j : Int} (q : Q (.bl (!decide (i = j))) H) : rNeA K (.int i) (.int j) H Q := .inl ⟨rfl, by rw [show decide (V.int i = V.int j) = decide (i = j) from by rw [Bool.eq_iff_iff]; simp]; exact q⟩
theorem rd_neS {i j : Str} (q : Q (.bl (!decide (i = j))) H) : rNeA K (.str i) (.str j) H Q := .inl ⟨rfl, by rw [show decide (V.str i = V.str j) = decide (i = j) from by rw [Bool.eq_iff_iff]; simp]; exact q⟩
theorem rd_neB {i j : Bool} (q : Q (.bl (!decide (i = j))) H) : rNeA K (.bl i) (.bl j) H Q := .inl ⟨rfl, by rw [show decide (V.bl i = V.bl j) = decide (i = j) from by rw [Bool.eq_iff_iff]; simp]; exact q⟩
theorem rd_lenL {a : Addr} {xs : List V} (h : SqL K H a xs) (q : Q (.int (xs.length : Nat)) H) : rLenA K [.ref a] H Q := ⟨_, xs.length, rfl, .inl ⟨xs, h, rfl⟩, q⟩
theorem rd_lenT {a : Addr} {xs : List V} (h : SqT K H a xs) (q : Q (.int (xs.length : Nat)) H) : rLenA K [.ref a] H Q := ⟨_, xs.length, rfl, .inr ⟨xs, h, rfl⟩, q⟩
theorem rd_lenS {s : Str} (h : s.length ≤ 1000) (q : Q (.int (s.length : Nat)) H) : rLenA K [.str s] H Q := ⟨_, s.length, rfl, ⟨Nat.le_of_lt (small1000 h), rfl⟩, q⟩
theorem rd_ixL {a : Addr} {xs : List V} {i : Int} {v : V} (h : SqL K H a xs) (e : atI xs i = some v) (q : Q v H) : rIx K (.ref a) (.int i) H Q := .inl ⟨a, xs, i, v, rfl, rfl, h, e, q⟩
theorem rd_ixT {a : Addr} {xs : List V} {i : Int} {v : V} (h : SqT K H a xs) (e : atI xs i = some v) (q : Q v H) : rIx K (.ref a) (.int i) H Q := .inr (.inl ⟨a, xs, i, v, rfl, rfl, h, e, q⟩)
theorem rd_ixS {z : Str} {i : Int} {c : Nat} (h : z.length ≤ 1000) (e : atI z.cps.toList i = some c) (q : Q (.str ⟨#[c]⟩) H) : rIx K (.str z) (.int i) H Q := .inr (.inr ⟨z, i, c, rfl, rfl, Nat.le_of_lt (small1000 h), e, q⟩)
theorem rd_tupOfL {a : Addr} {xs : List V} (h : SqL K H a xs) (q : ∀ p H', H p = none → Ex H H' → H' p = some (.tup xs) → Q (.ref p) H') : rTupOf K [.ref a] H Q := ⟨a, xs, rfl, .inl ⟨h, fun p hp => q p _ hp (Evl.Ex.new hp) upd_same⟩⟩
theorem rd_lstOfT {a : Addr} {xs : List V} (h : SqT K H a xs) (q : ∀ p H', H p = none → Ex H H' → H' p = some (.lst xs) → Q (.ref p) H') : rLstOf K [.ref a] H Q := ⟨a, xs, rfl, .inr h, fun p hp => q p _ hp (Evl.Ex.new hp) upd_same⟩
theorem rd_lstOfL {a : Addr} {xs : List V} (h : SqL K H a xs) (q : ∀ p H', H p = none → Ex H H' → H' p = some (.lst xs) → Q (.ref p) H') : rLstOf K [.ref a] H Q := ⟨a, xs, rfl, .inl h, fun p hp => q p _ hp (Evl.Ex.new hp) upd_same⟩
theorem rd_intB {b : Bool} (q : Q (.int (if b then 1 else 0)) H) : rInt1 [.bl b] H Q := .inr ⟨b, rfl, q⟩
theorem rd_intI {i : Int} (q : Q (.int i) H) : rInt1 [.int i] H Q := .inl ⟨i, rfl, q⟩
theorem rd_min2 {i j : Int} (q : Q (.int (if j < i then j else i)) H) : rMin2 [.int i, .int j] H Q := ⟨i, j, rfl, q⟩
theorem rd_max2 {i j : Int} (q : Q (.int (if j > i then j else i)) H) : rMax2 [.int i, .int j] H Q := ⟨i, j, rfl, q⟩
theorem rd_slT {a : Addr} {xs : List V} {lo hi : Option Int} (h : SqT K H a xs) (q : ∀ p H', Ex H H' → SqT K H' p (cutV xs lo hi) → Q (.ref p) H') : rSlX K (.ref a) lo hi H Q := by
  refine .inl (.inr ⟨a, xs, rfl, h, fun e => ?_, fun _ p hp => q p _ (Evl.Ex.new hp) (.inl (.inl upd_same))⟩)
  have ec : cutV xs lo hi = xs := by
    unfold cutV
    rw [e.1, e.2, List.drop_zero, Nat.sub_zero, List.take_length]
  exact q a H (Evl.Ex.refl H) (by rw [ec]; exact h)
theorem rd_slL {a : Addr} {xs : List V} {lo hi : Option Int} (h : SqL K H a xs) (q : ∀ p H', H p = none → Ex H H' → H' p = some (.lst (cutV xs lo hi)) → Q (.ref p) H') : rSlX K (.ref a) lo hi H Q :=
  .inl (.inl ⟨a, xs, rfl, h, fun p hp => q p _ hp (Evl.Ex.new hp) upd_same⟩)
theorem rd_slS {z : Str} {lo hi : Option Int} (h : z.length ≤ 1000) (q : Q (.str (cutS z lo hi)) H) : rSlX K (.str z) lo hi H Q := .inr ⟨z, rfl, Nat.le_of_lt (small1000 h), q⟩
def rSignIn : R2 := fun x y H Q => ∃ (c : Nat) (z : Str), x = .str ⟨#[c]⟩ ∧ y = .str z ∧ Q (.bl (decide (c ∈ z.cps.toList))) H
def rSignOut : R2 := fun x y H Q => ∃ (c : Nat) (z : Str), x = .str ⟨#[c]⟩ ∧ y = .str z ∧ Q (.bl (!decide (c ∈ z.cps.toList))) H
theorem op_signIn {X : Cx} : OpR X (compareOp .In) rSignIn := op_in_sign
theorem op_signOut {X : Cx} : OpR X (compareOp .NotIn) rSignOut := op_notIn_sign
theorem rd_signIn {c : Nat} {z : Str} (q : Q (.bl (decide (c ∈ z.cps.toList))) H) : rSignIn (.str ⟨#[c]⟩) (.str z) H Q := ⟨c, z, rfl, rfl, q⟩
theorem rd_signOut {c : Nat} {z : Str} (q : Q (.bl (!decide (c ∈ z.cps.toList))) H) : rSignOut (.str ⟨#[c]⟩) (.str z) H Q := ⟨c, z, rfl, rfl, q⟩
theorem rd_inL {v : V} {a : Addr} {xs : List V} (h : SqL K H a xs) (f : flatV v = true) (g : xs.all flatV = true) (q : Q (.bl (inV v xs)) H) : rIn K false v (.ref a) H Q := ⟨a, xs, rfl, .inl h, f, g, q⟩
theorem rd_outL {v : V} {a : Addr} {xs : List V} (h : SqL K H a xs) (f : flatV v = true) (g : xs.all flatV = true) (q : Q (.bl (!inV v xs)) H) : rIn K true v (.ref a) H Q := ⟨a, xs, rfl, .inl h, f, g, q⟩
theorem rd_ite {p A B : Prop} [Decidable p] (h1 : p → A) (h2 : ¬ p → B) : if decide p = true then A else B := by
  by_cases h : p
  · rw [if_pos (decide_eq_true h)]; exact h1 h
  · rw [if_neg (by rw [decide_eq_false h]; exact Bool.false_ne_true)]; exact h2 h
theorem rd_iteN {p A B : Prop} [Decidable p] (h1 : ¬ p → A) (h2 : p → B) : if (!decide p) = true then A else B := by
  by_cases h : p
  · rw [decide_eq_true h]; exact iteF (h2 h)
  · rw [decide_eq_false h]; exact iteT (h1 h)
theorem rd_iteB {b : Bool} {A B : Prop} (h1 : b = true → A) (h2 : b = false → B) : if b = true then A else B := by
  cases b
  · exact iteF (h2 rfl)
  · exact iteT (h1 rfl)
theorem rd_iteK {b c : Bool} {A B : Prop} (e : b = c) (q : if c = true then A else B) : if b = true then A else B := by rw [e]; exact q
end

theorem cutV_tail (xs : List V) : cutV xs (some 1) none = xs.drop 1 := by
  unfold cutV
  rw [show HT.sIx xs.length 0 (some 1) = min 1 xs.length from HT.sIx_nat xs.length 0 1, HT.sIx_none]
  cases xs with
  | nil => rfl
  | cons x r =>
    rw [show min 1 (x :: r).length = 1 by rw [List.length_cons]; omega]
    show (List.take ((x :: r).length - 1) r) = r
    rw [List.length_cons, Nat.add_sub_cancel]
    exact List.take_length
theorem cutV_from (xs : List V) (n : Nat) : cutV xs (some (n : Int)) none = xs.drop n := by
  unfold cutV
  rw [HT.sIx_nat xs.length 0 n, HT.sIx_none]
  by_cases h : n ≤ xs.length
  · rw [Nat.min_eq_left h]
    exact List.take_of_length_le (by rw [List.length_drop]; exact Nat.le_refl _)
  · rw [Nat.min_eq_right (by omega), Nat.sub_self, List.take_zero, List.drop_eq_nil_of_le (by omega)]
theorem cutV_to (xs : List V) (n : Nat) : cutV xs none (some (n : Int)) = xs.take n := by
  unfold cutV
  rw [HT.sIx_nat xs.length xs.length n, HT.sIx_none, List.drop_zero, Nat.sub_zero]
  by_cases h : n ≤ xs.length
  · rw [Nat.min_eq_left h]
  · rw [Nat.min_eq_right (by omega), List.take_length, List.take_of_length_le (by omega)]
/-! ### loops -/
def ForW (J : It) (g : TG) (tb : TS) (D : Ends) (σ : L2.St) (H : Hp) : Prop :=
  ∃ W : Nat → Nat → L2.St → Hp → Prop, (∃ m, W 0 m σ H) ∧ ∀ i m σ H, W i m σ H →
    (J.stop i H ∧ D.nx σ H) ∨ (J.go i H ∧ ∃ N : L2.St → Hp → Prop, (∀ σ' H', N σ' H' → ∃ m', m' < m ∧ W (i + 1) m' σ' H') ∧ ∀ x H', J.yld i H x H' → g x σ H' fun σ2 H2 => tb { D with nx := N, ct := N, bk := D.nx } σ2 H2)
section
variable {K : PySem.W.Frag} {σ : L2.St} {H : Hp} {g : TG} {tb : TS} {D : Ends} {te : TE} {ta : TA} {J : It}
theorem rd_forS (q : te σ H fun x H1 => ((∃ a, x = .ref a ∧ (∃ xs, SqL K H1 a xs) ∧ ForW (Itl K a) g tb D σ H1) ∨ (∃ a, x = .ref a ∧ (∃ xs, SqT K H1 a xs) ∧ ForW (Itt K a) g tb D σ H1)) ∨ ∃ z, x = .str z ∧ ForW (Its z) g tb D σ H1) : tFor (iSeq K te) g tb D σ H := q
theorem rd_fsT {a : Addr} {xs : List V} {R : Addr → Prop} {A B : Prop} (h : SqT K H a xs) (q : R a) : (A ∨ (∃ b, V.ref a = .ref b ∧ (∃ xs, SqT K H b xs) ∧ R b)) ∨ B := .inl (.inr ⟨a, rfl, ⟨xs, h⟩, q⟩)
theorem rd_fsL {a : Addr} {xs : List V} {R : Addr → Prop} {A B : Prop} (h : SqL K H a xs) (q : R a) : ((∃ b, V.ref a = .ref b ∧ (∃ xs, SqL K H b xs) ∧ R b) ∨ A) ∨ B := .inl (.inl ⟨a, rfl, ⟨xs, h⟩, q⟩)
theorem rd_fsS {z : Str} {R : Str → Prop} {A : Prop} (q : R z) : A ∨ ∃ y, V.str z = .str y ∧ R y := .inr ⟨z, rfl, q⟩
theorem rd_forR1 (q : ta σ H fun vs H1 => ∃ j : Int, vs = [.int j] ∧ -(2 ^ 62) ≤ j ∧ j < 2 ^ 62 ∧ ForW (Itr 0 j.toNat) g tb D σ H1) : tFor (iRng1 ta) g tb D σ H := q
theorem rd_fr1 {j : Int} {R : Int → Prop} (h : 0 ≤ j) (h' : j < 2 ^ 62) (q : R j) : ∃ k : Int, [V.int j] = [.int k] ∧ -(2 ^ 62) ≤ k ∧ k < 2 ^ 62 ∧ R k := ⟨j, rfl, by omega, h', q⟩
theorem rd_forR2 (q : ta σ H fun vs H1 => ∃ i j : Int, vs = [.int i, .int j] ∧ (-(2 ^ 62) ≤ i ∧ i < 2 ^ 62 ∧ -(2 ^ 62) ≤ j ∧ j < 2 ^ 62) ∧ ForW (Itr i (j - i).toNat) g tb D σ H1) : tFor (iRng2 ta) g tb D σ H := q
theorem rd_fr2 {i j : Int} {R : Int → Int → Prop} (h : -(2 ^ 62) ≤ i ∧ i < 2 ^ 62 ∧ -(2 ^ 62) ≤ j ∧ j < 2 ^ 62) (q : R i j) : ∃ k l : Int, [V.int i, V.int j] = [.int k, .int l] ∧ (-(2 ^ 62) ≤ k ∧ k < 2 ^ 62 ∧ -(2 ^ 62) ≤ l ∧ l < 2 ^ 62) ∧ R k l := ⟨i, j, rfl, h, q⟩
theorem rd_forZ (q : ta σ H fun vs H1 => ∃ a b xs ys, vs = [.ref a, .ref b] ∧ ((SqL K H1 a xs ∧ SqL K H1 b ys ∧ ForW (Itz K a b) g tb D σ H1) ∨ (SqT K H1 a xs ∧ SqT K H1 b ys ∧ ForW (RZ.ItzT K a b) g tb D σ H1))) : tFor (RZ.iZipA K ta) g tb D σ H := q
theorem rd_fzT {a b : Addr} {xs ys : List V} {R R' : Addr → Addr → Prop} (h1 : SqT K H a xs) (h2 : SqT K H b ys) (q : R' a b) : ∃ c d xs ys, [V.ref a, V.ref b] = [.ref c, .ref d] ∧ ((SqL K H c xs ∧ SqL K H d ys ∧ R c d) ∨ (SqT K H c xs ∧ SqT K H d ys ∧ R' c d)) := ⟨a, b, xs, ys, rfl, .inr ⟨h1, h2, q⟩⟩
theorem rd_fzL {a b : Addr} {xs ys : List V} {R R' : Addr → Addr → Prop} (h1 : SqL K H a xs) (h2 : SqL K H b ys) (q : R a b) : ∃ c d xs ys, [V.ref a, V.ref b] = [.ref c, .ref d] ∧ ((SqL K H c xs ∧ SqL K H d ys ∧ R c d) ∨ (SqT K H c xs ∧ SqT K H d ys ∧ R' c d)) := ⟨a, b, xs, ys, rfl, .inl ⟨h1, h2, q⟩⟩
/-- the loop by its invariant: over a tuple, a list, a range, zip of two tuples -/
theorem forW_T {a : Addr} (xs : List V) (Pv : Nat → L2.St → Hp → Prop) (h0 : Pv 0 σ H) (hl : ∀ i σ H, i ≤ xs.length → Pv i σ H → SqT K H a xs)
    (hs : ∀ i x σ H, xs[i]? = some x → Pv i σ H → g x σ H fun σ2 H2 => tb { D with nx := Pv (i + 1), ct := Pv (i + 1), bk := D.nx } σ2 H2) (hd : ∀ σ H, Pv xs.length σ H → D.nx σ H) : ForW (Itt K a) g tb D σ H := for_tup Pv h0 hl hs hd
theorem forW_L {a : Addr} (xs : List V) (Pv : Nat → L2.St → Hp → Prop) (h0 : Pv 0 σ H) (hl : ∀ i σ H, i ≤ xs.length → Pv i σ H → SqL K H a xs)
    (hs : ∀ i x σ H, xs[i]? = some x → Pv i σ H → g x σ H fun σ2 H2 => tb { D with nx := Pv (i + 1), ct := Pv (i + 1), bk := D.nx } σ2 H2) (hd : ∀ σ H, Pv xs.length σ H → D.nx σ H) : ForW (Itl K a) g tb D σ H := for_list Pv h0 hl hs hd
theorem forW_S {z : Str} (Pv : Nat → L2.St → Hp → Prop) (h0 : Pv 0 σ H)
    (hs : ∀ i c σ H, z.cps.toList[i]? = some c → Pv i σ H → g (.str ⟨#[c]⟩) σ H fun σ2 H2 => tb { D with nx := Pv (i + 1), ct := Pv (i + 1), bk := D.nx } σ2 H2) (hd : ∀ σ H, Pv z.length σ H → D.nx σ H) : ForW (Its z) g tb D σ H :=
  for_it walk_str Pv h0 (fun _ _ _ _ _ => trivial) (fun i x σ H H' _ hp y => by
    obtain ⟨rfl, c, e, rfl⟩ := y
    exact hs i c σ H' (by rw [Array.getElem?_toList]; exact e) hp) hd
theorem forW_Lx {a : Addr} {xs : List V} (_ : SqL K H a xs) (Pv : Nat → L2.St → Hp → Prop) (h0 : Pv 0 σ H) (hl : ∀ i σ H, i ≤ xs.length → Pv i σ H → SqL K H a xs)
    (hs : ∀ i x σ H, xs[i]? = some x → Pv i σ H → g x σ H fun σ2 H2 => tb { D with nx := Pv (i + 1), ct := Pv (i + 1), bk := D.nx } σ2 H2) (hd : ∀ σ H, Pv xs.length σ H → D.nx σ H) : ForW (Itl K a) g tb D σ H := for_list Pv h0 hl hs hd
theorem forW_R {lo : Int} {n : Nat} (Pv : Nat → L2.St → Hp → Prop) (h0 : Pv 0 σ H)
    (hs : ∀ i σ H, i < n → Pv i σ H → g (.int (lo + i)) σ H fun σ2 H2 => tb { D with nx := Pv (i + 1), ct := Pv (i + 1), bk := D.nx } σ2 H2) (hd : ∀ σ H, Pv n σ H → D.nx σ H) : ForW (Itr lo n) g tb D σ H := for_range Pv h0 hs hd
theorem forW_it {n : Nat} {G : Hp → Prop} {Y : Nat → Hp → V → Hp → Prop} (w : Walk J n G Y) (Pv : Nat → L2.St → Hp → Prop) (h0 : Pv 0 σ H) (hG : ∀ i σ H, i ≤ n → Pv i σ H → G H)
    (hs : ∀ i x σ H H', i < n → Pv i σ H → Y i H x H' → g x σ H' fun σ2 H2 => tb { D with nx := Pv (i + 1), ct := Pv (i + 1), bk := D.nx } σ2 H2) (hd : ∀ σ H, Pv n σ H → D.nx σ H) : ForW J g tb D σ H := for_it w Pv h0 hG hs hd
end
/-- over zip of two tuples, of any lengths -/
theorem walk_zipT {K : PySem.W.Frag} {a b : Addr} {xs ys : List V} {n : Nat} (hn : n = min xs.length ys.length) : Walk (RZ.ItzT K a b) n (fun H => SqT K H a xs ∧ SqT K H b ys) (YPair (fun i => xs[i]?) (fun i => ys[i]?)) := by
  subst hn
  refine ⟨fun i _ hi q => ?_, fun _ q => ⟨xs, ys, q.1, q.2, by omega⟩, fun i H v H' _ q y => ?_⟩
  · have h1 : i < xs.length := by omega
    have h2 : i < ys.length := by omega
    exact ⟨xs, ys, xs[i], ys[i], q.1, q.2, by simp [h1], by simp [h2]⟩
  · obtain ⟨T, x, z, h1, h2, h3, h4, h5⟩ := y
    exact ⟨T, x, z, h1, h2, h3, h4 xs q.1, h5 ys q.2⟩
theorem forW_Z {K : PySem.W.Frag} {σ : L2.St} {H : Hp} {g : TG} {tb : TS} {D : Ends} {a b : Addr} (xs ys : List V) {n : Nat} (hn : n = min xs.length ys.length) (Pv : Nat → L2.St → Hp → Prop) (h0 : Pv 0 σ H) (hG : ∀ i σ H, i ≤ n → Pv i σ H → SqT K H a xs ∧ SqT K H b ys)
    (hs : ∀ i x y T σ H H', i < n → Pv i σ H → xs[i]? = some x → ys[i]? = some y → H T = none → Ex H H' → H' T = some (.tup [x, y]) → g (.ref T) σ H' fun σ2 H2 => tb { D with nx := Pv (i + 1), ct := Pv (i + 1), bk := D.nx } σ2 H2) (hd : ∀ σ H, Pv n σ H → D.nx σ H) : ForW (RZ.ItzT K a b) g tb D σ H :=
  forW_it (walk_zipT hn) Pv h0 hG (fun i x σ H H' hi hp y => by
    obtain ⟨T, x, z, rfl, hT, rfl, h4, h5⟩ := y
    exact hs i x z T σ H _ hi hp h4 h5 hT (Evl.Ex.new hT) upd_same) hd

/-! comprehensions -/
def LcW (J : It) (g : TG) (tt : TT) (te : TE) (vs : List Nat) (σ : L2.St) (H1 : Hp) (Q : VK) : Prop :=
  ∀ D, H1 D = none → ∃ W : Nat → Nat → Hp → Prop, (∃ m, W 0 m (upd H1 D (.lst []))) ∧ ∀ i m H, W i m H →
  (J.stop i H ∧ Q (.ref D) H) ∨ (J.go i H ∧ ∃ Nx : Hp → Prop, (∀ H', Nx H' → ∃ m', m' < m ∧ W (i + 1) m' H') ∧ ∀ x H', J.yld i H x H' → g x (wipe σ vs) H' fun σ2 H2 => wipe σ2 vs = wipe σ vs ∧ tt σ2 H2 fun b H3 =>
    if b = true then te σ2 H3 fun y H4 => ∃ acc, H4 D = some (.lst acc) ∧ acc.length < sizeLine ∧ Nx (upd H4 D (.lst (acc ++ [y]))) else Nx H3)
section
variable {K : PySem.W.Frag} {σ : L2.St} {H : Hp} {Q : VK} {g : TG} {tt : TT} {te tl : TE} {ta : TA} {vs : List Nat}
theorem rd_lcS (q : tl σ H fun x H1 => ((∃ a, x = .ref a ∧ (∃ xs, SqL K H1 a xs) ∧ LcW (Itl K a) g tt te vs σ H1 Q) ∨ (∃ a, x = .ref a ∧ (∃ xs, SqT K H1 a xs) ∧ LcW (Itt K a) g tt te vs σ H1 Q)) ∨ ∃ z, x = .str z ∧ LcW (Its z) g tt te vs σ H1 Q) : tLc (iSeq K tl) g tt te vs σ H Q := q
theorem rd_lcR1 (q : ta σ H fun us H1 => ∃ j : Int, us = [.int j] ∧ -(2 ^ 62) ≤ j ∧ j < 2 ^ 62 ∧ LcW (Itr 0 j.toNat) g tt te vs σ H1 Q) : tLc (iRng1 ta) g tt te vs σ H Q := q
theorem rd_lcR2 (q : ta σ H fun us H1 => ∃ i j : Int, us = [.int i, .int j] ∧ (-(2 ^ 62) ≤ i ∧ i < 2 ^ 62 ∧ -(2 ^ 62) ≤ j ∧ j < 2 ^ 62) ∧ LcW (Itr i (j - i).toNat) g tt te vs σ H1 Q) : tLc (iRng2 ta) g tt te vs σ H Q := q
/-- the step of a comprehension's turn: the new item -/
def LcIt (D : Addr) (N : Hp → Prop) : VK := fun y H4 => ∃ acc, H4 D = some (.lst acc) ∧ acc.length < sizeLine ∧ N (upd H4 D (.lst (acc ++ [y])))
theorem lc_item {D : Addr} {N : Hp → Prop} {y : V} {H4 : Hp} {acc : List V} (h : H4 D = some (.lst acc)) (hl : acc.length < 1000) (q : N (upd H4 D (.lst (acc ++ [y])))) : ∃ acc, H4 D = some (.lst acc) ∧ acc.length < sizeLine ∧ N (upd H4 D (.lst (acc ++ [y]))) := ⟨acc, h, small1000 (Nat.le_of_lt hl), q⟩
theorem lcW_R {lo : Int} {n : Nat} (Pv : Addr → Nat → Hp → Prop) (h0 : ∀ D H', H D = none → Ex H H' → H' D = some (.lst []) → Pv D 0 H')
    (hs : ∀ D i H', H D = none → i < n → Pv D i H' → g (.int (lo + i)) (wipe σ vs) H' fun σ2 H2 => wipe σ2 vs = wipe σ vs ∧ tt σ2 H2 fun b H3 =>
      if b = true then te σ2 H3 fun y H4 => ∃ acc, H4 D = some (.lst acc) ∧ acc.length < sizeLine ∧ Pv D (i + 1) (upd H4 D (.lst (acc ++ [y]))) else Pv D (i + 1) H3)
    (hd : ∀ D H', H D = none → Pv D n H' → Q (.ref D) H') : LcW (Itr lo n) g tt te vs σ H Q := fun D hD =>
  lc_range (Pv D) (h0 D _ hD (Evl.Ex.new hD) upd_same) (fun i H' hi hp => hs D i H' hD hi hp) fun H' hp => hd D H' hD hp
theorem lcW_L {a : Addr} (xs : List V) (Pv : Addr → Nat → Hp → Prop) (h0 : ∀ D H', H D = none → Ex H H' → H' D = some (.lst []) → Pv D 0 H') (hl : ∀ D i H', H D = none → i ≤ xs.length → Pv D i H' → SqL K H' a xs)
    (hs : ∀ D i x H', H D = none → xs[i]? = some x → Pv D i H' → g x (wipe σ vs) H' fun σ2 H2 => wipe σ2 vs = wipe σ vs ∧ tt σ2 H2 fun b H3 =>
      if b = true then te σ2 H3 fun y H4 => ∃ acc, H4 D = some (.lst acc) ∧ acc.length < sizeLine ∧ Pv D (i + 1) (upd H4 D (.lst (acc ++ [y]))) else Pv D (i + 1) H3)
    (hd : ∀ D H', H D = none → Pv D xs.length H' → Q (.ref D) H') : LcW (Itl K a) g tt te vs σ H Q := fun D hD =>
  lc_list (Pv D) (h0 D _ hD (Evl.Ex.new hD) upd_same) (fun i H' hi hp => hl D i H' hD hi hp) (fun i x H' hx hp => hs D i x H' hD hx hp) fun H' hp => hd D H' hD hp
theorem lcW_T {a : Addr} (xs : List V) (Pv : Addr → Nat → Hp → Prop) (h0 : ∀ D H', H D = none → Ex H H' → H' D = some (.lst []) → Pv D 0 H') (hl : ∀ D i H', H D = none → i ≤ xs.length → Pv D i H' → SqT K H' a xs)
    (hs : ∀ D i x H', H D = none → xs[i]? = some x → Pv D i H' → g x (wipe σ vs) H' fun σ2 H2 => wipe σ2 vs = wipe σ vs ∧ tt σ2 H2 fun b H3 =>
      if b = true then te σ2 H3 fun y H4 => ∃ acc, H4 D = some (.lst acc) ∧ acc.length < sizeLine ∧ Pv D (i + 1) (upd H4 D (.lst (acc ++ [y]))) else Pv D (i + 1) H3)
    (hd : ∀ D H', H D = none → Pv D xs.length H' → Q (.ref D) H') : LcW (Itt K a) g tt te vs σ H Q := fun D hD =>
  lc_tup (Pv D) (h0 D _ hD (Evl.Ex.new hD) upd_same) (fun i H' hi hp => hl D i H' hD hi hp) (fun i x H' hx hp => hs D i x H' hD hx hp) fun H' hp => hd D H' hD hp
theorem rd_yes {R : Bool → Hp → Prop} (q : R true H) : tYes σ H R := q
theorem ex_new {H H1 : Hp} {D : Addr} {o : HO} (hn : H D = none) (e : Ex H H1) : Ex H (upd H1 D o) := fun b u q => by
  rw [upd_ne (ne_of_none q hn)]
  exact e b u q
end

/-! ### what a state list's def leaves: all but the list, its one int another -/
structure St1 (a : Addr) (H H' : Hp) : Prop where
  fr : ∀ b o, b ≠ a → H b = some o → H' b = some o
  st : ∃ s, H' a = some (.lst [.int s])
  tame : Tame H H'
theorem St1.trans {a : Addr} {H H1 H2 : Hp} (x : St1 a H H1) (y : St1 a H1 H2) : St1 a H H2 := ⟨fun b o n h => y.fr b o n (x.fr b o n h), y.st, x.tame.trans y.tame⟩
theorem St1.ex {a : Addr} {H H1 : Hp} (h : ∃ s, H a = some (.lst [.int s])) (e : Ex H H1) : St1 a H H1 := by
  obtain ⟨s, h⟩ := h
  exact ⟨fun b o _ q => e b o q, ⟨s, e a _ h⟩, .ex e⟩
theorem St1.free {a o : Addr} {H H1 : Hp} (S : St1 a H H1) (h : H1 o = none) : H o = none := by
  cases e : H o with
  | none => rfl
  | some x =>
    by_cases n : o = a
    · subst n
      obtain ⟨s, q⟩ := S.st
      rw [h] at q; cases q
    · rw [S.fr o x n e] at h; cases h
/-- a list that was not there at the start has grown -/
theorem St1.upd {a o : Addr} {H H1 : Hp} {xs ys : List V} (S : St1 a H H1) (hn : H o = none) (ho : H1 o = some (.lst xs)) (ne : o ≠ a) : St1 a H (upd H1 o (.lst ys)) := by
  refine ⟨fun b u nb e => ?_, ?_, S.tame.trans (Tame.upd ho)⟩
  · rw [upd_ne (by rintro rfl; rw [hn] at e; cases e)]
    exact S.fr b u nb e
  · obtain ⟨s, q⟩ := S.st
    exact ⟨s, by rw [upd_ne (Ne.symm ne)]; exact q⟩
theorem St1.refl {a : Addr} {H : Hp} (h : ∃ s, H a = some (.lst [.int s])) : St1 a H H := ⟨fun _ _ _ h => h, h, .refl H⟩
/-! what St1 and Ex keep -/
section
variable {K : PySem.W.Frag} {H H' : Hp} {a b : Addr} {v : V} {t : T} {vs : List V} {ts : List T} {xs : List V}
theorem tv_st (h : Tv K H v t) (e : St1 a H H') : Tv K H' v t := e.tame.tv h
theorem tv_ex (h : Tv K H v t) (e : Ex H H') : Tv K H' v t := (Tame.ex e).tv h
theorem tva_st (h : TvA K H vs ts) (e : St1 a H H') : TvA K H' vs ts := e.tame.tvA h
theorem tva_ex (h : TvA K H vs ts) (e : Ex H H') : TvA K H' vs ts := (Tame.ex e).tvA h
theorem sqt_st (h : SqT K H b xs) (e : St1 a H H') : SqT K H' b xs := e.tame.sqT h
theorem sqt_ex (h : SqT K H b xs) (e : Ex H H') : SqT K H' b xs := Evl.ex_t e h
theorem lst_st (h : H b = some (.lst xs)) (e : St1 a H H') (n : b ≠ a) : H' b = some (.lst xs) := e.fr b _ n h
theorem lst_ex (h : H b = some (.lst xs)) (e : Ex H H') : H' b = some (.lst xs) := e b _ h
theorem sql_ex (h : SqL K H b xs) (e : Ex H H') : SqL K H' b xs := Evl.ex_l e h
theorem sql_st {l st : Addr} {H0 : Hp} (h : SqL K H0 l xs) (hn : H0 st = none) (e0 : Ex H0 H) (e : St1 st H H') : SqL K H' l xs := by
  rcases h with (h | ⟨o, h⟩) | h
  · exact .inl (.inl (e.fr _ _ (by rintro rfl; rw [hn] at h; cases h) (e0 _ _ h)))
  · exact .inl (.inr ⟨o, e.fr _ _ (by rintro rfl; rw [hn] at h; cases h) (e0 _ _ h)⟩)
  · exact .inr h
theorem sta_st (e : St1 a H H') : ∃ s, H' a = some (.lst [.int s]) := e.st
theorem sta_ex (h : ∃ s, H a = some (.lst [.int s])) (e : Ex H H') : ∃ s, H' a = some (.lst [.int s]) := by obtain ⟨s, h⟩ := h; exact ⟨s, e a _ h⟩
theorem ne_st (h : ∃ s, H a = some (.lst [.int s])) (hp : H b = none) : b ≠ a := by
  obtain ⟨s, h⟩ := h
  rintro rfl
  rw [h] at hp; cases hp
end
section
variable {K : PySem.W.Frag} {H : Hp} {Q : VK}
/-- an item, whichever it is -/
theorem mem_at {xs : List V} {i : Int} (h0 : 0 ≤ i) (h1 : i < xs.length) : ∃ v, atI xs i = some v ∧ v ∈ xs := by
  have hk : i.toNat < xs.length := by omega
  refine ⟨xs[i.toNat], ?_, List.getElem_mem hk⟩
  have e : ((i.toNat : Nat) : Int) = i := by omega
  have q := atI_nat (List.getElem?_eq_getElem hk)
  rw [e] at q
  exact q
theorem rd_ixLm {a : Addr} {xs : List V} {i : Int} (h : SqL K H a xs) (h0 : 0 ≤ i) (h1 : i < xs.length) (q : ∀ v, v ∈ xs → Q v H) : rIx K (.ref a) (.int i) H Q := by
  obtain ⟨v, e, m⟩ := mem_at h0 h1
  exact rd_ixL h e (q v m)
theorem rd_ixTm {a : Addr} {xs : List V} {i : Int} (h : SqT K H a xs) (h0 : 0 ≤ i) (h1 : i < xs.length) (q : ∀ v, v ∈ xs → Q v H) : rIx K (.ref a) (.int i) H Q := by
  obtain ⟨v, e, m⟩ := mem_at h0 h1
  exact rd_ixT h e (q v m)
/-- the k-th of a tuple of data -/
theorem rd_ixD {v : V} {ts : List T} {i : Int} {n : Nat} {t : T} (h : Tv K H v (.tup ts)) (hi : i = (n : Nat)) (e : ts[n]? = some t) (q : ∀ x, Tv K H x t → Q x H) : rIx K v (.int i) H Q := by
  obtain ⟨a, xs, rfl, hs, ha⟩ := h.tupE
  obtain ⟨x, e1, hx⟩ := ha.get e
  subst hi
  exact rd_ixT hs (atI_nat e1) (q x hx)
theorem rd_lenD {v : V} {ts : List T} (h : Tv K H v (.tup ts)) (q : Q (.int (ts.length : Nat)) H) : rLenA K [v] H Q := by
  obtain ⟨a, xs, rfl, hs, ha⟩ := h.tupE
  refine rd_lenT hs ?_
  rw [ha.len]
  exact q
end
/-! ### a written dict: texts to tuples of texts -/
def TupIn (K : PySem.W.Frag) (a : Addr) (ws : List Str) : Prop :=
  ∃ (dd : Option Addr) (its : Array Value) (n : Nat) (sl : Array (Option Value)), K.lookup a = some ⟨.type "tuple", dd, .seq its n, sl⟩ ∧ its.size ≤ sizeLine ∧ Vals (ws.map V.str) its.toList
theorem TupIn.sq {K : PySem.W.Frag} {a : Addr} {ws : List Str} (h : TupIn K a ws) (H : Hp) : SqT K H a (ws.map V.str) := by
  obtain ⟨dd, its, n, sl, h, hz, hv⟩ := h
  exact .inr ⟨_, its, n, h, rfl, rfl, hz, hv⟩
def EntIs (K : PySem.W.Frag) (w : World) (e : DictEntry) (p : Str × List Str) : Prop :=
  ∃ t a, e.key = .str p.1 t ∧ e.hash = PyData.keyHash w.params p.1 ∧ e.val = .ref a ∧ TupIn K a p.2
/-- one entry after another -/
theorem ent_cons {K : PySem.W.Frag} {w : World} {a : Addr} {x : Str} {t : Tok} {ws : List Str} {l : List DictEntry} {ps : List (Str × List Str)} {dd : Option Addr} {its : Array Value} {n : Nat} {sl : Array (Option Value)}
    (k : K.lookup a = some ⟨.type "tuple", dd, .seq its n, sl⟩) (s : its.size ≤ sizeLine) (v : Vals (ws.map V.str) its.toList) (b : Paired (EntIs K w) l ps) :
    Paired (EntIs K w) (⟨PyData.keyHash w.params x, .str x t, .ref a⟩ :: l) ((x, ws) :: ps) := .cons ⟨t, a, rfl, rfl, rfl, dd, its, n, sl, k, s, v⟩ b
def TabAt (K : PySem.W.Frag) (w : World) (d : Addr) (ps : List (Str × List Str)) : Prop :=
  ∃ es n, K.lookup d = some ⟨.type "dict", none, .dict es n, #[]⟩ ∧ (d == sysModules) = false ∧ Paired (EntIs K w) es.toList ps
section
variable {K : PySem.W.Frag} {w : World} {d : Addr} {ps : List (Str × List Str)}
theorem ent_lit : ∀ {l : List DictEntry} {ps : List (Str × List Str)}, Paired (EntIs K w) l ps → PySem.W.KeysLit w.params l
  | _, _, .nil => trivial
  | _, _, .cons h t => by
    obtain ⟨t', a, h1, h2, _⟩ := h
    exact ⟨⟨_, t', h1, h2⟩, ent_lit t⟩
theorem ent_find (z : Str) : ∀ {l : List DictEntry} {ps : List (Str × List Str)}, Paired (EntIs K w) l ps →
    (match ps.lookup z with | some ws => ∃ e a, l.find? (·.key.isStr z) = some e ∧ e.val = .ref a ∧ TupIn K a ws | none => l.find? (·.key.isStr z) = none) ∧ l.any (·.refKey) = false
  | _, _, .nil => ⟨rfl, rfl⟩
  | e :: l, p :: ps, .cons h t => by
    have ih := ent_find z t
    obtain ⟨t', a, h1, h2, h3, h4⟩ := h
    have hr : e.refKey = false := by
      unfold DictEntry.refKey
      rw [h1]
    have hk : e.key.isStr z = (z == p.1) := by
      rw [h1, PySem.W.isStr_of]
      show (p.1 == z) = (z == p.1)
      rw [Bool.eq_iff_iff, beq_iff_eq, beq_iff_eq]
      exact eq_comm
    refine ⟨?_, by rw [List.any_cons, hr, ih.2]; rfl⟩
    rw [List.find?_cons, hk, List.lookup_cons]
    cases hz : z == p.1 with
    | true => exact ⟨e, a, rfl, h3, h4⟩
    | false => exact ih.1
theorem tab_ns (T : TabAt K w d ps) (z : Str) : match ps.lookup z with | some ws => ∃ a, PySem.W.nsIn K d z = some (some (.ref a)) ∧ TupIn K a ws | none => PySem.W.nsIn K d z = some none := by
  obtain ⟨es, n, hl, _, pr⟩ := T
  have f := ent_find z pr
  cases e : ps.lookup z with
  | some ws =>
    rw [e] at f
    obtain ⟨⟨en, a, f1, f2, f3⟩, _⟩ := f
    refine ⟨a, ?_, f3⟩
    unfold PySem.W.nsIn
    rw [hl]
    dsimp only
    rw [f1]
    dsimp only
    rw [f2]
  | none =>
    rw [e] at f
    unfold PySem.W.nsIn
    rw [hl]
    dsimp only
    rw [f.1]
    dsimp only
    rw [f.2]
    rfl
end
def rInTab (K : PySem.W.Frag) (w : World) (neg : Bool) : R2 := fun x y H Q => ∃ z d ps, x = .str z ∧ y = .ref d ∧ TabAt K w d ps ∧ Q (.bl (if neg then !(ps.lookup z).isSome else (ps.lookup z).isSome)) H
theorem tab_kd {K : PySem.W.Frag} {w : World} {d : Addr} {ps : List (Str × List Str)} (T : TabAt K w d ps) : ∃ es n, KDict K w d es n := by
  obtain ⟨es, n, hl, low, pr⟩ := T
  exact ⟨es, n, hl, ent_lit pr, low⟩
theorem tab_some {K : PySem.W.Frag} {w : World} {d : Addr} {ps : List (Str × List Str)} (T : TabAt K w d ps) (z : Str) : ∃ r, PySem.W.nsIn K d z = some r ∧ r.isSome = (ps.lookup z).isSome := by
  have f := tab_ns T z
  cases e : ps.lookup z with
  | some ws =>
    rw [e] at f
    obtain ⟨a, f1, _⟩ := f
    exact ⟨_, f1, rfl⟩
  | none =>
    rw [e] at f
    exact ⟨_, f, rfl⟩
theorem op_inTab {X : Cx} : OpR X (compareOp .In) (rInTab X.K X.w false) := by
  intro pins s σ H x y v u Q I rx ry h
  obtain ⟨z, d, ps, rfl, rfl, T, q⟩ := h
  obtain ⟨es, n, D⟩ := tab_kd T
  obtain ⟨r, hr, e⟩ := tab_some T z
  refine op_in_kd D pins s σ H _ _ v u Q I rx ry ⟨z, r, rfl, rfl, hr, ?_⟩
  rw [e]
  exact q
theorem op_notinTab {X : Cx} : OpR X (compareOp .NotIn) (rInTab X.K X.w true) := by
  intro pins s σ H x y v u Q I rx ry h
  obtain ⟨z, d, ps, rfl, rfl, T, q⟩ := h
  obtain ⟨es, n, D⟩ := tab_kd T
  obtain ⟨r, hr, e⟩ := tab_some T z
  refine op_notIn_kd D pins s σ H _ _ v u Q I rx ry ⟨z, r, rfl, rfl, hr, ?_⟩
  rw [e]
  exact q
theorem pe_gtab {X : Cx} {x : Str} {d : Addr} {pos : Pos} (hm : X.mg x = some (.ref d)) (hg : Gl X x := by rfl) (hd : (x == ("__debug__" : Str)) = false := by decide) : PE X (.Name x pos) (tC (.ref d)) := pe_glob hg hm rfl hd
theorem rd_inTab {K : PySem.W.Frag} {w : World} {d : Addr} {ps : List (Str × List Str)} {H : Hp} {Q : VK} {z : Str} (T : TabAt K w d ps) (q : Q (.bl (ps.lookup z).isSome) H) : rInTab K w false (.str z) (.ref d) H Q := ⟨z, d, ps, rfl, rfl, T, q⟩
theorem rd_outTab {K : PySem.W.Frag} {w : World} {d : Addr} {ps : List (Str × List Str)} {H : Hp} {Q : VK} {z : Str} (T : TabAt K w d ps) (q : Q (.bl (!(ps.lookup z).isSome)) H) : rInTab K w true (.str z) (.ref d) H Q := ⟨z, d, ps, rfl, rfl, T, q⟩
theorem rd_dgetT {σ : L2.St} {H : Hp} {Q : VK} {td ty : TE} (q : td σ H fun x H1 => ty σ H1 fun y H2 => ∃ a v, x = .ref a ∧ DGet H2 a y (some v) ∧ Q v H2) : tDGet td ty σ H Q := q
theorem rd_dgetK {H : Hp} {d : Addr} {kvs : List (Key × V)} {z : Str} {v : V} {R : V → Prop} (h : H d = some (.dK kvs)) (e : valV kvs (.inr z) = some v) (q : R v) : ∃ a u, V.ref d = .ref a ∧ DGet H a (.str z) (some u) ∧ R u := ⟨d, v, rfl, by rw [← e]; exact DGet.k (k := .inr z) h, q⟩
theorem rd_dgetI {H : Hp} {d : Addr} {kvs : List (Key × V)} {z : Int} {v : V} {R : V → Prop} (h : H d = some (.dK kvs)) (e : valV kvs (.inl z) = some v) (q : R v) : ∃ a u, V.ref d = .ref a ∧ DGet H a (.int z) (some u) ∧ R u := ⟨d, v, rfl, by rw [← e]; exact DGet.k (k := .inl z) h, q⟩
/-- d[z], z there -/
theorem rd_ixTab {K : PySem.W.Frag} {w : World} {d : Addr} {ps : List (Str × List Str)} {H : Hp} {Q : VK} {z : Str} {ws : List Str} (T : TabAt K w d ps) (e : ps.lookup z = some ws) (q : ∀ a, SqT K H a (ws.map V.str) → Q (.ref a) H) : rIxD K w (.ref d) (.str z) H Q := by
  have f := tab_ns T z
  rw [e] at f
  obtain ⟨a, f1, f2⟩ := f
  obtain ⟨es, n, hl, _, pr⟩ := T
  exact ⟨d, z, .ref a, rfl, rfl, ⟨es, n, _, hl, ent_lit pr, f1, rfl⟩, q a (f2.sq H)⟩
/-- a dict that stands in the heap stays -/
theorem dK_ex {H H' : Hp} {d : Addr} {kvs : List (Key × V)} (h : H d = some (.dK kvs)) (e : Ex H H') : H' d = some (.dK kvs) := e _ _ h
end Qa
namespace Qa
open PySem PySem.Spec PyProof.Rows L2
/-! within a comprehension: the fragment named -/
section
variable {X : Cx} {K : PySem.W.Frag}
theorem pt_truK {a : Expr} {ta : TE} (hK : X.K = K) (ha : PE X a ta) (he : ∀ whole, isTrue a X.env whole = (do let v ← whole; standAt a.pos; holding [v] (truthy v)) := by intro _; rfl) : PT X a (tTru K ta) := by
  subst hK
  exact pt_tru ha he
theorem isiK (hK : X.K = K) : CallR X (.builtin "isinstance") (rIsi K) := by
  subst hK
  exact call_isi
theorem notInK (hK : X.K = K) : OpR X (compareOp .NotIn) (rIn K true) := by
  subst hK
  exact op_notIn_seq
theorem inK (hK : X.K = K) : OpR X (compareOp .In) (rIn K false) := by
  subst hK
  exact op_in_seq
theorem ixK (hK : X.K = K) : IxR X (rIx K) := by
  subst hK
  exact ix_seq
theorem addK' (hK : X.K = K) : OpR X (binaryOp .Add) (rAddA K) := by
  subst hK
  exact op_addA
theorem lenK (hK : X.K = K) : CallR X (.builtin "len") (rLenA K) := by
  subst hK
  exact cr_lenA
end
/-! lists of whole numbers and texts, compared -/
def flatD : PyData → Bool
  | .int _ => true
  | .str x => PyData.strOk x
  | _ => false
theorem lay_flat : ∀ ds : List PyData, (∀ d ∈ ds, flatD d = true) → PyData.canLayAll0 ds = true ∧ PyData.depthAll ds = 0 ∧ PyData.eqvAll ds ds = true
  | [], _ => ⟨by simp [PyData.canLayAll0], by simp [PyData.depthAll], by simp [PyData.eqvAll]⟩
  | d :: ds, h => by
    obtain ⟨h1, h2, h3⟩ := lay_flat ds fun x hx => h x (List.mem_cons_of_mem _ hx)
    have hd := h d List.mem_cons_self
    cases d with
    | int i => exact ⟨by simp [PyData.canLayAll0, PyData.canLay0, h1], by simp [PyData.depthAll, PyData.depth, h2], by simp [PyData.eqvAll, PyData.eqv, h3]⟩
    | str i => exact ⟨by simp [PyData.canLayAll0, PyData.canLay0, h1]; exact hd, by simp [PyData.depthAll, PyData.depth, h2], by simp [PyData.eqvAll, PyData.eqv, h3]⟩
    | _ => cases hd
theorem shaped_flat (ds : List PyData) (h : ∀ d ∈ ds, flatD d = true) : SeqAt.shaped (.list ds) = true := by
  obtain ⟨h1, h2, h3⟩ := lay_flat ds h
  unfold SeqAt.shaped
  simp [PyData.canLay0, PyData.depth, h1, h2]
theorem eqv_flat (ds : List PyData) (h : ∀ d ∈ ds, flatD d = true) : PyData.eqv (.list ds) (.list ds) = true := by
  rw [PyData.eqv]
  exact (lay_flat ds h).2.2
section
variable {K : PySem.W.Frag} {H : Hp} {Q : VK}
def kD : Key → PyData
  | .inl i => .int i
  | .inr x => .str x
def okK : Key → Bool
  | .inl _ => true
  | .inr x => PyData.strOk x
theorem flat_kD (ks : List Key) (h : ∀ k ∈ ks, okK k = true) : ∀ d ∈ ks.map kD, flatD d = true := by
  intro d hd
  obtain ⟨k, hk, rfl⟩ := List.mem_map.mp hd
  have := h k hk
  cases k with
  | inl i => rfl
  | inr x => exact this
theorem dp_keys : ∀ (ks : List Key), DpAll K H (ks.map kV) (ks.map kD)
  | [] => .nil
  | .inl n :: ns => .cons (.int n) (dp_keys ns)
  | .inr n :: ns => .cons (.str n) (dp_keys ns)
theorem rd_eqNil {a b : Addr} {ns : List Key} (ok : ∀ k ∈ ns, okK k = true) (ha : SqL K H a (ns.map kV)) (hb : SqL K H b []) (q : Q (.bl ns.isEmpty) H) : rEqA K (.ref a) (.ref b) H Q := by
  refine .inr ⟨_, _, .lst ha (dp_keys ns), .lst hb .nil, shaped_flat _ (flat_kD ns ok), shaped_flat [] (by simp), ?_⟩
  cases ns with
  | nil => exact q
  | cons n ns => exact q
/-- two lists of the same keys -/
theorem rd_neSame {a b : Addr} {ns : List Key} (ok : ∀ k ∈ ns, okK k = true) (ha : SqL K H a (ns.map kV)) (hb : SqL K H b (ns.map kV)) (q : Q (.bl false) H) : rNeA K (.ref a) (.ref b) H Q := by
  refine .inr ⟨_, _, .lst ha (dp_keys ns), .lst hb (dp_keys ns), shaped_flat _ (flat_kD ns ok), shaped_flat _ (flat_kD ns ok), ?_⟩
  rw [eqv_flat _ (flat_kD ns ok)]
  exact q
theorem rd_eqSame {a b : Addr} {ns : List Key} (ok : ∀ k ∈ ns, okK k = true) (ha : SqL K H a (ns.map kV)) (hb : SqL K H b (ns.map kV)) (q : Q (.bl true) H) : rEqA K (.ref a) (.ref b) H Q := by
  refine .inr ⟨_, _, .lst ha (dp_keys ns), .lst hb (dp_keys ns), shaped_flat _ (flat_kD ns ok), shaped_flat _ (flat_kD ns ok), ?_⟩
  rw [eqv_flat _ (flat_kD ns ok)]
  exact q
theorem rd_ixTk {a : Addr} {xs : List V} {i : Int} {n : Nat} {v : V} (h : SqT K H a xs) (hi : i = (n : Nat)) (e : xs[n]? = some v) (q : Q v H) : rIx K (.ref a) (.int i) H Q := by
  subst hi
  exact rd_ixT h (atI_nat e) q
end
end Qa
namespace Qs
open PySem PySem.Spec PyProof.Rows L2
/-! sets of ints and texts, made of a list, sorted -/
def keyK (e : Int × Value) : Key := match e.2 with | .int k _ => .inl k | .str x _ => .inr x | _ => .inl 0
def GoodK (w : World) (e : Int × Value) : Prop := ∃ k, keyIs k e.2 = true ∧ e.1 = keyH w k
theorem keyK_is {e : Int × Value} {k : Key} (h : keyIs k e.2 = true) : keyK e = k := by
  obtain ⟨a, v⟩ := e
  rcases keyIs_shape h with ⟨i, t, rfl, e1⟩ | ⟨x, t, rfl, e1⟩
  · cases (show v = Value.int i t from e1); rfl
  · cases (show v = Value.str x t from e1); rfl
theorem goodK_is {w : World} {P : Program} {e : Int × Value} (g : GoodK w e) (k : Key) : (mixKind P w).is k e.2 = true ↔ keyK e = k := by
  obtain ⟨k0, h1, _⟩ := g
  constructor
  · intro h
    exact keyK_is h
  · intro h
    rw [keyK_is h1] at h
    rw [← h]
    exact h1
theorem goodK_scan {w : World} {e : Int × Value} (g : GoodK w e) : e.2.scannable = true := by
  obtain ⟨k, h1, _⟩ := g
  obtain ⟨a, v⟩ := e
  rcases keyIs_shape h1 with ⟨i, t, rfl, e1⟩ | ⟨x, t, rfl, e1⟩
  · cases (show v = Value.int i t from e1); rfl
  · cases (show v = Value.str x t from e1); rfl
/-- the set at a: its keys, none twice -/
def SetG (w : World) (h : Heap) (a : Addr) (ks : List Key) : Prop :=
  ∃ o es ep t, h.get? a = some o ∧ o.ExactSet ∧ o.data = .set es ep t ∧ (∀ e ∈ es.toList, GoodK w e) ∧ (es.toList.map keyK).Perm ks ∧ ks.Nodup ∧
    es.size < scanBound ∧ t.fits es.size = true ∧ Ris t.place.toList ∧ (w.params.followText "set-order" = true ∨ t.led = true)
section
variable {P : Program} {w : World} {A : Around} {E : Value → Shared → Prop} {s : Shared} {a : Addr} {ks : List Key}
theorem SetG.at {h h' : Heap} (R : SetG w h a ks) (k : ∀ o, h.get? a = some o → h'.get? a = some o) : SetG w h' a ks := by
  obtain ⟨o, es, ep, t, ho, r⟩ := R
  exact ⟨o, es, ep, t, k o ho, r⟩
theorem goodK_elems {l : List (Int × Value)} (g : ∀ e ∈ l, GoodK w e) : ElemsOf (mixKind P w) l := fun e he => by
  obtain ⟨k, h1, h2⟩ := g e he
  exact ⟨⟨k, h1, h2⟩, goodK_scan (g e he)⟩
theorem setG_tail {g : Bool → Sem Unit} (hg : ∀ (b : Bool) (s₁ : Shared) (Q' : Unit → Shared → Prop), Q' () s₁ → wpAny (model P w) A (g b) Q' E s₁)
    {o : Obj} {es : Array (Int × Value)} {ep : Nat} {t : SetTable} (ho : s.heap.get? a = some o) (hex : o.ExactSet) (hd : o.data = .set es ep t)
    {es1 : Array (Int × Value)} {t2 : SetTable} (g1 : ∀ e ∈ es1.toList, GoodK w e) (p1 : (es1.toList.map keyK).Perm ks) (n1 : ks.Nodup)
    (hb1 : es1.size < scanBound) (hf2 : t2.fits es1.size = true) (hr : Ris t2.place.toList) (hl : w.params.followText "set-order" = true ∨ t2.led = true) {wasDummy : Bool} {R : Option Bool → Shared → Prop}
    (hR : ∀ h', Heap.SameBut a s.heap h' → SetG w h' a ks → R (some true) { s with heap := h' }) :
    wpAny (model P w) A (do
        storeSet a es1 t2
        if (!wasDummy && t2.tooFull) = true then do
            g (relayAll t2 es1 (SetTable.grown es1.size)).2.2
            storeSet a (relayAll t2 es1 (SetTable.grown es1.size)).1 (relayAll t2 es1 (SetTable.grown es1.size)).2.1
            pure (some true)
          else pure (some true)) R E s := by
  have sb1 := Heap.SameBut.update s.heap a (Obj.putSet es1 t2)
  have at1 := store_at (es' := es1) (t' := t2) ho hd
  refine wpAny_bind (wpAny_storeSet_of ho hd ?_ (fits_of_scanBound hb1))
  by_cases full : (!wasDummy && t2.tooFull) = true
  · rw [if_pos full]
    have pm := relayAll_perm t2 es1 (SetTable.grown es1.size)
    have f3 := relayAll_fits t2 es1 (SetTable.grown es1.size)
    have r3 := relayAll_ris t2 es1 (SetTable.grown es1.size)
    have l3 := relayAll_led t2 es1 (SetTable.grown es1.size)
    revert pm f3 r3 l3
    generalize relayAll t2 es1 (SetTable.grown es1.size) = Z
    obtain ⟨es2, t3, gave⟩ := Z
    intro pm f3 r3 l3
    have sz : es2.size = es1.size := by
      have := pm.length_eq
      simpa using this
    refine wpAny_bind (hg _ _ _ (wpAny_bind (wpAny_storeSet_of at1 rfl ?_ (fits_of_scanBound (show es2.size < scanBound by rw [sz]; exact hb1)))))
    refine wpAny_pure (hR _ (sb1.trans (Heap.SameBut.update _ a _)) ⟨_, es2, _, t3, store_at (es' := es2) (t' := t3) at1 rfl, hex, rfl, fun e he => g1 e (pm.mem_iff.mp he), (pm.map keyK).trans p1, n1, by rw [sz]; exact hb1, f3, r3, ?_⟩)
    rcases hl with hl | hl
    · exact .inl hl
    · exact .inr (l3.trans hl)
  · rw [if_neg full]
    exact wpAny_pure (hR _ sb1 ⟨_, es1, _, t2, at1, hex, rfl, g1, p1, n1, hb1, hf2, hr, hl⟩)
def addK (ks : List Key) (k : Key) : List Key := if (ks.any fun j => decide (j = k)) = true then ks else k :: ks
theorem any_mem {ks : List Key} {k : Key} : (ks.any fun j => decide (j = k)) = true ↔ k ∈ ks := by
  rw [List.any_eq_true]
  exact ⟨fun ⟨j, h, e⟩ => of_decide_eq_true e ▸ h, fun h => ⟨k, h, decide_eq_true rfl⟩⟩
theorem setG_add {k : Key} {v : Value} {Q : Bool → Shared → Prop} (R : SetG w s.heap a ks) (hkey : keyIs k v = true) (room : ks.length + 1 < scanBound)
    (hQ : ∀ h' b, Heap.SameBut a s.heap h' → SetG w h' a (addK ks k) → Q b { s with heap := h' }) :
    wpAny (model P w) A (setAddHashed a v ((mixKind P w).hash k)) Q E s := by
  obtain ⟨o, es, ep, t, ho, hex, hd, g, pk, nd, hb, hf, hr, hl⟩ := R
  have hkey' : (mixKind P w).is k v = true := hkey
  have hsc : v.scannable = true := by
    rcases keyIs_shape hkey with ⟨i, t, rfl, rfl⟩ | ⟨x, t, rfl, rfl⟩ <;> rfl
  have hel : ElemsOf (mixKind P w) es.toList := goodK_elems g
  have mem : k ∈ ks ↔ ∃ e ∈ es.toList, (mixKind P w).is k e.2 = true := by
    rw [← pk.mem_iff, List.mem_map]
    exact ⟨fun ⟨e, he, q⟩ => ⟨e, he, (goodK_is (g e he) k).2 q⟩, fun ⟨e, he, q⟩ => ⟨e, he, (goodK_is (g e he) k).1 q⟩⟩
  unfold setAddHashed setAddHashedIn
  refine wpAny_holding (wpAny_bind (wpAny_setState_of ho hd hf ?_))
  dsimp only
  rw [byScan_of hsc hb hel]
  simp only [↓reduceIte]
  unfold setAddByScan
  refine wpAny_bind (wpAny_bind (wpAny_rule (wpAny_bind (wpAny_setScan_of hkey' ho hd hf hel ?_))))
  cases hfi : List.findIdx? (fun e => (mixKind P w).is k e.2) es.toList with
  | some j =>
    obtain ⟨hj, pj, _⟩ := List.findIdx?_eq_some_iff_getElem.mp hfi
    have inK : k ∈ ks := mem.2 ⟨es.toList[j], List.getElem_mem hj, pj⟩
    have eK : addK ks k = ks := if_pos (any_mem.2 inK)
    refine wpAny_pure (wpAny_pure (hQ s.heap _ (Heap.SameBut.refl a s.heap) ?_))
    rw [eK]
    exact ⟨o, es, ep, t, ho, hex, hd, g, pk, nd, hb, hf, hr, hl⟩
  | none =>
    have outK : k ∉ ks := fun z => by
      obtain ⟨e, he, q⟩ := mem.1 z
      have c := List.findIdx?_eq_none_iff.mp hfi e he
      rw [q] at c
      cases c
    have eK : addK ks k = k :: ks := if_neg fun z => outK (any_mem.1 z)
    dsimp only
    have pm := layNew_perm t es ((mixKind P w).hash k) v
    have f1 := layNew_fits t es ((mixKind P w).hash k) v
    have r1 := layNew_ris t es ((mixKind P w).hash k) v hr
    have l1 := layNew_led t es ((mixKind P w).hash k) v
    revert pm f1 r1 l1
    generalize layNew t es ((mixKind P w).hash k) v = Z
    obtain ⟨es1, t1, wasDummy, gave⟩ := Z
    intro pm f1 r1 l1
    dsimp only at pm f1 r1 l1 ⊢
    rw [Array.toList_push] at pm
    have pc : es1.toList.Perm (((mixKind P w).hash k, v) :: es.toList) := pm.trans (List.perm_append_singleton _ _)
    have pk1 : (es1.toList.map keyK).Perm (k :: ks) := by
      have q := pc.map keyK
      rw [List.map_cons, keyK_is (e := ((mixKind P w).hash k, v)) hkey] at q
      exact q.trans (pk.cons k)
    have g1 : ∀ e ∈ es1.toList, GoodK w e := fun e he => by
      rcases List.mem_cons.mp (pc.mem_iff.mp he) with z | z
      · rw [z]; exact ⟨k, hkey, rfl⟩
      · exact g e z
    have nd1 : (k :: ks).Nodup := List.nodup_cons.mpr ⟨outK, nd⟩
    have hb1 : es1.size < scanBound := by
      have q := pk1.length_eq
      rw [List.length_map, Array.length_toList, List.length_cons] at q
      omega
    have led1 : w.params.followText "set-order" = true ∨ t1.led = true := by
      rcases hl with z | z
      · exact .inl z
      · exact .inr (l1.trans z)
    have gw : ∀ (b : Bool) (s₁ : Shared) (Q' : Unit → Shared → Prop), Q' () s₁ → wpAny (model P w) A (match b with | true => rule "set.scan.the-table-gave-way" | false => pure ()) Q' E s₁ := fun b s₁ Q' q => by
      cases b
      · exact wpAny_pure q
      · exact wpAny_rule q
    have fin : ∀ h', Heap.SameBut a s.heap h' → SetG w h' a (k :: ks) → Q true { s with heap := h' } := fun h' sb r => hQ h' true sb (by rw [eK]; exact r)
    refine wpAny_bind (gw _ _ _ ?_)
    split
    · refine wpAny_bind ?_
      rw [hashByValue_scannable 8 hsc]
      refine wpAny_pure (setG_tail gw ho hex hd g1 pk1 nd1 hb1 ?_ ?_ ?_ fun h' sb r => ?_)
      · first
          | exact f1
          | (split <;> first | exact f1 | exact SetTable.fits_plain_off f1)
      · first
          | exact r1
          | (split <;> exact r1)
      · first
          | exact led1
          | (split <;> exact led1)
      · dsimp only
        exact wpAny_pure (fin h' sb r)
    · refine wpAny_bind (wpAny_pure ?_)
      simp only [↓reduceIte]
      refine setG_tail gw ho hex hd g1 pk1 nd1 hb1 f1 r1 led1 fun h' sb r => ?_
      dsimp only
      exact wpAny_pure (fin h' sb r)
/-- the keys of a list, none twice -/
def foldK (xs : List Key) : List Key := xs.foldl addK []
theorem foldK_snoc (xs : List Key) (k : Key) : foldK (xs ++ [k]) = addK (foldK xs) k := by
  unfold foldK
  rw [List.foldl_append]
  rfl
theorem addK_len (ks : List Key) (k : Key) : (addK ks k).length ≤ ks.length + 1 := by
  unfold addK
  split
  · omega
  · exact Nat.le_refl _
theorem mem_addK {ks : List Key} {k j : Key} : j ∈ addK ks k ↔ j ∈ ks ∨ j = k := by
  unfold addK
  split
  · rename_i h
    have := any_mem.1 h
    exact ⟨.inl, fun z => z.elim id fun e => e ▸ this⟩
  · rw [List.mem_cons]
    exact Or.comm
theorem foldK_facts : ∀ (xs ks : List Key), (xs.foldl addK ks).length ≤ ks.length + xs.length ∧ ∀ j, j ∈ xs.foldl addK ks ↔ j ∈ ks ∨ j ∈ xs
  | [], ks => ⟨Nat.le_refl _, fun j => by simp⟩
  | x :: xs, ks => by
    have ih := foldK_facts xs (addK ks x)
    have l := addK_len ks x
    refine ⟨by show (xs.foldl addK (addK ks x)).length ≤ _; have := ih.1; rw [List.length_cons]; omega, fun j => ?_⟩
    show j ∈ xs.foldl addK (addK ks x) ↔ _
    rw [ih.2 j, mem_addK, List.mem_cons]
    exact or_assoc
theorem foldK_len (xs : List Key) : (foldK xs).length ≤ xs.length := by
  have := (foldK_facts xs []).1
  simpa [foldK] using this
theorem mem_foldK {xs : List Key} {j : Key} : j ∈ foldK xs ↔ j ∈ xs := by
  have := (foldK_facts xs []).2 j
  simpa [foldK] using this
theorem setG_new {h : Heap} {a : Addr} (ho : h.get? a = some { cls := .type "set", dict := none, data := .set #[] 0 (.fresh 0 0 (!w.params.followText "set-order")) }) : SetG w h a [] := by
  refine ⟨_, #[], 0, _, ho, ⟨rfl, rfl, rfl⟩, rfl, fun e he => absurd he (by simp), by simp, List.nodup_nil, by decide, rfl, List.Pairwise.nil, ?_⟩
  cases hx : w.params.followText "set-order" with
  | true => exact .inl rfl
  | false => exact .inr rfl
theorem setG_update {I : Addr} {fp wr : List Addr} {G : Array GenState → Array GenState → Prop} {n : Nat} {Pv : Nat → Value → Prop} {St : Nat → Shared → Prop} {R : Result → Shared → Prop}
    (W : WalksS P w A.in1 I fp wr G n Pv St) (S : Addr) (hSf : S ∉ fp) (xs : List Key) (hn : n = xs.length) (hb : xs.length + 1 < scanBound) (hval : ∀ i v, Pv i v → ∃ k, xs[i]? = some k ∧ keyIs k v = true) :
    ∀ (m i : Nat) (s : Shared), n - i = m → i ≤ n → St i s → SetG w s.heap S (foldK (xs.take i)) →
      (∀ s', Moved (S :: wr) G s s' → SetG w s'.heap S (foldK xs) → R (.ok (.ret .none)) s') →
      codeAny (model P w) A (.builtin "set.update.loop" ⟨[.ref S, .ref I], []⟩) R s := by
  have notW : S ∉ wr := fun z => hSf (W.sub _ z)
  intro m
  induction m with
  | zero =>
    intro i s hm hi hst hS hR
    obtain rfl : i = n := by omega
    rw [show xs.take i = xs from List.take_of_length_le (by omega)] at hS
    refine codeAny_builtin F.entry_set_update_loop ?_
    rw [Around.under_plainId F.plain_set_update_loop _]
    show wpAny _ A.in1 (pyNext (.ref I) >>= _) _ _ s
    exact wpAny_bind (W.done s _ _ hst fun s' mv => wpAny_pure (hR s' (mv.mono fun b hb => List.mem_cons_of_mem _ hb) (hS.at fun o e => mv.heap S o notW e)))
  | succ m ih =>
    intro i s hm hi hst hS hR
    have lt : i < n := by omega
    refine codeAny_builtin F.entry_set_update_loop ?_
    rw [Around.under_plainId F.plain_set_update_loop _]
    show wpAny _ A.in1 (pyNext (.ref I) >>= _) _ _ s
    refine wpAny_bind (W.item i s _ _ lt hst fun v s' hP hst' mv => ?_)
    obtain ⟨k, hk, hkey⟩ := hval i v hP
    have sc : v.scannable = true := by
      rcases keyIs_shape hkey with ⟨i, t, rfl, rfl⟩ | ⟨x, t, rfl, rfl⟩ <;> rfl
    have hS' : SetG w s'.heap S (foldK (xs.take i)) := hS.at fun o e => mv.heap S o notW e
    have len := foldK_len (xs.take i)
    rw [List.length_take] at len
    show wpAny _ A.in1 (holding [v] (setAdd S v) >>= _) _ _ s'
    refine wpAny_bind (wpAny_holding ?_)
    unfold setAdd
    refine wpAny_holding (wpAny_bind ((mixKind P w).pyHash (k := k) hkey ?_))
    refine setG_add (s := { s' with toks := s'.toks + 1 }) hS' hkey (by omega) fun h' b sb hS2 => ?_
    have e3 : addK (foldK (xs.take i)) k = foldK (xs.take (i + 1)) := by
      rw [List.take_add_one, hk]
      exact (foldK_snoc _ _).symm
    rw [e3] at hS2
    refine wpAny_pure ⟨plainId_quiet F.plain_set_update_loop _, ih (i + 1) _ (by omega) lt (W.frame _ s' _ _ hst' (Nat.le_succ _) fun c hc o e => ?_) hS2 fun s'' mv2 r => ?_⟩
    · rw [sb.2 c (by rintro rfl; exact hSf hc)]
      exact e
    · refine hR s'' (Moved.trans W.gtrans ((mv.mono fun b hb => List.mem_cons_of_mem _ hb).then_heap (Nat.le_succ _) fun c o hc e => ?_) mv2) r
      rw [sb.2 c (by rintro rfl; exact hc List.mem_cons_self)]
      exact e
/-- the new set, its table as the setting says -/
abbrev set0 (w : World) : Obj := { cls := .type "set", dict := none, data := .set #[] 0 (.fresh 0 0 (!w.params.followText "set-order")) }
set_option maxHeartbeats 8000000 in
/-- set(xs), a list of ints and texts -/
theorem call_setG {l : Addr} {items : Array Value} (xs : List Key) {Q : Value → Shared → Prop} (hh : A.handled = none) (hl : s.heap.IsList l items) (hn : items.size = xs.length) (hv : ∀ (i : Nat) (v : Value), items[i]? = some v → ∃ k, xs[i]? = some k ∧ keyIs k v = true) (hb : xs.length + 1 < scanBound)
    (h : ∀ (h' : Heap) (tk : Nat), SetG w h' s.heap.objs.size (foldK xs) → (∀ b o, s.heap.get? b = some o → h'.get? b = some o) → Q (.ref s.heap.objs.size) { s with heap := h', toks := tk }) :
    wpAny (model P w) A (call (.type "set") [.ref l]) Q E s := by
  obtain ⟨c, tl, hmro⟩ := F.called_set.mro
  have made := F.called_set.made
  have sub := F.called_set.sub
  have ct := F.typeCall_set_1 (.ref l)
  have nt := F.called_set.notType
  have cc := F.called_set.canCreate
  refine wpAny_call (codeAny_of_tree ?_)
  show wpAny _ _ (callAny (.type "set") _) _ _ _
  refine wpAny_pure ⟨Code.quiet_builtin _ (by decide +kernel), codeAny_builtin F.entry_type_call ?_⟩
  rw [Around.under_plain (weight_type_call_type "set" [.ref l] []) rfl]
  repeat (any_goals (first | assumption | wp_step))
  refine codeAny_mono (code_set_led1 (.ref l) (E := E) (Q₁ := fun obj s₁ => obj = .ref s.heap.objs.size ∧ s₁ = { s with heap := s.heap.push (set0 w) }) ⟨rfl, rfl⟩) fun r s₁ hr => ?_
  cases r with
  | error e => exact hr
  | ok fl =>
    cases fl with
    | ret obj =>
      obtain ⟨rfl, rfl⟩ := hr
      have new : (s.heap.push (set0 w)).get? s.heap.objs.size = some (set0 w) := Heap.get?_push_size _ rfl
      have ty : Shared.TypeIs { s with heap := s.heap.push (set0 w) } (.ref s.heap.objs.size) "set" := ⟨_, new, rfl⟩
      have il := F.called_set.init.lookup
      have ib := F.called_set.init.bind (.ref s.heap.objs.size)
      repeat (any_goals (first | assumption | wp_step))
      refine codeAny_mono (codeAny_call_builtin (R := wants (fun r s₂ => r = .none ∧ ∃ h' tk, s₂ = { s with heap := h', toks := tk } ∧ SetG w h' s.heap.objs.size (foldK xs) ∧ (∀ b o, s.heap.get? b = some o → h'.get? b = some o)) E)
        F.called_set.init.plain F.entry_set_init (check_set_init_1 ty ?_)) fun r₂ s₂ hr₂ => ?_
      · obtain ⟨ol, hol, hcl, nl, hdl⟩ := hl
        obtain ⟨ocls, odict, odata, oslots⟩ := ol
        simp only at hcl hdl
        subst hcl
        subst hdl
        have there : (s.heap.push (set0 w)).get? l = some { cls := .type "list", dict := odict, data := .seq items nl, slots := oslots } := Heap.get?_push_of_some _ hol
        have nos := F.sub_list_set
        have nof := F.sub_list_frozenset
        have nod : (Value.type "list" == Value.type "dict") = false := by decide
        have is1 : (s.heap.push (set0 w)).IsList l items := ⟨_, there, rfl, nl, rfl⟩
        unfold Builtin.«set.__init__» noKeywords Builtin.Frozenset.updateFrom
        generalize hPI : pyIter = PI
        wp_walk
        subst hPI
        refine wpAny_pyIter_list is1 (wpAny_bind (wpAny_runValue ?_))
        have lt : l < s.heap.objs.size := Heap.lt_size hol
        have hh3 : A.in1.in1.in1.handled = none := by simp [hh]
        have z1 : (s.heap.push (set0 w)).objs.size = s.heap.objs.size + 1 := Heap.size_push ..
        have ne : l ≠ (s.heap.push (set0 w)).objs.size := by
          rw [z1]
          exact Nat.ne_of_lt (Nat.lt_succ_of_lt lt)
        have out : s.heap.objs.size ∉ [(s.heap.push (set0 w)).objs.size, l] := by
          rw [z1]
          intro hm
          rcases List.mem_cons.mp hm with e | hm
          · exact absurd e (Nat.ne_of_lt (Nat.lt_succ_self _))
          · exact absurd (List.mem_singleton.mp hm) (Nat.ne_of_gt lt)
        refine setG_update ((Walks.list hh3 _ l ne items).toS) s.heap.objs.size out xs hn hb (fun i v hiv => hv i v hiv) (items.size - 0) 0 _ (by omega) (Nat.zero_le _)
          ⟨⟨_, Heap.get?_push_size _ rfl, rfl, rfl⟩, is1.push _⟩ ?hS0 ?hR
        case hS0 => exact setG_new (Heap.get?_push_of_some _ new)
        case hR =>
          intro s' mv hS'
          obtain ⟨h', g2, d', tk', os'⟩ := s'
          cases (show g2 = s.gens from mv.gens)
          cases (show d' = s.drawn from mv.drawn)
          cases (show os' = s.os from mv.os)
          show wpAny _ _ _ _ _ _
          refine wpAny_pure ?_
          show wpAny _ _ (ret Value.none) _ _ _
          refine wpAny_pure ⟨rfl, h', tk', rfl, hS', fun b o e => ?_⟩
          have b0 : b < s.heap.objs.size := Heap.lt_size e
          refine mv.heap b o (fun hm => ?_) (Heap.get?_push_of_some _ (Heap.get?_push_of_some _ e))
          rcases List.mem_cons.mp hm with q | hm
          · exact absurd q (Nat.ne_of_lt b0)
          · have q := List.mem_singleton.mp hm
            rw [q, z1] at b0
            exact absurd b0 (Nat.not_lt.mpr (Nat.le_succ _))
      · cases r₂ with
        | error e => exact hr₂
        | ok fl₂ =>
          cases fl₂ with
          | ret r =>
            obtain ⟨rfl, h', tk, rfl, hS', hk'⟩ := hr₂
            repeat (any_goals (first | assumption | wp_step))
            exact h _ _ hS' hk'
          | _ => exact hr₂.elim
    | _ => exact hr.elim
end
end Qs
namespace Qs
open PySem PySem.Spec PyProof.Rows L2
section
variable {P : Program} {w : World} {A : Around} {E : Value → Shared → Prop} {s : Shared} {a : Addr} {ks : List Key}
def keyN : Key → Int | .inl i => i | .inr _ => 0
def keyT : Key → Str | .inr x => x | .inl _ => ⟨#[]⟩
theorem keyN_of (e : Int × Value) : keyN (keyK e) = SrtO.iv e.2 := by
  obtain ⟨a, v⟩ := e
  cases v <;> rfl
theorem keyT_of (e : Int × Value) : keyT (keyK e) = strOf e.2 := by
  obtain ⟨a, v⟩ := e
  cases v <;> rfl
theorem perm_map {β : Type} {f : Key → β} {g : Value → β} (h : ∀ e : Int × Value, f (keyK e) = g e.2) {l : List (Int × Value)} {vs : List Value} (p : (l.map keyK).Perm ks) (pm : vs.Perm (l.map (·.2))) : (vs.map g).Perm (ks.map f) := by
  have e : (l.map (·.2)).map g = (l.map keyK).map f := by
    rw [List.map_map, List.map_map]
    exact List.map_congr_left fun x _ => (h x).symm
  have q := pm.map g
  rw [e] at q
  exact q.trans (p.map f)
theorem good_int {l : List (Int × Value)} (g : ∀ e ∈ l, GoodK w e) {ns : List Int} (p : (l.map keyK).Perm (ns.map Sum.inl)) {vs : List Value} (pm : vs.Perm (l.map (·.2))) : ∀ v ∈ vs, ∃ i t, v = Value.int i t := by
  intro v hv
  obtain ⟨e, he, rfl⟩ := List.mem_map.mp (pm.mem_iff.mp hv)
  obtain ⟨k, hk, _⟩ := g e he
  have m : k ∈ ns.map Sum.inl := p.mem_iff.mp (List.mem_map.mpr ⟨e, he, keyK_is hk⟩)
  obtain ⟨n, _, rfl⟩ := List.mem_map.mp m
  rcases keyIs_shape hk with ⟨i, t, _, e2⟩ | ⟨x, t, e1, _⟩
  · exact ⟨i, t, e2⟩
  · cases e1
theorem good_str {l : List (Int × Value)} (g : ∀ e ∈ l, GoodK w e) {ns : List Str} (p : (l.map keyK).Perm (ns.map Sum.inr)) {vs : List Value} (pm : vs.Perm (l.map (·.2))) : ∀ v ∈ vs, ∃ i t, v = Value.str i t := by
  intro v hv
  obtain ⟨e, he, rfl⟩ := List.mem_map.mp (pm.mem_iff.mp hv)
  obtain ⟨k, hk, _⟩ := g e he
  have m : k ∈ ns.map Sum.inr := p.mem_iff.mp (List.mem_map.mpr ⟨e, he, keyK_is hk⟩)
  obtain ⟨n, _, rfl⟩ := List.mem_map.mp m
  rcases keyIs_shape hk with ⟨i, t, e1, _⟩ | ⟨x, t, _, e2⟩
  · cases e1
  · exact ⟨x, t, e2⟩
theorem ofBound {n : Nat} (h : n < scanBound) : n ≤ sizeLine := fits_of_scanBound h
theorem sorted_setI {ns : List Int} {Q : Value → Shared → Prop} (R : SetG w s.heap a (ns.map Sum.inl)) (hh : A.handled = none)
    (hQ : ∀ s' p (out : Array Value) (c : Nat) (ns' : List Int), (∀ b o, s.heap.get? b = some o → s'.heap.get? b = some o) → s'.gens = s.gens → s'.os = s.os → s.heap.objs.size ≤ p →
      s'.heap.get? p = some (seqObj "list" out c) → IntsAre out.toList ns' → ns'.Perm ns → ns'.Pairwise (· ≤ ·) → Q (.ref p) s') :
    wpAny (model P w) A (call (.builtin "sorted") [.ref a]) Q E s := by
  obtain ⟨o, es, ep, t, ho, hex, hd, g, pk, nd, hb, hf, hr, hl⟩ := R
  refine Calls.call_function_entry kind_sorted plain_sorted entry_sorted (args_sorted1 _) ?_
  unfold Builtin.«sorted»
  refine wpAny_bind (m := checkCount "sorted" 1 1 _) (wpAny_pure (wpAny_bind (collect_set (A := A.in1) hh ⟨o, ho, hex.1, hd⟩ hf hb hr hl fun s1 vs k1 hz g1 o1 pm => ?_)))
  have lvs : vs.length ≤ sizeLine := by
    rw [pm.length_eq, List.length_map, Array.length_toList]
    exact ofBound hb
  have isI : IntsAre vs (vs.map SrtO.iv) := SrtO.ints_iv (good_int g pk pm)
  have pI : (vs.map SrtO.iv).Perm ns := by
    have q := perm_map keyN_of pk pm
    rw [List.map_map, show (keyN ∘ Sum.inl : Int → Int) = id from rfl, List.map_id] at q
    exact q
  refine wpAny_bind (wpAny_newList ?_ lvs)
  have hoL : (s1.heap.push (seqObj "list" vs.toArray 0)).get? s1.heap.objs.size = some (seqObj "list" vs.toArray 0) := Heap.get?_push_size _ rfl
  refine wpAny_bind (wpAny_holding (wpAny_call_entry slot_list_sort ⟨_, hoL, rfl⟩ entry_list_sort (list_sort_treeAny hoL isI lvs fun out ns' a1 a2 a3 => ⟨_, rfl, ?_⟩) (args_list_sort _)))
  obtain ⟨c, hc⟩ := sortedHeap_at (vs := vs) (out := out) hoL
  refine wpAny_pure ⟨_, rfl, hQ _ s1.heap.objs.size out c ns' (fun b u e => ?_) g1 o1 hz hc a1 (a2.trans pI) a3⟩
  have q := k1 b u e
  have lt := Heap.lt_size q
  show (sortedHeap (s1.heap.push (seqObj "list" vs.toArray 0)) s1.heap.objs.size vs out).get? b = some u
  rw [sortedHeap_old (Nat.ne_of_lt lt) (by rw [size_push']; exact Nat.lt_succ_of_lt lt)]
  exact Heap.get?_push_of_some _ q
theorem sorted_setS {ns : List Str} {Q : Value → Shared → Prop} (R : SetG w s.heap a (ns.map Sum.inr)) (hh : A.handled = none)
    (hQ : ∀ s' p (out : Array Value) (c : Nat) (ns' : List Str), (∀ b o, s.heap.get? b = some o → s'.heap.get? b = some o) → s'.gens = s.gens → s'.os = s.os → s.heap.objs.size ≤ p →
      s'.heap.get? p = some (seqObj "list" out c) → StrsAre out.toList ns' → ns'.Perm ns → sortedS ns' = true → Q (.ref p) s') :
    wpAny (model P w) A (call (.builtin "sorted") [.ref a]) Q E s := by
  obtain ⟨o, es, ep, t, ho, hex, hd, g, pk, nd, hb, hf, hr, hl⟩ := R
  refine Calls.call_function_entry kind_sorted plain_sorted entry_sorted (args_sorted1 _) ?_
  unfold Builtin.«sorted»
  refine wpAny_bind (m := checkCount "sorted" 1 1 _) (wpAny_pure (wpAny_bind (collect_set (A := A.in1) hh ⟨o, ho, hex.1, hd⟩ hf hb hr hl fun s1 vs k1 hz g1 o1 pm => ?_)))
  have lvs : vs.length ≤ sizeLine := by
    rw [pm.length_eq, List.length_map, Array.length_toList]
    exact ofBound hb
  have isS : StrsAre vs (vs.map strOf) := strsAre_map vs (good_str g pk pm)
  have pS : (vs.map strOf).Perm ns := by
    have q := perm_map keyT_of pk pm
    rw [List.map_map, show (keyT ∘ Sum.inr : Str → Str) = id from rfl, List.map_id] at q
    exact q
  refine wpAny_bind (wpAny_newList ?_ lvs)
  have hoL : (s1.heap.push (seqObj "list" vs.toArray 0)).get? s1.heap.objs.size = some (seqObj "list" vs.toArray 0) := Heap.get?_push_size _ rfl
  refine wpAny_bind (wpAny_holding (wpAny_call_entry slot_list_sort ⟨_, hoL, rfl⟩ entry_list_sort (list_sort_treeKAny strKind_oneLt hoL isS.keysOf (fun v₁ v₂ rest e => keyKind_strs (by rw [← e]; exact isS)) lvs fun st' hp hs => ?_) (args_list_sort _)))
  obtain ⟨ns', a1, a2, a3⟩ := sorted_out_str isS hp hs
  refine ⟨_, rfl, ?_⟩
  obtain ⟨c, hc⟩ := sortedHeap_at (vs := vs) (out := (arrOf st').map (·.2)) hoL
  refine wpAny_pure ⟨_, rfl, hQ _ s1.heap.objs.size _ c ns' (fun b u e => ?_) g1 o1 hz hc a1 (a2.trans pS) a3⟩
  have q := k1 b u e
  have lt := Heap.lt_size q
  show (sortedHeap (s1.heap.push (seqObj "list" vs.toArray 0)) s1.heap.objs.size vs _).get? b = some u
  rw [sortedHeap_old (Nat.ne_of_lt lt) (by rw [size_push']; exact Nat.lt_succ_of_lt lt)]
  exact Heap.get?_push_of_some _ q
end
/-! over the layer: the set at a -/
def SetV (w : World) (a : Addr) (ks : List Key) : HO := .ext fun h => SetG w h a ks
theorem setV_ok {w : World} {P : Program} {H : Hp} {h : Heap} {a : Addr} {ks : List Key} (R : SetG w h a ks) : ObjOk P w H h a (SetV w a ks) := by
  have at' := R
  obtain ⟨o, es, ep, t, ho, r⟩ := R
  exact ⟨at', ⟨o, ho⟩, fun h1 h2 (p : SetG w h1 a ks) k => p.at fun o e => k o e⟩
section
variable {X : Cx}
def rSetL (K : PySem.W.Frag) (w : World) : List V → Hp → VK → Prop := fun vs H Q => ∃ (a : Addr) (xs : List Key), vs = [.ref a] ∧ SqL K H a (xs.map kV) ∧ xs.length < 4000 ∧ ∀ p H', H p = none → H' = upd H p (SetV w p (foldK xs)) → Q (.ref p) H'
theorem keyIs_kV {k : Key} {v : Value} (r : RelV (kV k) v) : keyIs k v = true := by
  cases k with
  | inl i => obtain ⟨t, rfl⟩ := r; exact keyIs_int i t
  | inr x => obtain ⟨t, rfl⟩ := r; exact keyIs_str x t
theorem cr_setL (hc : X.calm = true) : CallR X (.type "set") (rSetL X.K X.w) := by
  intro pins s σ H vs us Q I r h
  obtain ⟨a, xs, rfl, hs, hb, q⟩ := h
  obtain ⟨its, rv, hl, hz⟩ := I.list hs
  rw [Vals.ref1 r]
  have ln := rv.length
  rw [List.length_map] at ln
  refine call_setG xs (I.ok.hd hc) hl.isList (by rw [List.size_toArray]; exact ln.symm) (fun i v hv => ?_) (by unfold scanBound; omega) fun h' tk R k => ?_
  · have hv' : its[i]? = some v := by simpa using hv
    cases e : xs[i]? with
    | none =>
      have q1 := List.getElem?_eq_none_iff.mp e
      have q2 := (List.getElem?_eq_some_iff.mp hv').1
      omega
    | some x =>
      obtain ⟨u, e2, ru⟩ := rv.get (i := i) (x := kV x) (by rw [List.getElem?_map, e]; rfl)
      rw [hv'] at e2
      cases e2
      exact ⟨x, rfl, keyIs_kV ru⟩
  · have fresh := I.hok.fresh (Nat.le_refl s.heap.objs.size)
    exact ⟨.ref _, _, I.laid (t' := tk) k (Nat.le_refl _) (setV_ok R), rfl, q _ _ fresh rfl⟩
def rSortSet (w : World) : List V → Hp → VK → Prop := fun vs H Q => ∃ (a : Addr), vs = [.ref a] ∧
  ((∃ ns : List Int, H a = some (SetV w a (ns.map Sum.inl)) ∧ ∀ (ns' : List Int) p, ns'.Perm ns → ns'.Pairwise (· ≤ ·) → H p = none → Q (.ref p) (upd H p (.lst (ns'.map V.int)))) ∨
   (∃ ns : List Str, H a = some (SetV w a (ns.map Sum.inr)) ∧ ∀ (ns' : List Str) p, ns'.Perm ns → sortedS ns' = true → H p = none → Q (.ref p) (upd H p (.lst (ns'.map V.str)))))
theorem new_at {pins : List (Addr × Obj)} {σ : L2.St} {H : Hp} {s s' : Shared} {p : Addr} {o : HO} {Q : VK} (I : Inv X pins σ H s) (hp : s.heap.objs.size ≤ p) (k : ∀ b u, s.heap.get? b = some u → s'.heap.get? b = some u) (g : s'.gens = s.gens) (os : s'.os = s.os)
    (ok : ObjOk X.prog X.w (upd H p o) s'.heap p o) (q : H p = none → Q (.ref p) (upd H p o)) : EP X pins σ Q (.ref p) s' := by
  have fr : H p = none := I.hok.fresh hp
  have J := I.call (g' := s'.gens) (t' := s'.toks) (d' := s'.drawn) (ch := []) (Un.laid k hp fr) (I.hok.laid k hp ok) (by rw [g]; exact I.bare) (fun _ z => nomatch z)
  have e : { s with heap := s'.heap, gens := s'.gens, drawn := s'.drawn, toks := s'.toks } = s' := by
    obtain ⟨h1, g1, d1, t1, o1⟩ := s'
    obtain ⟨h2, g2, d2, t2, o2⟩ := s
    cases (show o1 = o2 from os)
    rfl
  rw [e] at J
  exact ⟨.ref p, _, J, rfl, q fr⟩
theorem cr_sortSet (hc : X.calm = true) : CallR X (.builtin "sorted") (rSortSet X.w) := by
  intro pins s σ H vs us Q I r h
  obtain ⟨a, rfl, h⟩ := h
  rw [Vals.ref1 r]
  rcases h with ⟨ns, ha, q⟩ | ⟨ns, ha, q⟩
  · have R : SetG X.w s.heap a (ns.map Sum.inl) := (I.hok a _ ha).1
    refine sorted_setI R (I.ok.hd hc) fun s' p out c ns' k g o1 hp at' h1 h2 h3 => ?_
    have len : (ns'.map V.int).length ≤ sizeLine := by
      rw [List.length_map, h2.length_eq]
      obtain ⟨o, es, ep, t, _, _, _, _, pk, _, hb, _⟩ := R
      have e := pk.length_eq
      rw [List.length_map, List.length_map, Array.length_toList] at e
      rw [← e]
      exact ofBound hb
    exact new_at (o := .lst (ns'.map V.int)) I hp k g o1 ⟨len, out.toList, c, vals_of_ints h1, at'⟩ (q ns' p h2 h3)
  · have R : SetG X.w s.heap a (ns.map Sum.inr) := (I.hok a _ ha).1
    refine sorted_setS R (I.ok.hd hc) fun s' p out c ns' k g o1 hp at' h1 h2 h3 => ?_
    have len : (ns'.map V.str).length ≤ sizeLine := by
      rw [List.length_map, h2.length_eq]
      obtain ⟨o, es, ep, t, _, _, _, _, pk, _, hb, _⟩ := R
      have e := pk.length_eq
      rw [List.length_map, List.length_map, Array.length_toList] at e
      rw [← e]
      exact ofBound hb
    exact new_at (o := .lst (ns'.map V.str)) I hp k g o1 ⟨len, out.toList, c, vals_of_strs h1, at'⟩ (q ns' p h2 h3)
end
end Qs
namespace Qa
open PySem PySem.Spec PyProof.Rows L2
/-! sorted, of lists and sets of keys -/
def leS (a b : Str) : Prop := ltCps b.cps.toList a.cps.toList = false
theorem leS_iff {a b : Str} : leS a b ↔ ¬ b.cps.toList < a.cps.toList := by
  unfold leS
  rw [ltCps_eq, decide_eq_false_iff_not]
theorem leS_trans {a b c : Str} (h : leS a b) (h' : leS b c) : leS a c := by
  rw [leS_iff] at *
  exact List.not_lt.mpr (List.le_trans (List.not_lt.mp h) (List.not_lt.mp h'))
theorem leS_anti {a b : Str} (h : leS a b) (h' : leS b a) : a = b := by
  rw [leS_iff] at *
  have e : a.cps.toList = b.cps.toList := List.le_antisymm (List.not_lt.mp h) (List.not_lt.mp h')
  obtain ⟨x⟩ := a
  obtain ⟨y⟩ := b
  exact congrArg Str.mk (Array.toList_inj.mp e)
theorem pw_rising : ∀ (l : List Str) (p : Str), risingS p l = true → (p :: l).Pairwise leS
  | [], p, _ => by simp
  | x :: r, p, h => by
    have h' : leS p x ∧ risingS x r = true := by
      have : (!ltCps x.cps.toList p.cps.toList && risingS x r) = true := h
      simpa [leS] using this
    have ih := pw_rising r x h'.2
    refine List.pairwise_cons.mpr ⟨fun y hy => ?_, ih⟩
    rcases List.mem_cons.mp hy with rfl | hy
    · exact h'.1
    · exact leS_trans h'.1 ((List.pairwise_cons.mp ih).1 y hy)
theorem pw_sorted {l : List Str} (h : sortedS l = true) : l.Pairwise leS := by
  cases l with
  | nil => exact .nil
  | cons x r => exact pw_rising r x h
def srt (ks : List Key) : Prop := (∃ ns : List Int, ks = ns.map Sum.inl ∧ ns.Pairwise (· ≤ ·)) ∨ (∃ xs : List Str, ks = xs.map Sum.inr ∧ sortedS xs = true)
def hom (ks : List Key) : Prop := (∃ ns : List Int, ks = ns.map Sum.inl) ∨ (∃ xs : List Str, ks = xs.map Sum.inr)
theorem leK : ∀ {ks : List Key}, srt ks → ks.Pairwise (fun a b => match a, b with | .inl i, .inl j => i ≤ j | .inr x, .inr y => leS x y | _, _ => False) := by
  intro ks h
  rcases h with ⟨ns, rfl, h⟩ | ⟨xs, rfl, h⟩
  · exact List.pairwise_map.mpr h
  · exact List.pairwise_map.mpr (pw_sorted h)
theorem srt_uniq {ks ls : List Key} (p : ks.Perm ls) (a : srt ks) (b : srt ls) : ks = ls := by
  refine p.eq_of_pairwise (fun x y _ _ h h' => ?_) (leK a) (leK b)
  cases x with
  | inl i =>
    cases y with
    | inl j => exact congrArg Sum.inl (Int.le_antisymm h h')
    | inr y => exact h.elim
  | inr x =>
    cases y with
    | inl j => exact h.elim
    | inr y => exact congrArg Sum.inr (leS_anti h h')
def rSortedSA (K : PySem.W.Frag) : List V → Hp → VK → Prop := fun vs H Q => ∃ (a : Addr) (xs : List Str), vs = [V.ref a] ∧ SqL K H a (xs.map V.str) ∧
  ∀ (ys : List Str) (p : Addr), ys.Perm xs → sortedS ys = true → H p = none → Q (.ref p) (upd H p (.lst (ys.map V.str)))
section
variable {X : Cx}
theorem cr_sortedSA : CallR X (.builtin "sorted") (rSortedSA X.K) := by
  intro pins s σ H vs us Q I r h
  obtain ⟨a, xs, rfl, hs, q⟩ := h
  obtain ⟨its, rv, hl, hz⟩ := I.list hs
  rw [Vals.ref1 r]
  have hlen0 := rv.length
  have hz' : xs.length ≤ sizeLine := by rw [List.length_map] at hz; exact hz
  refine PyProof.Rows.sorted_strsAny hl.isList rv.strs (by rw [← hlen0]; exact hz) fun out ys h1 h2 h3 => ?_
  obtain ⟨ep, he'⟩ := PyProof.Rows.sortedAll_at s.heap its out
  have hlen : (ys.map V.str).length ≤ sizeLine := by rw [List.length_map, h2.length_eq]; exact hz'
  exact ⟨.ref _, upd H (s.heap.objs.size + 1) (.lst (ys.map V.str)), I.laid (t' := s.toks) (fun _ _ => PyProof.Rows.sortedAll_old) (Nat.le_succ _) ⟨hlen, out.toList, ep, vals_of_strs h1, he'⟩, rfl, q ys _ h2 h3 (I.hok.fresh (Nat.le_succ _))⟩
def rSortedX (K : PySem.W.Frag) (w : World) : List V → Hp → VK → Prop := fun vs H Q => (rSortedI K vs H Q ∨ rSortedSA K vs H Q) ∨ Qs.rSortSet w vs H Q
theorem cr_sortedA (hc : X.calm = true) : CallR X (.builtin "sorted") (rSortedX X.K X.w) := (cr_sortedI.or cr_sortedSA).or (Qs.cr_sortSet hc)
end
section
variable {K : PySem.W.Frag} {w : World} {H : Hp} {Q : VK} {a : Addr} {ks : List Key}
theorem rd_sortK (h : SqL K H a (ks.map kV)) (hm : hom ks) (q : ∀ ks' p H', ks'.Perm ks → srt ks' → H p = none → Ex H H' → H' p = some (.lst (ks'.map kV)) → Q (.ref p) H') : rSortedX K w [.ref a] H Q := by
  rcases hm with ⟨ns, rfl⟩ | ⟨xs, rfl⟩
  · rw [List.map_map] at h
    refine .inl (.inl ⟨a, ns, rfl, h, fun ns' p h1 h2 hp => q (ns'.map Sum.inl) p _ (h1.map _) (.inl ⟨ns', rfl, h2⟩) hp (Evl.Ex.new hp) ?_⟩)
    rw [upd_same, List.map_map]
    rfl
  · rw [List.map_map] at h
    refine .inl (.inr ⟨a, xs, rfl, h, fun ns' p h1 h2 hp => q (ns'.map Sum.inr) p _ (h1.map _) (.inr ⟨ns', rfl, h2⟩) hp (Evl.Ex.new hp) ?_⟩)
    rw [upd_same, List.map_map]
    rfl
theorem rd_sortSetK (h : H a = some (Qs.SetV w a ks)) (hm : hom ks) (q : ∀ ks' p H', ks'.Perm ks → srt ks' → H p = none → Ex H H' → H' p = some (.lst (ks'.map kV)) → Q (.ref p) H') : rSortedX K w [.ref a] H Q := by
  rcases hm with ⟨ns, rfl⟩ | ⟨xs, rfl⟩
  · refine .inr ⟨a, rfl, .inl ⟨ns, h, fun ns' p h1 h2 hp => q (ns'.map Sum.inl) p _ (h1.map _) (.inl ⟨ns', rfl, h2⟩) hp (Evl.Ex.new hp) ?_⟩⟩
    rw [upd_same, List.map_map]
    rfl
  · refine .inr ⟨a, rfl, .inr ⟨xs, h, fun ns' p h1 h2 hp => q (ns'.map Sum.inr) p _ (h1.map _) (.inr ⟨ns', rfl, h2⟩) hp (Evl.Ex.new hp) ?_⟩⟩
    rw [upd_same, List.map_map]
    rfl
/-- a key in a list of keys -/
def memK (k : Key) (ks : List Key) : Bool := ks.any fun j => decide (j = k)
theorem memK_iff {k : Key} {ks : List Key} : memK k ks = true ↔ k ∈ ks := Qs.any_mem
theorem inV_key (k : Key) : ∀ ks : List Key, inV (kV k) (ks.map kV) = memK k ks
  | [] => rfl
  | j :: ks => by
    have ih := inV_key k ks
    unfold inV at ih ⊢
    rw [List.map_cons, List.any_cons, ih]
    have e : eqV (kV j) (kV k) = decide (j = k) := by
      cases j with
      | inl a =>
        cases k with
        | inl b =>
          show (a == b) = _
          rw [Bool.eq_iff_iff]; simp
        | inr b => rfl
      | inr a =>
        cases k with
        | inl b => rfl
        | inr b =>
          show (a == b) = _
          rw [Bool.eq_iff_iff]; simp
    rw [e]
    rfl
theorem flat_keys (ks : List Key) : (ks.map kV).all flatV = true := by
  rw [List.all_eq_true]
  intro v hv
  obtain ⟨k, _, rfl⟩ := List.mem_map.mp hv
  cases k <;> rfl
theorem rd_outK {k : Key} (h : SqL K H a (ks.map kV)) (q : Q (.bl (!memK k ks)) H) : rIn K true (kV k) (.ref a) H Q := by
  refine rd_outL h (by cases k <;> rfl) (flat_keys ks) ?_
  rw [inV_key]
  exact q
theorem rd_setK {xs : List Key} (h : SqL K H a (xs.map kV)) (hl : xs.length < 4000) (q : ∀ p H', H p = none → Ex H H' → H' p = some (Qs.SetV w p (Qs.foldK xs)) → Q (.ref p) H') : Qs.rSetL K w [.ref a] H Q :=
  ⟨a, xs, rfl, h, hl, fun p H' hp e => q p H' hp (by rw [e]; exact Evl.Ex.new hp) (by rw [e]; exact upd_same)⟩
theorem rd_extend {l b : Addr} {xs zs : List V} (h : H l = some (.lst xs)) (h' : H b = some (.lst zs)) (hl : xs.length + zs.length ≤ 4000) (q : Q .non (upd H l (.lst (xs ++ zs)))) : rExtend (.ref l) [.ref b] H Q := ⟨l, b, xs, zs, rfl, rfl, h, h', by rw [sizeLine_eq]; omega, q⟩
end
end Qa
open PySem PySem.Spec PyProof.Rows L2 Qa
/-! rules: what is one, what it names; no program here -/
namespace Qr
section
variable {K : PySem.W.Frag} {H : Hp} {Q : VK}
def isWhole : T → Bool | .int _ => true | _ => false
def within (t : T) (lo hi : Int) : Bool := match t with | .int i => decide (lo ≤ i) && decide (i ≤ hi) | _ => false
def isNum (t : T) : Bool := within t (-1000000000) 1000000000
def isPct (t : T) : Bool := within t 0 100
def isPlace (t : T) (n : Int) : Bool := within t 0 (n - 1)
def letters : Str := "abcdefghijklmnopqrstuvwxyz"
def inLet (c : Nat) : Bool := decide (c ∈ letters.cps.toList)
def isWord : T → Bool
  | .str s => decide (1 ≤ s.length) && decide (s.length ≤ 8) && s.cps.toList.all inLet
  | _ => false
theorem isWord_str (s : Str) : isWord (.str s) = (decide (1 ≤ s.length) && decide (s.length ≤ 8) && s.cps.toList.all inLet) := rfl
def tPARTS : List (Str × List Str) := [("number", ["number"]), ("paper", ["word"]), ("line", ["line"]), ("earlier", ["line"]), ("add", ["rule", "rule"]), ("take", ["rule", "rule"]), ("least", ["rule", "rule"]), ("most", ["rule", "rule"]), ("part", ["rule", "percent"]), ("table", ["table", "rule"]), ("where", ["rule", "rule", "rule"]), ("choose", ["choice", "rule", "rule"])]
def kindsOf (x : Str) : Option (List Str) := tPARTS.lookup x
def hasForm : T → Bool
  | .tup (.str x :: ts) => match kindsOf x with | some ks => decide (ts.length = ks.length) | none => false
  | _ => false
theorem hasForm_str (x : Str) (ts : List T) : hasForm (.tup (.str x :: ts)) = match kindsOf x with | some ks => decide (ts.length = ks.length) | none => false := rfl
structure Sz where
  l : Int
  tb : Int
  ch : Int
def sizeOf' (s : Sz) (k : Str) : Int := if k = "line" then s.l else if k = "table" then s.tb else s.ch
def partOk (rec : T → Bool) (s : Sz) (k : Str) (t : T) : Bool :=
  if k = "rule" then rec t else if k = "number" then isNum t else if k = "percent" then isPct t else if k = "word" then isWord t else isPlace t (sizeOf' s k)
def zipOk (f : Str → T → Bool) : List T → List Str → Bool
  | t :: ts, k :: ks => f k t && zipOk f ts ks
  | _, _ => true
def isRule (s : Sz) : Nat → T → Bool
  | 0, _ => false
  | n + 1, t => hasForm t && match t with
    | .tup (.str x :: ts) => (match kindsOf x with | some ks => zipOk (partOk (isRule s n) s) ts ks | none => false)
    | _ => false
def kinds : List Str := ["number", "word", "line", "rule", "percent", "table", "choice"]
theorem zipOk_drop (f : Str → T → Bool) : ∀ (ts : List T) (ks : List Str) (i : Nat) (t : T) (k : Str), ts[i]? = some t → ks[i]? = some k → zipOk f (ts.drop i) (ks.drop i) = (f k t && zipOk f (ts.drop (i + 1)) (ks.drop (i + 1)))
  | [], _, i, _, _, h, _ => by simp at h
  | _ :: _, [], i, _, _, _, h => by simp at h
  | _ :: _, _ :: _, 0, _, _, h, h2 => by cases (Option.some.inj h); cases (Option.some.inj h2); rfl
  | _ :: ts, _ :: ks, i + 1, t, k, h, h2 => zipOk_drop f ts ks i t k h h2
theorem zipOk_end (f : Str → T → Bool) (ts : List T) (ks : List Str) (i : Nat) (h : min ts.length ks.length ≤ i) : zipOk f (ts.drop i) (ks.drop i) = true := by
  by_cases h1 : ts.length ≤ i
  · rw [List.drop_eq_nil_of_le h1]
    cases ks.drop i <;> rfl
  · rw [List.drop_eq_nil_of_le (show ks.length ≤ i by omega)]
    cases ts.drop i <;> rfl
theorem kinds_of {x : Str} {ks : List Str} (h : kindsOf x = some ks) : ∀ k ∈ ks, k ∈ kinds := by
  have all : ∀ p ∈ tPARTS, ∀ k ∈ p.2, k ∈ kinds := by decide +kernel
  have := List.lookup_eq_some_iff.mp (show tPARTS.lookup x = some ks from h)
  obtain ⟨l1, l2, e, _⟩ := this
  exact all (x, ks) (by rw [e]; simp)
theorem isRule_form (s : Sz) (n : Nat) {x : Str} {ts : List T} {ks : List Str} (e : kindsOf x = some ks) (h : ts.length = ks.length) : isRule s (n + 1) (.tup (.str x :: ts)) = zipOk (partOk (isRule s n) s) ts ks := by
  show (hasForm (.tup (.str x :: ts)) && match kindsOf x with | some ks => zipOk (partOk (isRule s n) s) ts ks | none => false) = _
  rw [hasForm_str, e]
  show (decide (ts.length = ks.length) && _) = _
  rw [decide_eq_true h, Bool.true_and]
theorem isRule_noform (s : Sz) (n : Nat) {t : T} (h : hasForm t = false) : isRule s (n + 1) t = false := by
  show (hasForm t && _) = false
  rw [h, Bool.false_and]
theorem form_of {t : T} (h : hasForm t = true) : ∃ x ts ks, t = .tup (.str x :: ts) ∧ kindsOf x = some ks ∧ ts.length = ks.length := by
  cases t with
  | tup ts =>
    cases ts with
    | nil => cases h
    | cons t0 ts =>
      cases t0 with
      | str x =>
        rw [hasForm_str] at h
        cases e : kindsOf x with
        | none => rw [e] at h; cases h
        | some ks => rw [e] at h; exact ⟨x, ts, ks, rfl, e, of_decide_eq_true h⟩
      | _ => cases h
  | _ => cases h
theorem isRule_at (s : Sz) (n : Nat) {x : Str} {ts : List T} {ks : List Str} (e : kindsOf x = some ks) : isRule s (n + 1) (.tup (.str x :: ts)) = (decide (ts.length = ks.length) && zipOk (partOk (isRule s n) s) ts ks) := by
  show (hasForm (.tup (.str x :: ts)) && match kindsOf x with | some ks => zipOk (partOk (isRule s n) s) ts ks | none => false) = _
  rw [hasForm_str, e]
theorem isRule_len (s : Sz) (n : Nat) {x : Str} {ts : List T} {ks : List Str} (e : kindsOf x = some ks) (h : ts.length ≠ ks.length) : isRule s (n + 1) (.tup (.str x :: ts)) = false := by
  rw [isRule_at s n e, decide_eq_false h, Bool.false_and]
theorem isRule_none (s : Sz) (n : Nat) {x : Str} {ts : List T} (e : kindsOf x = none) : isRule s (n + 1) (.tup (.str x :: ts)) = false := by
  apply isRule_noform
  rw [hasForm_str, e]
theorem kinds_len {x : Str} {ks : List Str} (h : kindsOf x = some ks) : 1 ≤ ks.length ∧ ks.length ≤ 3 := by
  have all : ∀ p ∈ tPARTS, 1 ≤ p.2.length ∧ p.2.length ≤ 3 := by decide +kernel
  obtain ⟨l1, l2, e, _⟩ := List.lookup_eq_some_iff.mp (show tPARTS.lookup x = some ks from h)
  exact all (x, ks) (by rw [e]; simp)
def words : List Str := ["number", "paper", "line", "earlier", "add", "take", "least", "most", "part", "table", "where", "choose"]
theorem words_map : tPARTS.map (·.1) = words := rfl
theorem kinds_none {x : Str} (h : x ∉ words) : kindsOf x = none := by
  show tPARTS.lookup x = none
  rw [List.lookup_eq_none_iff]
  intro p hp
  rw [bne_iff_ne]
  rintro rfl
  exact h (words_map ▸ List.mem_map.mpr ⟨p, hp, rfl⟩)
section
variable (s : Sz) (n : Nat) (a b c : T)
theorem R_number : isRule s (n + 1) (.tup [.str "number", a]) = isNum a := by
  rw [isRule_at s n (ks := ["number"]) rfl]
  show (true && (isNum a && true)) = _
  simp
theorem R_paper : isRule s (n + 1) (.tup [.str "paper", a]) = isWord a := by
  rw [isRule_at s n (ks := ["word"]) rfl]
  show (true && (isWord a && true)) = _
  simp
theorem R_line : isRule s (n + 1) (.tup [.str "line", a]) = isPlace a s.l := by
  rw [isRule_at s n (ks := ["line"]) rfl]
  show (true && (isPlace a s.l && true)) = _
  simp
theorem R_earlier : isRule s (n + 1) (.tup [.str "earlier", a]) = isPlace a s.l := by
  rw [isRule_at s n (ks := ["line"]) rfl]
  show (true && (isPlace a s.l && true)) = _
  simp
theorem R_part : isRule s (n + 1) (.tup [.str "part", a, b]) = (isRule s n a && isPct b) := by
  rw [isRule_at s n (ks := ["rule", "percent"]) rfl]
  show (true && (isRule s n a && (isPct b && true))) = _
  simp
theorem R_table : isRule s (n + 1) (.tup [.str "table", a, b]) = (isPlace a s.tb && isRule s n b) := by
  rw [isRule_at s n (ks := ["table", "rule"]) rfl]
  show (true && (isPlace a s.tb && (isRule s n b && true))) = _
  simp
theorem R_choose : isRule s (n + 1) (.tup [.str "choose", a, b, c]) = (isPlace a s.ch && (isRule s n b && isRule s n c)) := by
  rw [isRule_at s n (ks := ["choice", "rule", "rule"]) rfl]
  show (true && (isPlace a s.ch && (isRule s n b && (isRule s n c && true)))) = _
  simp
theorem R_where : isRule s (n + 1) (.tup [.str "where", a, b, c]) = [a, b, c].all (isRule s n) := by
  rw [isRule_at s n (ks := ["rule", "rule", "rule"]) rfl]
  show (true && _) = _
  rw [Bool.true_and]
  rfl
theorem R_two {x : Str} (h : x ∈ (["add", "take", "least", "most"] : List Str)) : kindsOf x = some (["rule", "rule"] : List Str) ∧ isRule s (n + 1) (.tup [.str x, a, b]) = [a, b].all (isRule s n) := by
  have e : kindsOf x = some (["rule", "rule"] : List Str) := by
    simp only [List.mem_cons, List.not_mem_nil, or_false] at h
    rcases h with rfl | rfl | rfl | rfl <;> rfl
  refine ⟨e, ?_⟩
  rw [isRule_at s n e]
  show (true && _) = _
  rw [Bool.true_and]
  rfl
end
def keyT : T → List Key
  | .int i => [.inl i]
  | .str x => [.inr x]
  | _ => []
def headK : List T → List Key
  | t :: _ => keyT t
  | [] => []
def behs (f : T → List Key) : List T → List Str → List Key
  | t :: ts, k :: ks => (if k = "rule" then f t else []) ++ behs f ts ks
  | _, _ => []
def kindsD (x : Str) : List Str := match kindsOf x with | some ks => ks | none => []
def beh (wd : Str) : Nat → T → List Key
  | 0, _ => []
  | n + 1, .tup (.str x :: ts) => (if x = wd then headK ts else []) ++ behs (beh wd n) ts (kindsD x)
  | _ + 1, _ => []
theorem beh_at (wd : Str) (n : Nat) (x : Str) (ts : List T) : beh wd (n + 1) (.tup (.str x :: ts)) = (if x = wd then headK ts else []) ++ behs (beh wd n) ts (kindsD x) := rfl
def B : Nat → Nat
  | 0 => 0
  | n + 1 => 1 + 3 * B n
theorem B_mono : ∀ {m n : Nat}, m ≤ n → B m ≤ B n
  | 0, n, _ => Nat.zero_le _
  | m + 1, 0, h => by omega
  | m + 1, n + 1, h => by
    have := B_mono (m := m) (n := n) (by omega)
    show 1 + 3 * B m ≤ 1 + 3 * B n
    omega
theorem headK_len (ts : List T) : (headK ts).length ≤ 1 := by
  cases ts with
  | nil => exact Nat.zero_le _
  | cons t _ => cases t <;> simp [headK, keyT]
theorem behs_len {f : T → List Key} {M : Nat} (h : ∀ t, (f t).length ≤ M) : ∀ (ts : List T) (ks : List Str), (behs f ts ks).length ≤ ks.length * M
  | [], ks => by show 0 ≤ _; exact Nat.zero_le _
  | _ :: _, [] => by show 0 ≤ _; exact Nat.zero_le _
  | t :: ts, k :: ks => by
    have ih := behs_len h ts ks
    have h1 : (if k = "rule" then f t else []).length ≤ M := by
      split
      · exact h t
      · exact Nat.zero_le _
    show ((if k = "rule" then f t else []) ++ behs f ts ks).length ≤ (ks.length + 1) * M
    rw [List.length_append, Nat.add_mul, Nat.one_mul]
    omega
theorem kindsD_len (x : Str) : (kindsD x).length ≤ 3 := by
  unfold kindsD
  cases e : kindsOf x with
  | none => exact Nat.zero_le _
  | some ks => exact (kinds_len e).2
theorem beh_len (wd : Str) : ∀ (n : Nat) (t : T), (beh wd n t).length ≤ B n
  | 0, _ => Nat.le_refl _
  | n + 1, t => by
    match t with
    | .tup (.str x :: ts) =>
      rw [beh_at, List.length_append]
      have h1 : (if x = wd then headK ts else []).length ≤ 1 := by
        split
        · exact headK_len ts
        · exact Nat.zero_le _
      have h2 := behs_len (beh_len wd n) ts (kindsD x)
      have h3 : (kindsD x).length * B n ≤ 3 * B n := Nat.mul_le_mul_right _ (kindsD_len x)
      show _ ≤ 1 + 3 * B n
      omega
    | .non => exact Nat.zero_le _
    | .bl _ => exact Nat.zero_le _
    | .int _ => exact Nat.zero_le _
    | .str _ => exact Nat.zero_le _
    | .lst => exact Nat.zero_le _
    | .tup [] => exact Nat.zero_le _
    | .tup (.non :: _) => exact Nat.zero_le _
    | .tup (.bl _ :: _) => exact Nat.zero_le _
    | .tup (.int _ :: _) => exact Nat.zero_le _
    | .tup (.tup _ :: _) => exact Nat.zero_le _
    | .tup (.lst :: _) => exact Nat.zero_le _
def five : List Str := ["line", "earlier", "paper", "table", "choose"]
def kd (wd : Str) : Key → Prop
  | .inl _ => wd ≠ "paper"
  | .inr x => wd = "paper" ∧ PySem.PyData.strOk x = true
theorem isWord_ok {x : Str} (h : isWord (.str x) = true) : PySem.PyData.strOk x = true := by
  rw [isWord_str, Bool.and_eq_true] at h
  have h2 := List.all_eq_true.mp h.2
  have big : ∀ c ∈ letters.cps.toList, c < 0x110000 := by decide +kernel
  unfold PySem.PyData.strOk
  rw [← Array.all_toList, List.all_eq_true]
  intro c hc
  exact decide_eq_true (big c (of_decide_eq_true (h2 c hc)))
theorem place_int {t : T} {n : Int} (h : isPlace t n = true) : ∃ i, t = .int i := by
  cases t with
  | int i => exact ⟨i, rfl⟩
  | _ => cases h
theorem word_str {t : T} (h : isWord t = true) : ∃ x, t = .str x := by
  cases t with
  | str x => exact ⟨x, rfl⟩
  | _ => cases h
theorem head_key {sz : Sz} {n : Nat} {x : Str} {ts : List T} {ks : List Str} (hx : x ∈ five) (e : kindsOf x = some ks) (hl : ts.length = ks.length) (hz : zipOk (partOk (isRule sz n) sz) ts ks = true) : ∃ t r k, ts = t :: r ∧ keyT t = [k] ∧ kd x k := by
  have e' : kindsD x = ks := by unfold kindsD; rw [e]
  simp only [five, List.mem_cons, List.not_mem_nil, or_false] at hx
  cases ts with
  | nil =>
    have := (kinds_len e).1
    rw [List.length_nil] at hl
    omega
  | cons t r =>
    rcases hx with rfl | rfl | rfl | rfl | rfl
    · cases e
      have h : (isPlace t sz.l && _) = true := hz
      obtain ⟨i, rfl⟩ := place_int (Bool.and_eq_true_iff.mp h).1
      exact ⟨_, _, _, rfl, rfl, (fun z => by cases z)⟩
    · cases e
      have h : (isPlace t sz.l && _) = true := hz
      obtain ⟨i, rfl⟩ := place_int (Bool.and_eq_true_iff.mp h).1
      exact ⟨_, _, _, rfl, rfl, (fun z => by cases z)⟩
    · cases e
      have h : (isWord t && _) = true := hz
      obtain ⟨i, rfl⟩ := word_str (Bool.and_eq_true_iff.mp h).1
      exact ⟨_, _, _, rfl, rfl, rfl, isWord_ok (Bool.and_eq_true_iff.mp h).1⟩
    · cases e
      have h : (isPlace t sz.tb && _) = true := hz
      obtain ⟨i, rfl⟩ := place_int (Bool.and_eq_true_iff.mp h).1
      exact ⟨_, _, _, rfl, rfl, (fun z => by cases z)⟩
    · cases e
      have h : (isPlace t sz.ch && _) = true := hz
      obtain ⟨i, rfl⟩ := place_int (Bool.and_eq_true_iff.mp h).1
      exact ⟨_, _, _, rfl, rfl, (fun z => by cases z)⟩
theorem rule_of {sz : Sz} {n : Nat} {t : T} (h : isRule sz (n + 1) t = true) : ∃ x ts ks, t = .tup (.str x :: ts) ∧ kindsOf x = some ks ∧ ts.length = ks.length ∧ zipOk (partOk (isRule sz n) sz) ts ks = true := by
  have hf : hasForm t = true := by
    cases e : hasForm t with
    | true => rfl
    | false => rw [isRule_noform sz n e] at h; cases h
  obtain ⟨x, ts, ks, rfl, e, hl⟩ := form_of hf
  rw [isRule_form sz n e hl] at h
  exact ⟨x, ts, ks, rfl, e, hl, h⟩
theorem zipOk_at {f : Str → T → Bool} : ∀ {ts : List T} {ks : List Str} {i : Nat} {t : T} {k : Str}, zipOk f ts ks = true → ts[i]? = some t → ks[i]? = some k → f k t = true
  | [], _, i, _, _, _, h, _ => by simp at h
  | _ :: _, [], i, _, _, _, _, h => by simp at h
  | _ :: _, _ :: _, 0, _, _, hz, h, h2 => by cases (Option.some.inj h); cases (Option.some.inj h2); exact (Bool.and_eq_true_iff.mp hz).1
  | _ :: ts, _ :: ks, i + 1, t, k, hz, h, h2 => zipOk_at (i := i) (Bool.and_eq_true_iff.mp hz).2 h h2
theorem behs_kd {sz : Sz} {n : Nat} {wd : Str} {f : T → List Key} (ih : ∀ t, isRule sz n t = true → ∀ k ∈ f t, kd wd k) : ∀ (ts : List T) (ks : List Str), zipOk (partOk (isRule sz n) sz) ts ks = true → ∀ k ∈ behs f ts ks, kd wd k
  | [], _, _, _, h => by cases h
  | _ :: _, [], _, _, h => by cases h
  | t :: ts, k :: ks, hz, j, h => by
    have hz' : (partOk (isRule sz n) sz k t && zipOk (partOk (isRule sz n) sz) ts ks) = true := hz
    rw [Bool.and_eq_true] at hz'
    have h' : j ∈ (if k = "rule" then f t else []) ++ behs f ts ks := h
    rcases List.mem_append.mp h' with h2 | h2
    · by_cases e : k = "rule"
      · rw [if_pos e] at h2
        subst e
        exact ih t hz'.1 j h2
      · rw [if_neg e] at h2
        cases h2
    · exact behs_kd ih ts ks hz'.2 j h2
theorem beh_kd {sz : Sz} {wd : Str} (hw : wd ∈ five) : ∀ (n : Nat) (t : T), isRule sz n t = true → ∀ k ∈ beh wd n t, kd wd k
  | 0, _, _, _, h => by cases h
  | n + 1, t, ht, k, h => by
    obtain ⟨x, ts, ks, rfl, e, hl, hz⟩ := rule_of ht
    rw [beh_at] at h
    rcases List.mem_append.mp h with h2 | h2
    · by_cases e2 : x = wd
      · rw [if_pos e2] at h2
        subst e2
        obtain ⟨t, r, j, rfl, ej, hj⟩ := head_key hw e hl hz
        have h3 : k ∈ keyT t := h2
        rw [ej, List.mem_singleton] at h3
        subst h3
        exact hj
      · rw [if_neg e2] at h2
        cases h2
    · rw [show kindsD x = ks by unfold kindsD; rw [e]] at h2
      exact behs_kd (beh_kd hw n) ts ks hz k h2
theorem hom_kd {wd : Str} : ∀ {ks : List Key}, (∀ k ∈ ks, kd wd k) → hom ks := by
  intro ks h
  by_cases e : wd = "paper"
  · refine .inr ?_
    induction ks with
    | nil => exact ⟨[], rfl⟩
    | cons k ks ih =>
      obtain ⟨xs, rfl⟩ := ih fun k hk => h k (List.mem_cons_of_mem _ hk)
      cases k with
      | inl i => exact absurd e (h _ List.mem_cons_self)
      | inr x => exact ⟨x :: xs, rfl⟩
  · refine .inl ?_
    induction ks with
    | nil => exact ⟨[], rfl⟩
    | cons k ks ih =>
      obtain ⟨xs, rfl⟩ := ih fun k hk => h k (List.mem_cons_of_mem _ hk)
      cases k with
      | inl i => exact ⟨i :: xs, rfl⟩
      | inr x => exact absurd (h _ List.mem_cons_self).1 e
theorem ok_kd {wd : Str} {ks : List Key} (h : ∀ k ∈ ks, kd wd k) : ∀ k ∈ ks, okK k = true := by
  intro k hk
  have := h k hk
  cases k with
  | inl i => rfl
  | inr x => exact this.2
theorem behs_drop (f : T → List Key) : ∀ (ts : List T) (ks : List Str) (i : Nat) (t : T) (k : Str), ts[i]? = some t → ks[i]? = some k → behs f (ts.drop i) (ks.drop i) = (if k = "rule" then f t else []) ++ behs f (ts.drop (i + 1)) (ks.drop (i + 1))
  | [], _, i, _, _, h, _ => by simp at h
  | _ :: _, [], i, _, _, _, h => by simp at h
  | _ :: _, _ :: _, 0, _, _, h, h2 => by cases (Option.some.inj h); cases (Option.some.inj h2); rfl
  | _ :: ts, _ :: ks, i + 1, t, k, h, h2 => behs_drop f ts ks i t k h h2
theorem behs_end (f : T → List Key) (ts : List T) (ks : List Str) (i : Nat) (h : ts.length ≤ i) : behs f (ts.drop i) (ks.drop i) = [] := by
  rw [List.drop_eq_nil_of_le h]
  cases ks.drop i <;> rfl
theorem keyT_tv {v : V} {t : T} {k : Key} (h : Tv K H v t) (e : keyT t = [k]) : v = kV k := by
  cases h with
  | int i => cases e; rfl
  | str x _ => cases e; rfl
  | _ => cases e
def keysOf (ks : List Key) (ls : List Key) : Prop := srt ls ∧ ls.Nodup ∧ ∀ k, k ∈ ls ↔ k ∈ ks
theorem keysOf_uniq {ks ls ms : List Key} (a : keysOf ks ls) (b : keysOf ks ms) : ls = ms := by
  refine srt_uniq ((List.perm_ext_iff_of_nodup a.2.1 b.2.1).mpr fun k => (a.2.2 k).trans (b.2.2 k).symm) a.1 b.1
theorem addK_nodup {ks : List Key} (k : Key) (h : ks.Nodup) : (Qs.addK ks k).Nodup := by
  unfold Qs.addK
  split
  · exact h
  · next e => exact List.nodup_cons.mpr ⟨fun z => e (Qs.any_mem.mpr z), h⟩
theorem foldl_nodup : ∀ (xs ks : List Key), ks.Nodup → (xs.foldl Qs.addK ks).Nodup
  | [], _, h => h
  | x :: xs, ks, h => foldl_nodup xs (Qs.addK ks x) (addK_nodup x h)
theorem part_tup {sz : Sz} {n : Nat} {k : Str} {t : T} (hk : k ∈ kinds) (h : partOk (isRule sz n) sz k t = true) : isTup t = decide (k = "rule") := by
  have tup : isRule sz n t = true → isTup t = true := by
    intro z
    cases n with
    | zero => cases z
    | succ n =>
      obtain ⟨x, ts, ks, rfl, _⟩ := rule_of z
      rfl
  have int : ∀ {c : Int}, isPlace t c = true → isTup t = false := by
    intro c z
    obtain ⟨i, rfl⟩ := place_int z
    rfl
  simp only [kinds, List.mem_cons, List.not_mem_nil, or_false] at hk
  rcases hk with rfl | rfl | rfl | rfl | rfl | rfl | rfl
  · have h' : isNum t = true := h
    cases t with
    | tup _ => cases h'
    | _ => rfl
  · have h' : isWord t = true := h
    obtain ⟨x, rfl⟩ := word_str h'
    rfl
  · exact int (c := sz.l) h
  · exact tup h
  · have h' : isPct t = true := h
    cases t with
    | tup _ => cases h'
    | _ => rfl
  · exact int (c := sz.tb) h
  · exact int (c := sz.ch) h
theorem rd_addLb {a b : Addr} {xs ys : List V} (ha : H a = some (.lst xs)) (hb : H b = some (.lst ys)) (hl : xs.length + ys.length ≤ 4000) (q : ∀ p H', H p = none → Ex H H' → H' p = some (.lst (xs ++ ys)) → Q (.ref p) H') : rAddA K (.ref a) (.ref b) H Q :=
  .inr (.inr ⟨a, b, xs, ys, rfl, rfl, ha, hb, by rw [sizeLine_eq]; omega, fun p hp => q p _ hp (Evl.Ex.new hp) upd_same⟩)
theorem inV_str (x : Str) : ∀ (ws : List Str), inV (.str x) (ws.map V.str) = decide (x ∈ ws)
  | [] => rfl
  | y :: ws => by
    have ih := inV_str x ws
    unfold inV at ih ⊢
    rw [List.map_cons, List.any_cons, ih]
    show ((y == x) || decide (x ∈ ws)) = _
    by_cases h : y = x
    · subst h
      simp
    · rw [beq_eq_false_iff_ne.mpr h, Bool.false_or, decide_eq_decide, List.mem_cons]
      exact ⟨.inr, fun z => z.resolve_left (Ne.symm h)⟩
theorem flat_strs (ws : List Str) : (ws.map V.str).all flatV = true := by
  rw [List.all_eq_true]
  intro v hv
  obtain ⟨z, _, rfl⟩ := List.mem_map.mp hv
  rfl
theorem rd_inSs {x : Str} {a : Addr} (ws : List Str) (h : SqL K H a (ws.map V.str)) (q : Q (.bl (decide (x ∈ ws))) H) : rIn K false (.str x) (.ref a) H Q := by
  refine rd_inL h rfl (flat_strs ws) ?_
  rw [inV_str]
  exact q
theorem rd_outSs {x : Str} {a : Addr} (ws : List Str) (h : SqL K H a (ws.map V.str)) (q : Q (.bl (!decide (x ∈ ws))) H) : rIn K true (.str x) (.ref a) H Q := by
  refine rd_outL h rfl (flat_strs ws) ?_
  rw [inV_str]
  exact q
theorem rd_ixSm {z : Str} {i : Int} (h : z.length ≤ 1000) (h0 : 0 ≤ i) (h1 : i < z.length) (q : ∀ y : Str, y.length = 1 → Q (.str y) H) : rIx K (.str z) (.int i) H Q := by
  have hk : i.toNat < z.cps.toList.length := by
    show i.toNat < z.length
    omega
  have e : ((i.toNat : Nat) : Int) = i := by omega
  have e1 : atI z.cps.toList i = some z.cps.toList[i.toNat] := by
    have := atI_nat (List.getElem?_eq_getElem hk)
    rw [e] at this
    exact this
  exact rd_ixS h e1 (q _ rfl)
theorem rd_slSm {z : Str} {lo hi : Option Int} (h : z.length ≤ 1000) (q : ∀ y : Str, y.length ≤ z.length → Q (.str y) H) : rSlX K (.str z) lo hi H Q := rd_slS h (q _ (cutS_length z lo hi))
theorem rd_addSm {x y : Str} (h : x.length + y.length ≤ 1000) (q : ∀ z : Str, z.length = x.length + y.length → Q (.str z) H) : rAddA K (.str x) (.str y) H Q := rd_addS h (q _ (by show (x.cps ++ y.cps).size = _; rw [Array.size_append]; rfl))
theorem cutV_map {α : Type} (f : α → V) (xs : List α) (lo hi : Option Int) : ∃ k m, cutV (xs.map f) lo hi = ((xs.drop k).take m).map f := ⟨_, _, by unfold cutV; rw [List.map_take, List.map_drop]⟩
theorem rgV_ints (n : Int) : ∃ ns : List Int, rgV 0 n = ns.map V.int ∧ ns.length = n.toNat :=
  ⟨(List.range (n - 0).toNat).map fun i => 0 + ((i : Nat) : Int), by unfold rgV; rw [List.map_map]; rfl, by rw [List.length_map, List.length_range]; omega⟩
theorem rd_lstRg {σ : L2.St} {te : L2.St → Hp → (Int → Int → Hp → Prop) → Prop} (q : te σ H fun a b H1 => RgOk a b ∧ ∀ q, H1 q = none → Q (.ref q) (upd H1 q (.lst (rgV a b)))) : tLstRg te σ H Q := q
theorem rd_rg1 {σ : L2.St} {ta : TE} {R : Int → Int → Hp → Prop} (q : ta σ H fun x H1 => ∃ n, x = .int n ∧ R 0 n H1) : tRg1 ta σ H R := q
theorem rd_rg1I {n : Int} {R : Int → Prop} (q : R n) : ∃ m, V.int n = .int m ∧ R m := ⟨n, rfl, q⟩
theorem rd_disp {σ : L2.St} {trs : List (TE × TE)} (q : ∀ p, H p = none → tPairs trs σ (upd H p (.dK [])) fun ps H2 => H2 p = some (.dK []) ∧ ∃ kvs : List (Key × V), ps = kvs.map (fun kv => (kV kv.1, kv.2)) ∧ kvs.length ≤ 15 ∧ Q (.ref p) (upd H2 p (.dK (mergeK [] kvs)))) : tDisp trs σ H Q := q
theorem rd_pcons {σ : L2.St} {tk tv : TE} {r : List (TE × TE)} {R : List (V × V) → Hp → Prop} (q : tk σ H fun x H1 => tv σ H1 fun y H2 => tPairs r σ H2 fun ps H3 => R ((x, y) :: ps) H3) : tPairs ((tk, tv) :: r) σ H R := q
theorem rd_pnil {σ : L2.St} {R : List (V × V) → Hp → Prop} (q : R [] H) : tPairs [] σ H R := q
theorem zipOk_mono {f g : Str → T → Bool} (h : ∀ k t, f k t = true → g k t = true) : ∀ {ts : List T} {ks : List Str}, zipOk f ts ks = true → zipOk g ts ks = true
  | [], _, _ => rfl
  | _ :: _, [], _ => rfl
  | t :: ts, k :: ks, hz => by
    have hz : (f k t && zipOk f ts ks) = true := hz
    rw [Bool.and_eq_true] at hz
    show (g k t && zipOk g ts ks) = true
    rw [h k t hz.1, zipOk_mono h hz.2]
    rfl
theorem partOk_mono {s : Sz} {f g : T → Bool} (h : ∀ t, f t = true → g t = true) (k : Str) (t : T) (hp : partOk f s k t = true) : partOk g s k t = true := by
  unfold partOk at hp ⊢
  split
  · rename_i e
    rw [if_pos e] at hp
    exact h t hp
  · rename_i e
    rw [if_neg e] at hp
    exact hp
theorem isRule_succ {s : Sz} : ∀ {n : Nat} {t : T}, isRule s n t = true → isRule s (n + 1) t = true
  | 0, _, h => by cases h
  | n + 1, t, h => by
    obtain ⟨x, ts, ks, rfl, e, hl, hz⟩ := rule_of h
    rw [isRule_form s (n + 1) e hl]
    exact zipOk_mono (partOk_mono fun t => isRule_succ) hz
theorem isRule_mono {s : Sz} {n m : Nat} {t : T} (h : isRule s n t = true) (hm : n ≤ m) : isRule s m t = true := by
  induction hm with
  | refl => exact h
  | step _ ih => exact isRule_succ ih
/-- lines that are named are lines that there are -/
theorem head_line {sz : Sz} {n : Nat} {ts : List T} {ks : List Str} (e : kindsOf "line" = some ks) (hl : ts.length = ks.length) (hz : zipOk (partOk (isRule sz n) sz) ts ks = true) : ∃ t r i, ts = t :: r ∧ keyT t = [.inl i] ∧ 0 ≤ i ∧ i < sz.l := by
  cases e
  cases ts with
  | nil => cases hl
  | cons t r =>
    have h : (isPlace t sz.l && _) = true := hz
    have h1 := (Bool.and_eq_true_iff.mp h).1
    obtain ⟨i, rfl⟩ := place_int h1
    have h2 : (decide (0 ≤ i) && decide (i ≤ sz.l - 1)) = true := h1
    rw [Bool.and_eq_true, decide_eq_true_iff, decide_eq_true_iff] at h2
    exact ⟨_, _, i, rfl, rfl, h2.1, by omega⟩
theorem behs_all {sz : Sz} {n : Nat} {f : T → List Key} {P : Key → Prop} (ih : ∀ t, isRule sz n t = true → ∀ k ∈ f t, P k) : ∀ (ts : List T) (ks : List Str), zipOk (partOk (isRule sz n) sz) ts ks = true → ∀ k ∈ behs f ts ks, P k
  | [], _, _, _, h => by cases h
  | _ :: _, [], _, _, h => by cases h
  | t :: ts, k :: ks, hz, j, h => by
    have hz' : (partOk (isRule sz n) sz k t && zipOk (partOk (isRule sz n) sz) ts ks) = true := hz
    rw [Bool.and_eq_true] at hz'
    have h' : j ∈ (if k = "rule" then f t else []) ++ behs f ts ks := h
    rcases List.mem_append.mp h' with h2 | h2
    · by_cases e : k = "rule"
      · rw [if_pos e] at h2
        subst e
        exact ih t hz'.1 j h2
      · rw [if_neg e] at h2
        cases h2
    · exact behs_all ih ts ks hz'.2 j h2
theorem beh_place {sz : Sz} : ∀ (n : Nat) (t : T), isRule sz n t = true → ∀ k ∈ beh "line" n t, ∃ i : Int, k = .inl i ∧ 0 ≤ i ∧ i < sz.l
  | 0, _, _, _, h => by cases h
  | n + 1, t, ht, k, h => by
    obtain ⟨x, ts, ks, rfl, e, hl, hz⟩ := rule_of ht
    rw [beh_at] at h
    rcases List.mem_append.mp h with h2 | h2
    · by_cases e2 : x = "line"
      · rw [if_pos e2] at h2
        subst e2
        obtain ⟨t, r, i, rfl, ej, hj⟩ := head_line e hl hz
        have h3 : k ∈ keyT t := h2
        rw [ej, List.mem_singleton] at h3
        exact ⟨i, h3, hj⟩
      · rw [if_neg e2] at h2
        cases h2
    · rw [show kindsD x = ks by unfold kindsD; rw [e]] at h2
      exact behs_all (P := fun k => ∃ i : Int, k = .inl i ∧ 0 ≤ i ∧ i < sz.l) (beh_place n) ts ks hz k h2
end
end Qr
namespace Qa
open PySem PySem.Spec PyProof.Rows L2
/-! a comprehension in a comprehension -/
theorem blkOk_in {N : List Str} {sc scope : Scope} {own : List (Str × Nat)} {env : Env} (h : blkC N sc scope own = true) : BlkOk N (relabel sc env) scope own := by
  have b := blkOk_by h
  refine ⟨b.kind, b.uniq, b.ix, fun y hy e => ?_, b.own⟩
  have key : ∀ (l : List (Str × NameKind)) (x : Str), l.lookup x = some .cell ∨ l.lookup x = some .free →
      (l.map fun (n, k) => if (k == NameKind.free && env.scope.kind == .function && env.kindOf n == some .cell) then (n, NameKind.cell) else (n, k)).lookup x = some .cell ∨
      (l.map fun (n, k) => if (k == NameKind.free && env.scope.kind == .function && env.kindOf n == some .cell) then (n, NameKind.cell) else (n, k)).lookup x = some .free := by
    intro l x
    induction l with
    | nil => intro h; rcases h with h | h <;> cases h
    | cons p l ih =>
      obtain ⟨n, k⟩ := p
      intro h
      rw [List.map_cons]
      by_cases hx : x == n
      · rw [List.lookup_cons, hx] at h
        have hk : k = .cell ∨ k = .free := h.imp (fun z => Option.some.inj z) (fun z => Option.some.inj z)
        dsimp only
        split
        · rw [List.lookup_cons, hx]; exact .inl rfl
        · rw [List.lookup_cons, hx]; exact hk.imp (fun z => by rw [z]) (fun z => by rw [z])
      · have hx' : (x == n) = false := by simpa using hx
        rw [List.lookup_cons, hx'] at h
        have := ih h
        dsimp only
        split
        · rw [List.lookup_cons, hx']; exact this
        · rw [List.lookup_cons, hx']; exact this
  exact key _ _ (b.free y hy e)
section
variable {K : PySem.W.Frag} {σ : L2.St} {H : Hp} {Q : VK} {ta tb tc te td ty tx tv : TE} {tt : TT} {D : Ends} {b : TS}
theorem eqK {X : Cx} {k : Nat} (hK : X.K = K) (hr : Room k X.A) : OpR X (compareOp .Eq) (rEqA K) := by subst hK; exact op_eqA hr
theorem neK {X : Cx} {k : Nat} (hK : X.K = K) (hr : Room k X.A) : OpR X (compareOp .NotEq) (rNeA K) := by subst hK; exact op_neA hr
theorem pi_seqK {X : Cx} {tg e : Expr} {te : TE} (hK : X.K = K) (he : PE X e te) : PI X tg e (iSeq K te) := by subst hK; exact pi_seq he
theorem rd_ifB {s1 s2 : TS} (b : Bool) (ht : ∀ R : Bool → Hp → Prop, R b H → tt σ H R) (q : if b = true then s1 D σ H else s2 D σ H) : tIfS tt s1 s2 D σ H := ht _ q
theorem rd_dnew (q : ∀ p H', H p = none → Ex H H' → H' p = some (.dK []) → Q (.ref p) H') : tDNewK σ H Q := fun p hp => q p _ hp (Evl.Ex.new hp) upd_same
theorem rd_while {tb : TS} (Pv : Nat → L2.St → Hp → Prop) {m0 : Nat} (h0 : Pv m0 σ H) (hs : ∀ m σ H, Pv m σ H → tt σ H fun b H1 => if b = true then ∃ N : L2.St → Hp → Prop, (∀ σ' H', N σ' H' → ∃ m', m' < m ∧ Pv m' σ' H') ∧ tb { D with nx := N, ct := N, bk := D.nx } σ H1 else D.nx σ H1) : tWhile tt tb D σ H := ⟨Pv, ⟨m0, h0⟩, hs⟩
theorem rd_wN {tb : TS} {σ : L2.St} {m : Nat} {Pv : Nat → L2.St → Hp → Prop} (q : tb { D with nx := fun σ' H' => ∃ m', m' < m ∧ Pv m' σ' H', ct := fun σ' H' => ∃ m', m' < m ∧ Pv m' σ' H', bk := D.nx } σ H) : ∃ N : L2.St → Hp → Prop, (∀ σ' H', N σ' H' → ∃ m', m' < m ∧ Pv m' σ' H') ∧ tb { D with nx := N, ct := N, bk := D.nx } σ H := ⟨_, fun _ _ h => h, q⟩
theorem rd_din (q : ty σ H fun y H1 => td σ H1 fun x H2 => ∃ a o, x = .ref a ∧ DGet H2 a y o ∧ Q (.bl o.isSome) H2) : tDIn ty td σ H Q := q
theorem rd_dnotin (q : ty σ H fun y H1 => td σ H1 fun x H2 => ∃ a o, x = .ref a ∧ DGet H2 a y o ∧ Q (.bl (!o.isSome)) H2) : tDNotIn ty td σ H Q := q
theorem rd_dinI {d : Addr} {kvs : List (Key × V)} {n : Int} {R : Option V → Prop} (h : H d = some (.dK kvs)) (q : R (valV kvs (.inl n))) : ∃ a o, V.ref d = .ref a ∧ DGet H a (.int n) o ∧ R o := ⟨d, _, rfl, DGet.k (k := .inl n) h, q⟩
theorem rd_dinS {d : Addr} {kvs : List (Key × V)} {n : Str} {R : Option V → Prop} (h : H d = some (.dK kvs)) (q : R (valV kvs (.inr n))) : ∃ a o, V.ref d = .ref a ∧ DGet H a (.str n) o ∧ R o := ⟨d, _, rfl, DGet.k (k := .inr n) h, q⟩
theorem rd_dput (q : tv σ H fun v H1 => td σ H1 fun x H2 => ty σ H2 fun y H3 => ∃ a H4, x = .ref a ∧ DPut H3 a y v H4 ∧ D.nx σ H4) : sDPut td ty tv D σ H := q
theorem rd_dputI {d : Addr} {kvs : List (Key × V)} {n : Int} {v : V} {R : Hp → Prop} (h : H d = some (.dK kvs)) (hl : kvs.length < 4000) (q : R (upd H d (.dK (putK kvs (.inl n) v)))) : ∃ a H4, V.ref d = .ref a ∧ DPut H a (.int n) v H4 ∧ R H4 := ⟨d, _, rfl, DPut.k (k := .inl n) h (by rw [sizeLine_eq]; omega), q⟩
theorem rd_dputS {d : Addr} {kvs : List (Key × V)} {n : Str} {v : V} {R : Hp → Prop} (h : H d = some (.dK kvs)) (hl : kvs.length < 4000) (q : R (upd H d (.dK (putK kvs (.inr n) v)))) : ∃ a H4, V.ref d = .ref a ∧ DPut H a (.str n) v H4 ∧ R H4 := ⟨d, _, rfl, DPut.k (k := .inr n) h (by rw [sizeLine_eq]; omega), q⟩
theorem rd_dget2 (q : td σ H fun x H1 => ∃ a, x = .ref a ∧ IsD H1 a ∧ ty σ H1 fun y H2 => tx σ H2 fun z H3 => ∃ o, DGet H3 a y o ∧ Q (o.getD z) H3) : tDGet2 td ty tx σ H Q := q
theorem rd_dget2D {d : Addr} {kvs : List (Key × V)} {R : Addr → Prop} (h : H d = some (.dK kvs)) (q : R d) : ∃ a, V.ref d = .ref a ∧ IsD H a ∧ R a := ⟨d, rfl, .inl ⟨kvs, .inl h⟩, q⟩
theorem rd_dgetOI {d : Addr} {kvs : List (Key × V)} {n : Int} {R : Option V → Prop} (h : H d = some (.dK kvs)) (q : R (valV kvs (.inl n))) : ∃ o, DGet H d (.int n) o ∧ R o := ⟨_, DGet.k (k := .inl n) h, q⟩
theorem rd_dgetOS {d : Addr} {kvs : List (Key × V)} {n : Str} {R : Option V → Prop} (h : H d = some (.dK kvs)) (q : R (valV kvs (.inr n))) : ∃ o, DGet H d (.str n) o ∧ R o := ⟨_, DGet.k (k := .inr n) h, q⟩
theorem rd_pop0 {l : Addr} {y : V} {ys : List V} (h : H l = some (.lst (y :: ys))) (q : Q y (upd H l (.lst ys))) : rPopAt (.ref l) [.int 0] H Q := ⟨l, y :: ys, 0, 0, y, rfl, rfl, h, by decide, by decide, by unfold seqIndex?; simp, rfl, q⟩
theorem rd_popN {l : Addr} {xs : List V} {i : Int} {n : Nat} {y : V} (h : H l = some (.lst xs)) (hi : i = (n : Nat)) (hn : n < 2000) (e : xs[n]? = some y) (q : Q y (upd H l (.lst (xs.eraseIdx n)))) : rPopAt (.ref l) [.int i] H Q := by
  have hl : n < xs.length := (List.getElem?_eq_some_iff.mp e).1
  subst hi
  refine ⟨l, xs, _, n, y, rfl, rfl, h, by omega, by omega, ?_, e, q⟩
  unfold seqIndex?
  simp
  omega
theorem rd_any {a : Addr} {bs : List Bool} (h : SqL K H a (bs.map V.bl)) (q : Q (.bl (bs.any id)) H) : rAny K [.ref a] H Q := ⟨a, bs, rfl, h, q⟩
theorem rd_all {a : Addr} {bs : List Bool} (h : SqL K H a (bs.map V.bl)) (q : Q (.bl (bs.all id)) H) : rAll K [.ref a] H Q := ⟨a, bs, rfl, h, q⟩
theorem rd_minL {a : Addr} {ns : List Int} (h : SqL K H a (ns.map V.int)) (hn : 0 < ns.length) (q : ∀ m, m ∈ ns → (∀ y, y ∈ ns → m ≤ y) → Q (.int m) H) : rMin K [.ref a] H Q := ⟨a, ns, rfl, h, hn, q⟩
theorem rd_forR3 {ta : TA} {g : TG} {tb : TS} (q : ta σ H fun vs H1 => ∃ (i j c : Int) (n : Nat), vs = [.int i, .int j, .int c] ∧ RgC i j c n ∧ ForW (Itc i c n) g tb D σ H1) : tFor (iRng3 ta) g tb D σ H := q
theorem rd_fr3d {i j : Int} {R : Int → Int → Nat → Prop} (h : -1000 ≤ i ∧ i ≤ 1000 ∧ -1000 ≤ j ∧ j ≤ 1000) (q : R i (-1) (i - j).toNat) : ∃ (a b c : Int) (n : Nat), [V.int i, V.int j, V.int (-1)] = [.int a, .int b, .int c] ∧ RgC a b c n ∧ R a c n := ⟨i, j, -1, _, rfl, RgC.neg (by omega) (by omega) (by omega) (by omega), q⟩
theorem forW_C {lo c : Int} {n : Nat} {g : TG} {tb : TS} (Pv : Nat → L2.St → Hp → Prop) (h0 : Pv 0 σ H)
    (hs : ∀ i σ H, i < n → Pv i σ H → g (.int (lo + (i : Nat) * c)) σ H fun σ2 H2 => tb { D with nx := Pv (i + 1), ct := Pv (i + 1), bk := D.nx } σ2 H2) (hd : ∀ σ H, Pv n σ H → D.nx σ H) : ForW (Itc lo c n) g tb D σ H := for_rangeC Pv h0 hs hd
end
def rIsNn : R2 := fun x y H Q => y = .non ∧ Q (.bl (decide (x = .non))) H
def rNotNn : R2 := fun x y H Q => y = .non ∧ Q (.bl (!decide (x = .non))) H
theorem op_isNn {X : Cx} : OpR X (compareOp .Is) rIsNn := op_isN
theorem op_notNn {X : Cx} : OpR X (compareOp .IsNot) rNotNn := op_notN
section
variable {K : PySem.W.Frag} {H : Hp} {Q : VK}
theorem rd_isN0 {v : V} {b : Bool} (e : decide (v = .non) = b) (q : Q (.bl b) H) : rIsNn v .non H Q := ⟨rfl, by rw [e]; exact q⟩
theorem rd_notN0 {v : V} {b : Bool} (e : decide (v = .non) = b) (q : Q (.bl (!b)) H) : rNotNn v .non H Q := ⟨rfl, by rw [e]; exact q⟩
end
end Qa
/-! rings: the first that is found is the least; no program here -/
namespace Qg
def row (nm : List (List Nat)) (x : Nat) : List Nat := (nm[x]?).getD []
inductive Walk (nm : List (List Nat)) (f : Nat) : List Nat → Nat → Prop
  | one : Walk nm f [f] f
  | snoc {w : List Nat} {x y : Nat} : Walk nm f w x → y ∈ row nm x → Walk nm f (w ++ [y]) y
def Ring (nm : List (List Nat)) (f : Nat) (w : List Nat) : Prop := ∃ x, Walk nm f w x ∧ f ∈ row nm x
def lexLt : List Nat → List Nat → Prop
  | [], _ => False
  | _ :: _, [] => False
  | a :: as, b :: bs => a < b ∨ (a = b ∧ lexLt as bs)
def sl (p q : List Nat) : Prop := p.length < q.length ∨ (p.length = q.length ∧ lexLt p q)
def sle (p q : List Nat) : Prop := p = q ∨ sl p q
theorem lex_snoc : ∀ {p q : List Nat} (x y : Nat), p.length = q.length → lexLt p q → lexLt (p ++ [x]) (q ++ [y])
  | [], _, _, _, _, h => h.elim
  | _ :: _, [], _, _, e, _ => by cases e
  | a :: p, b :: q, x, y, e, h => by
    rcases h with h | ⟨h, h'⟩
    · exact .inl h
    · exact .inr ⟨h, lex_snoc x y (Nat.succ.inj e) h'⟩
theorem lex_last {x y : Nat} (h : x < y) : ∀ (p : List Nat), lexLt (p ++ [x]) (p ++ [y])
  | [] => .inl h
  | _ :: p => .inr ⟨rfl, lex_last h p⟩
theorem lex_trans : ∀ {p q r : List Nat}, lexLt p q → lexLt q r → lexLt p r
  | [], _, _, h, _ => h.elim
  | _ :: _, [], _, h, _ => h.elim
  | _ :: _, _ :: _, [], _, h => h.elim
  | a :: p, b :: q, c :: r, h, h' => by
    rcases h with h | ⟨h, h2⟩
    · rcases h' with h' | ⟨h', h3⟩
      · exact .inl (Nat.lt_trans h h')
      · exact .inl (h' ▸ h)
    · rcases h' with h' | ⟨h', h3⟩
      · exact .inl (h ▸ h')
      · exact .inr ⟨h.trans h', lex_trans h2 h3⟩
theorem lex_irr : ∀ {p : List Nat}, ¬ lexLt p p
  | [], h => h
  | _ :: _, h => by
    rcases h with h | ⟨_, h⟩
    · exact Nat.lt_irrefl _ h
    · exact lex_irr h
theorem sl_trans {p q r : List Nat} (h : sl p q) (h' : sl q r) : sl p r := by
  rcases h with h | ⟨h, h2⟩
  · rcases h' with h' | ⟨h', h3⟩
    · exact .inl (by omega)
    · exact .inl (by omega)
  · rcases h' with h' | ⟨h', h3⟩
    · exact .inl (by omega)
    · exact .inr ⟨h.trans h', lex_trans h2 h3⟩
theorem sl_irr {p : List Nat} : ¬ sl p p := by
  rintro (h | ⟨_, h⟩)
  · omega
  · exact lex_irr h
theorem sle_sl {p q r : List Nat} (h : sle p q) (h' : sl q r) : sl p r := by
  rcases h with rfl | h
  · exact h'
  · exact sl_trans h h'
theorem sle_trans {p q r : List Nat} (h : sle p q) (h' : sle q r) : sle p r := by
  rcases h' with rfl | h'
  · exact h
  · exact .inr (sle_sl h h')
theorem sle_anti {p q : List Nat} (h : sle p q) (h' : sle q p) : p = q := by
  rcases h with h | h
  · exact h
  · rcases h' with h' | h'
    · exact h'.symm
    · exact (sl_irr (sl_trans h h')).elim
theorem sle_len {p q : List Nat} (h : sle p q) : p.length ≤ q.length := by
  rcases h with rfl | h | h
  · exact Nat.le_refl _
  · omega
  · omega
theorem sl_grow {p q : List Nat} (y : Nat) (h : sle p q) : sl p (q ++ [y]) := by
  have := sle_len h
  exact .inl (by rw [List.length_append]; show _ < _ + 1; omega)
theorem sl_snoc {p q : List Nat} (x y : Nat) (h : sl p q) : sl (p ++ [x]) (q ++ [y]) := by
  rcases h with h | ⟨h, h2⟩
  · exact .inl (by rw [List.length_append, List.length_append]; show _ + 1 < _ + 1; omega)
  · exact .inr ⟨by rw [List.length_append, List.length_append, h]; rfl, lex_snoc x y h h2⟩
theorem sl_last {x y : Nat} (p : List Nat) (h : x < y) : sl (p ++ [x]) (p ++ [y]) := .inr ⟨by rw [List.length_append, List.length_append]; rfl, lex_last h p⟩
theorem walk_last {nm : List (List Nat)} {f x : Nat} {w : List Nat} (h : Walk nm f w x) : w.getLast? = some x := by
  cases h with
  | one => rfl
  | snoc _ _ => simp
theorem walk_uniq {nm : List (List Nat)} {f x y : Nat} {w : List Nat} (h : Walk nm f w x) (h' : Walk nm f w y) : x = y := by
  have e := walk_last h
  rw [walk_last h'] at e
  exact (Option.some.inj e).symm
theorem walk_pos {nm : List (List Nat)} {f x : Nat} {w : List Nat} (h : Walk nm f w x) : 0 < w.length := by
  cases h with
  | one => exact Nat.one_pos
  | snoc _ _ => simp
/-- walks of a snoc -/
theorem walk_snoc {nm : List (List Nat)} {f x y : Nat} {w : List Nat} (h : Walk nm f (w ++ [y]) x) : x = y := by
  have e := walk_last h
  simp at e
  exact e.symm
/-! ### the search -/
structure BI (nm : List (List Nat)) (f : Nat) (D Q : List (List Nat)) (R : List Nat) : Prop where
  wk : ∀ p, p ∈ D ++ Q → ∃ x, x ∈ R ∧ Walk nm f p x
  st : (D ++ Q).Pairwise sl
  up : ∀ q, q ∈ Q → (D = [] ∧ q = [f]) ∨ ∃ d, d ∈ D ∧ ∃ x, q = d ++ [x]
  cl : ∀ d, d ∈ D → ∀ x, Walk nm f d x → ∀ y, y ∈ row nm x → y ≠ f ∧ ∃ q, q ∈ D ++ Q ∧ Walk nm f q y ∧ sle q (d ++ [y])
  rt : [f] ∈ D ++ Q
  rc : ∀ y, y ∈ R → ∃ q, q ∈ D ++ Q ∧ Walk nm f q y
  nd : R.Nodup
  ln : (D ++ Q).length = R.length
  dl : ∀ d, d ∈ D → d.length ≤ D.length
  ql : ∀ q, q ∈ Q → q.length ≤ D.length + 1
section
variable {nm : List (List Nat)} {f : Nat} {D Q : List (List Nat)} {R : List Nat}
theorem BI.start : BI nm f [] [[f]] [f] where
  wk := fun p h => by
    have e : p = [f] := by simpa using h
    subst e
    exact ⟨f, by simp, .one⟩
  st := by simp
  up := fun q h => .inl ⟨rfl, by simpa using h⟩
  cl := fun d h => by cases h
  rt := by simp
  rc := fun y h => by
    have e : y = f := by simpa using h
    subst e
    exact ⟨[y], by simp, .one⟩
  nd := by simp
  ln := rfl
  dl := fun d h => by cases h
  ql := fun q h => by
    have e : q = [f] := by simpa using h
    subst e
    exact Nat.le_refl _
theorem BI.min (I : BI nm f D Q R) {w : List Nat} {x : Nat} (h : Walk nm f w x) : (∃ q, q ∈ D ++ Q ∧ Walk nm f q x ∧ sle q w) ∨ ∃ q, q ∈ Q ∧ sl q w := by
  induction h with
  | one => exact .inl ⟨[f], I.rt, .one, .inl rfl⟩
  | @snoc w x y h hy ih =>
    rcases ih with ⟨q, hq, hw, hs⟩ | ⟨q, hq, hs⟩
    · rcases List.mem_append.mp hq with hd | hd
      · obtain ⟨_, q2, h2, hw2, hs2⟩ := I.cl q hd x hw y hy
        refine .inl ⟨q2, h2, hw2, sle_trans hs2 ?_⟩
        rcases hs with rfl | hs
        · exact .inl rfl
        · exact .inr (sl_snoc _ _ hs)
      · exact .inr ⟨q, hd, sl_grow y hs⟩
    · exact .inr ⟨q, hq, sl_grow y (.inr hs)⟩
theorem BI.none (I : BI nm f D [] R) (w : List Nat) : ¬ Ring nm f w := by
  rintro ⟨x, h, hf⟩
  rcases I.min h with ⟨q, hq, hw, _⟩ | ⟨q, hq, _⟩
  · rw [List.append_nil] at hq
    exact (I.cl q hq x hw f hf).1 rfl
  · cases hq
theorem BI.found {p : List Nat} {x : Nat} (I : BI nm f D (p :: Q) R) (hp : Walk nm f p x) (hf : f ∈ row nm x) : Ring nm f p ∧ ∀ w, Ring nm f w → sle p w := by
  refine ⟨⟨x, hp, hf⟩, ?_⟩
  rintro w ⟨y, h, hy⟩
  have le : ∀ q, q ∈ p :: Q → sle p q := by
    intro q hq
    have st : (p :: Q).Pairwise sl := (List.pairwise_append.mp I.st).2.1
    rcases List.mem_cons.mp hq with rfl | hq
    · exact .inl rfl
    · exact .inr ((List.pairwise_cons.mp st).1 q hq)
  rcases I.min h with ⟨q, hq, hw, hs⟩ | ⟨q, hq, hs⟩
  · rcases List.mem_append.mp hq with hd | hd
    · exact ((I.cl q hd y hw f hy).1 rfl).elim
    · exact sle_trans (le q hd) hs
  · exact .inr (sle_sl (le q hq) hs)
/-- one path's turn -/
structure BS (nm : List (List Nat)) (f : Nat) (D : List (List Nat)) (p : List Nat) (Q0 A : List (List Nat)) (R : List Nat) (seen : List Nat) : Prop where
  wk : ∀ q, q ∈ D ++ [p] ++ (Q0 ++ A) → ∃ x, x ∈ R ∧ Walk nm f q x
  st : (D ++ [p] ++ (Q0 ++ A)).Pairwise sl
  up : ∀ q, q ∈ Q0 → ∃ d, d ∈ D ∧ ∃ x, q = d ++ [x]
  na : ∀ q, q ∈ A → ∃ y, y ∈ seen ∧ q = p ++ [y]
  cl : ∀ d, d ∈ D → ∀ x, Walk nm f d x → ∀ y, y ∈ row nm x → y ≠ f ∧ ∃ q, q ∈ D ++ [p] ++ (Q0 ++ A) ∧ Walk nm f q y ∧ sle q (d ++ [y])
  ch : ∀ y, y ∈ seen → y ≠ f ∧ ∃ q, q ∈ D ++ [p] ++ (Q0 ++ A) ∧ Walk nm f q y ∧ sle q (p ++ [y])
  rt : [f] ∈ D ++ [p] ++ (Q0 ++ A)
  rc : ∀ y, y ∈ R → ∃ q, q ∈ D ++ [p] ++ (Q0 ++ A) ∧ Walk nm f q y
  nd : R.Nodup
  ln : (D ++ [p] ++ (Q0 ++ A)).length = R.length
  dl : ∀ d, d ∈ D → d.length ≤ D.length
  ql : ∀ q, q ∈ Q0 → q.length ≤ D.length + 1
  pl : p.length ≤ D.length + 1
theorem BI.open {p : List Nat} (I : BI nm f D (p :: Q) R) : BS nm f D p Q [] R [] where
  wk := by simpa using I.wk
  st := by simpa using I.st
  up := fun q hq => by
    rcases I.up q (List.mem_cons_of_mem _ hq) with ⟨rfl, rfl⟩ | h
    · have st : (p :: Q).Pairwise sl := I.st
      have h1 := (List.pairwise_cons.mp st).1 _ hq
      rcases I.up p List.mem_cons_self with ⟨_, rfl⟩ | ⟨d, hd, _⟩
      · exact (sl_irr h1).elim
      · cases hd
    · exact h
  na := fun q h => by cases h
  cl := by simpa using I.cl
  ch := fun y h => by cases h
  rt := by simpa using I.rt
  rc := by simpa using I.rc
  nd := I.nd
  ln := by simpa using I.ln
  dl := I.dl
  ql := fun q h => I.ql q (List.mem_cons_of_mem _ h)
  pl := I.ql p List.mem_cons_self
variable {p : List Nat} {A : List (List Nat)} {seen : List Nat}
theorem BS.lt (I : BS nm f D p Q A R seen) {y : Nat} (hs : ∀ z, z ∈ seen → z < y) : ∀ q, q ∈ D ++ [p] ++ (Q ++ A) → sl q (p ++ [y]) := by
  intro q hq
  have st := I.st
  rw [List.append_assoc] at st
  have hd : ∀ d, d ∈ D → sl d p := fun d hd => (List.pairwise_append.mp st).2.2 d hd p (by simp)
  rcases List.mem_append.mp hq with h | h
  · rcases List.mem_append.mp h with h | h
    · exact sl_grow y (.inr (hd q h))
    · have e : q = p := by simpa using h
      subst e
      exact sl_grow y (.inl rfl)
  · rcases List.mem_append.mp h with h | h
    · obtain ⟨d, h1, x, rfl⟩ := I.up q h
      exact sl_snoc _ _ (hd d h1)
    · obtain ⟨z, hz, rfl⟩ := I.na q h
      exact sl_last p (hs z hz)
theorem BS.old (I : BS nm f D p Q A R seen) {y : Nat} (hs : ∀ z, z ∈ seen → z < y) (hf : y ≠ f) (hy : y ∈ R) : BS nm f D p Q A R (seen ++ [y]) := by
  refine { I with na := fun q h => ?_, ch := fun z hz => ?_ }
  · obtain ⟨z, hz, e⟩ := I.na q h
    exact ⟨z, List.mem_append.mpr (.inl hz), e⟩
  · rcases List.mem_append.mp hz with hz | hz
    · exact I.ch z hz
    · have e : z = y := by simpa using hz
      subst e
      obtain ⟨q, hq, hw⟩ := I.rc z hy
      exact ⟨hf, q, hq, hw, .inr (I.lt hs q hq)⟩
theorem BS.new (I : BS nm f D p Q A R seen) {x y : Nat} (hp : Walk nm f p x) (hr : y ∈ row nm x) (hs : ∀ z, z ∈ seen → z < y) (hf : y ≠ f) (hy : y ∉ R) : BS nm f D p Q (A ++ [p ++ [y]]) (R ++ [y]) (seen ++ [y]) := by
  have wn : Walk nm f (p ++ [y]) y := .snoc hp hr
  have ea : D ++ [p] ++ (Q ++ (A ++ [p ++ [y]])) = (D ++ [p] ++ (Q ++ A)) ++ [p ++ [y]] := by simp
  refine ⟨fun q hq => ?_, ?_, I.up, fun q h => ?_, fun d hd z hz u hu => ?_, fun z hz => ?_, ?_, fun z hz => ?_, ?_, ?_, I.dl, I.ql, I.pl⟩
  · rw [ea] at hq
    rcases List.mem_append.mp hq with h | h
    · obtain ⟨z, hz, hw⟩ := I.wk q h
      exact ⟨z, List.mem_append.mpr (.inl hz), hw⟩
    · have e : q = p ++ [y] := by simpa using h
      subst e
      exact ⟨y, by simp, wn⟩
  · rw [ea, List.pairwise_append]
    refine ⟨I.st, by simp, fun q hq r hr => ?_⟩
    have e : r = p ++ [y] := by simpa using hr
    subst e
    exact I.lt hs q hq
  · rcases List.mem_append.mp h with h | h
    · obtain ⟨z, hz, e⟩ := I.na q h
      exact ⟨z, List.mem_append.mpr (.inl hz), e⟩
    · exact ⟨y, by simp, by simpa using h⟩
  · obtain ⟨h1, q, hq, h2⟩ := I.cl d hd z hz u hu
    exact ⟨h1, q, by rw [ea]; exact List.mem_append.mpr (.inl hq), h2⟩
  · rcases List.mem_append.mp hz with hz | hz
    · obtain ⟨h1, q, hq, h2⟩ := I.ch z hz
      exact ⟨h1, q, by rw [ea]; exact List.mem_append.mpr (.inl hq), h2⟩
    · have e : z = y := by simpa using hz
      subst e
      exact ⟨hf, p ++ [z], by simp, wn, .inl rfl⟩
  · rw [ea]; exact List.mem_append.mpr (.inl I.rt)
  · rcases List.mem_append.mp hz with hz | hz
    · obtain ⟨q, hq, h2⟩ := I.rc z hz
      exact ⟨q, by rw [ea]; exact List.mem_append.mpr (.inl hq), h2⟩
    · have e : z = y := by simpa using hz
      subst e
      exact ⟨p ++ [z], by simp, wn⟩
  · rw [List.nodup_append]
    refine ⟨I.nd, by simp, fun a ha b hb => ?_⟩
    have e : b = y := by simpa using hb
    subst e
    rintro rfl
    exact hy ha
  · rw [ea, List.length_append, I.ln, List.length_append]
    rfl
theorem BS.close (I : BS nm f D p Q A R seen) {x : Nat} (hp : Walk nm f p x) (hs : ∀ y, y ∈ row nm x → y ∈ seen) : BI nm f (D ++ [p]) (Q ++ A) R := by
  refine ⟨I.wk, I.st, fun q hq => ?_, fun d hd z hz y hy => ?_, I.rt, I.rc, I.nd, I.ln, fun d hd => ?_, fun q hq => ?_⟩
  · rcases List.mem_append.mp hq with h | h
    · obtain ⟨d, h1, h2⟩ := I.up q h
      exact .inr ⟨d, List.mem_append.mpr (.inl h1), h2⟩
    · obtain ⟨y, _, e⟩ := I.na q h
      exact .inr ⟨p, by simp, y, e⟩
  · rcases List.mem_append.mp hd with h | h
    · exact I.cl d h z hz y hy
    · have e : d = p := by simpa using h
      subst e
      have e2 := walk_uniq hz hp
      subst e2
      exact I.ch y (hs y hy)
  · rw [List.length_append]
    rcases List.mem_append.mp hd with h | h
    · have := I.dl d h
      show _ ≤ _ + 1
      omega
    · have e : d = p := by simpa using h
      subst e
      exact I.pl
  · rw [List.length_append]
    show _ ≤ _ + 1 + 1
    rcases List.mem_append.mp hq with h | h
    · have := I.ql q h
      omega
    · obtain ⟨y, _, rfl⟩ := I.na q h
      have := I.pl
      rw [List.length_append]
      show _ + 1 ≤ _
      omega
end
theorem nodup_lt : ∀ {n : Nat} {l : List Nat}, l.Nodup → (∀ x, x ∈ l → x < n) → l.length ≤ n
  | 0, l, _, h => by
    cases l with
    | nil => exact Nat.le_refl _
    | cons a l => exact (Nat.not_lt_zero _ (h a List.mem_cons_self)).elim
  | n + 1, l, hd, h => by
    have h1 : (l.erase n).length ≤ n := nodup_lt (hd.erase n) fun x hx => by
      have := (List.Nodup.mem_erase_iff hd).mp hx
      have := h x this.2
      omega
    have h2 : l.length ≤ (l.erase n).length + 1 := by
      rw [List.length_erase]
      split <;> omega
    omega
/-- the least ring of a line, [] where none is -/
def Least (nm : List (List Nat)) (f : Nat) (r : List Nat) : Prop := Ring nm f r ∧ ∀ w, Ring nm f w → sle r w
def IsBst (nm : List (List Nat)) (f : Nat) (r : List Nat) : Prop := (r = [] ∧ ∀ w, ¬ Ring nm f w) ∨ Least nm f r
theorem ring_ne {nm : List (List Nat)} {f : Nat} {r : List Nat} (h : Ring nm f r) : r ≠ [] := by
  obtain ⟨x, h, _⟩ := h
  have := walk_pos h
  rintro rfl
  exact Nat.lt_irrefl _ this
theorem bst_uniq {nm : List (List Nat)} {f : Nat} {r s : List Nat} (a : IsBst nm f r) (b : IsBst nm f s) : r = s := by
  rcases a with ⟨rfl, a⟩ | ⟨a, a'⟩
  · rcases b with ⟨rfl, _⟩ | ⟨b, _⟩
    · rfl
    · exact (a _ b).elim
  · rcases b with ⟨rfl, b⟩ | ⟨b, b'⟩
    · exact (b _ a).elim
    · exact sle_anti (a' s b) (b' r a)
/-- the best so far and one more -/
def better (acc r : List Nat) : List Nat := if r ≠ [] ∧ (acc = [] ∨ r.length < acc.length) then r else acc
inductive Best (nm : List (List Nat)) : Nat → List Nat → Prop
  | zero : Best nm 0 []
  | succ {i : Nat} {acc r : List Nat} : Best nm i acc → IsBst nm i r → Best nm (i + 1) (better acc r)
theorem best_uniq {nm : List (List Nat)} : ∀ {i : Nat} {a b : List Nat}, Best nm i a → Best nm i b → a = b
  | 0, _, _, .zero, .zero => rfl
  | _ + 1, _, _, .succ h r, .succ h' r' => by rw [best_uniq h h', bst_uniq r r']
theorem best_ring {nm : List (List Nat)} : ∀ {i : Nat} {a : List Nat}, Best nm i a → a = [] ∨ ∃ f, Ring nm f a
  | 0, _, .zero => .inl rfl
  | i + 1, _, .succ (acc := acc) (r := r) h r' => by
    unfold better
    split
    · rename_i hh
      rcases r' with ⟨rfl, _⟩ | ⟨r', _⟩
      · exact (hh.1 rfl).elim
      · exact .inr ⟨_, r'⟩
    · exact best_ring h
/-! ### the law's own: ways back -/
def Way (nm : List (List Nat)) (f : Nat) : Nat → Nat → Prop
  | 0, k => k = f
  | j + 1, k => ∃ x, x ∈ row nm k ∧ Way nm f j x
def Dist (nm : List (List Nat)) (f k j : Nat) : Prop := 1 ≤ j ∧ Way nm f j k ∧ ∀ i, 1 ≤ i → i < j → ¬ Way nm f i k
section
variable {nm : List (List Nat)} {f : Nat}
theorem dist_uniq {k i j : Nat} (a : Dist nm f k i) (b : Dist nm f k j) : i = j := by
  rcases Nat.lt_trichotomy i j with h | h | h
  · exact (b.2.2 i a.1 h a.2.1).elim
  · exact h
  · exact (a.2.2 j b.1 h b.2.1).elim
theorem way_dist {k : Nat} : ∀ {i : Nat}, 1 ≤ i → Way nm f i k → ∃ j, j ≤ i ∧ Dist nm f k j := by
  intro i
  induction i using Nat.strongRecOn with
  | _ i ih =>
    intro h1 h
    by_cases e : ∃ j, 1 ≤ j ∧ j < i ∧ Way nm f j k
    · obtain ⟨j, a, b, c⟩ := e
      obtain ⟨m, hm, d⟩ := ih j b a c
      exact ⟨m, by omega, d⟩
    · exact ⟨i, Nat.le_refl _, h1, h, fun j a b c => e ⟨j, a, b, c⟩⟩
/-- the line next on a shortest way -/
theorem dist_next {k j : Nat} (h : Dist nm f k (j + 1)) {x : Nat} (hx : x ∈ row nm k) (hw : Way nm f j x) (h1 : 1 ≤ j) : Dist nm f x j :=
  ⟨h1, hw, fun i a b c => h.2.2 (i + 1) (by omega) (by omega) ⟨x, hx, c⟩⟩
theorem dist_row {k j : Nat} (h : Dist nm f k (j + 1)) (h1 : 1 ≤ j) : ∃ x, x ∈ row nm k ∧ Dist nm f x j := by
  obtain ⟨x, hx, hw⟩ := h.2.1
  exact ⟨x, hx, dist_next h hx hw h1⟩
theorem row_lt {k x : Nat} (h : x ∈ row nm k) : k < nm.length := by
  by_cases e : k < nm.length
  · exact e
  · unfold row at h
    rw [List.getElem?_eq_none (by omega)] at h
    cases h
theorem dist_list : ∀ {j k : Nat}, Dist nm f k j → ∃ l : List Nat, l.length = j ∧ l.Nodup ∧ ∀ x, x ∈ l → x < nm.length ∧ ∃ i, i ≤ j ∧ Dist nm f x i
  | 0, k, h => by have := h.1; omega
  | 1, k, h => by
    obtain ⟨x, hx, _⟩ := h.2.1
    refine ⟨[k], rfl, by simp, fun y hy => ?_⟩
    have e : y = k := by simpa using hy
    subst e
    exact ⟨row_lt hx, 1, Nat.le_refl _, h⟩
  | j + 2, k, h => by
    obtain ⟨x, hx, hd⟩ := dist_row h (by omega)
    obtain ⟨l, hl, hn, hm⟩ := dist_list hd
    refine ⟨k :: l, by rw [List.length_cons, hl], List.nodup_cons.mpr ⟨fun z => ?_, hn⟩, fun y hy => ?_⟩
    · obtain ⟨_, i, hi, d⟩ := hm k z
      have := dist_uniq d h
      omega
    · rcases List.mem_cons.mp hy with rfl | hy
      · exact ⟨row_lt hx, j + 2, Nat.le_refl _, h⟩
      · obtain ⟨a, i, hi, d⟩ := hm y hy
        exact ⟨a, i, by omega, d⟩
theorem dist_le {j k : Nat} (h : Dist nm f k j) : j ≤ nm.length := by
  obtain ⟨l, hl, hn, hm⟩ := dist_list h
  rw [← hl]
  exact nodup_lt hn fun x hx => (hm x hx).1
theorem walk_way {w : List Nat} {x : Nat} (h : Walk nm f w x) : ∀ {j : Nat}, Way nm f j x → Way nm f (w.length - 1 + j) f := by
  induction h with
  | one => intro j hj; simpa using hj
  | @snoc w x y h hy ih =>
    intro j hj
    have := ih (j := j + 1) ⟨y, hy, hj⟩
    have hp := walk_pos h
    rw [List.length_append]
    show Way nm f (w.length + 1 - 1 + j) f
    rw [show w.length + 1 - 1 + j = w.length - 1 + (j + 1) by omega]
    exact this
theorem ring_way {w : List Nat} (h : Ring nm f w) : Way nm f w.length f := by
  obtain ⟨x, h, hf⟩ := h
  have := walk_way h (j := 1) ⟨f, hf, rfl⟩
  have hp := walk_pos h
  rw [show w.length - 1 + 1 = w.length by omega] at this
  exact this
/-- the ways from a walk's places -/
theorem walk_take {w : List Nat} {x : Nat} (h : Walk nm f w x) : ∀ {m : Nat}, 1 ≤ m → m ≤ w.length → ∃ y, Walk nm f (w.take m) y ∧ ∀ {j : Nat}, Way nm f j x → Way nm f (w.length - m + j) y := by
  induction h with
  | one =>
    intro m h1 h2
    have e : m = 1 := by simp at h2; omega
    subst e
    exact ⟨f, .one, fun hj => by simpa using hj⟩
  | @snoc w x y h hy ih =>
    intro m h1 h2
    rw [List.length_append] at h2
    have h2 : m ≤ w.length + 1 := h2
    by_cases e : m = w.length + 1
    · subst e
      refine ⟨y, ?_, fun hj => ?_⟩
      · rw [show w.length + 1 = (w ++ [y]).length by rw [List.length_append]; rfl, List.take_length]
        exact .snoc h hy
      · rw [List.length_append]
        show Way nm f (w.length + 1 - (w.length + 1) + _) y
        rw [Nat.sub_self, Nat.zero_add]
        exact hj
    · obtain ⟨z, hz, hz2⟩ := ih h1 (by omega)
      refine ⟨z, ?_, fun {j} hj => ?_⟩
      · rw [List.take_append_of_le_length (by omega)]
        exact hz
      · have := hz2 (j := j + 1) ⟨y, hy, hj⟩
        rw [List.length_append]
        show Way nm f (w.length + 1 - m + j) z
        rw [show w.length + 1 - m + j = w.length - m + (j + 1) by omega]
        exact this
/-- the law's choice of the next line: the greedy list, so far -/
structure Greedy (nm : List (List Nat)) (f L t : Nat) (g : List Nat) : Prop where
  ln : g.length = t + 1
  tl : t < L
  wk : ∃ x, Walk nm f g x ∧ Dist nm f x (L - t)
  le : ∀ w, Ring nm f w → w.length = L → g = w.take (t + 1) ∨ lexLt g (w.take (t + 1))
theorem greedy_start {L : Nat} (h : Dist nm f f L) : Greedy nm f L 0 [f] := by
  refine ⟨rfl, h.1, ⟨f, .one, h⟩, fun w ⟨x, hw, _⟩ e => .inl ?_⟩
  have h1 := h.1
  obtain ⟨y, hy, _⟩ := walk_take hw (m := 1) (Nat.le_refl _) (by omega)
  show [f] = w.take 1
  generalize ev : w.take 1 = v at hy ⊢
  have hl : v.length ≤ 1 := by rw [← ev, List.length_take]; omega
  cases hy with
  | one => rfl
  | @snoc w' x y h _ =>
    have := walk_pos h
    rw [List.length_append] at hl
    have : w'.length + 1 ≤ 1 := hl
    omega
theorem take_snoc {w : List Nat} {m : Nat} (h : m < w.length) : w.take (m + 1) = w.take m ++ [w[m]] := by
  rw [List.take_add_one, List.getElem?_eq_getElem h]; rfl
theorem greedy_step {L t : Nat} {g : List Nat} {x y : Nat} (I : Greedy nm f L t g) (hx : Walk nm f g x) (h1 : t + 1 < L) (hy : y ∈ row nm x) (hd : Dist nm f y (L - t - 1)) (hm : ∀ z, z ∈ row nm x → Dist nm f z (L - t - 1) → y ≤ z) : Greedy nm f L (t + 1) (g ++ [y]) := by
  refine ⟨by rw [List.length_append, I.ln]; rfl, h1, ⟨y, .snoc hx hy, hd⟩, fun w hw e => ?_⟩
  have hlt : t + 1 < w.length := by omega
  rw [take_snoc hlt]
  rcases I.le w hw e with h | h
  · obtain ⟨u, hu, huf⟩ := hw
    obtain ⟨z, hz, hzw⟩ := walk_take hu (m := t + 2) (by omega) (by omega)
    rw [take_snoc hlt, ← h] at hz
    have ez := walk_snoc hz
    subst ez
    have hzr : w[t + 1] ∈ row nm x := by
      generalize w[t + 1] = c at hz ⊢
      generalize ea : g ++ [c] = a at hz
      cases hz with
      | one =>
        have := congrArg List.length ea
        rw [List.length_append, I.ln] at this
        have : t + 1 + 1 = 1 := this
        omega
      | @snoc w' x' y' h' hy' =>
        have e1 := List.append_inj' ea rfl
        have e2 := e1.1
        subst e2
        rw [walk_uniq hx h']
        exact hy'
    have hzw1 := hzw (j := 1) ⟨f, huf, rfl⟩
    obtain ⟨x', hx', hdx⟩ := I.wk
    have ex := walk_uniq hx' hx
    subst ex
    have hdz : Dist nm f w[t + 1] (L - t - 1) := by
      rw [show L - t = (L - t - 1) + 1 by omega] at hdx
      refine dist_next hdx hzr ?_ (by omega)
      rw [show L - t - 1 = w.length - (t + 2) + 1 by omega]
      exact hzw1
    have hle := hm _ hzr hdz
    by_cases eq : y = w[t + 1]
    · exact .inl (by rw [← h, eq])
    · exact .inr (by rw [← h]; exact lex_last (by omega) g)
  · exact .inr (lex_snoc _ _ (by rw [I.ln, List.length_take]; omega) h)
theorem greedy_end {L : Nat} {g : List Nat} (hL : Dist nm f f L) (I : Greedy nm f L (L - 1) g) : Least nm f g := by
  have h1 := hL.1
  have hl : g.length = L := by rw [I.ln]; omega
  obtain ⟨x, hx, hd⟩ := I.wk
  rw [show L - (L - 1) = 1 by omega] at hd
  obtain ⟨y, hy, hy0⟩ := hd.2.1
  have hf : f ∈ row nm x := by rw [← (show y = f from hy0)]; exact hy
  refine ⟨⟨x, hx, hf⟩, fun w hw => ?_⟩
  have hwl : L ≤ w.length := by
    obtain ⟨u, hu, _⟩ := id hw
    have hp := walk_pos hu
    by_cases e : w.length < L
    · exact (hL.2.2 _ hp e (ring_way hw)).elim
    · omega
  by_cases e : w.length = L
  · rcases I.le w hw e with h | h
    · rw [show L - 1 + 1 = w.length by omega, List.take_length] at h
      exact .inl h
    · rw [show L - 1 + 1 = w.length by omega, List.take_length] at h
      exact .inr (.inr ⟨by omega, h⟩)
  · exact .inr (.inl (by omega))
theorem no_ring (h : ∀ j, ¬ Dist nm f f j) (w : List Nat) : ¬ Ring nm f w := by
  intro hw
  obtain ⟨u, hu, _⟩ := id hw
  obtain ⟨j, _, d⟩ := way_dist (walk_pos hu) (ring_way hw)
  exact h j d
/-- the law's search back: all lines within so many steps -/
theorem back_step {k long : Nat} (hn : ∀ j, j ≤ long → ¬ Dist nm f k j) : Dist nm f k (long + 1) ↔ ∃ x, x ∈ row nm k ∧ ((long = 0 ∧ x = f) ∨ (1 ≤ long ∧ Dist nm f x long)) := by
  constructor
  · intro h
    obtain ⟨x, hx, hw⟩ := h.2.1
    by_cases e : long = 0
    · subst e
      exact ⟨x, hx, .inl ⟨rfl, hw⟩⟩
    · exact ⟨x, hx, .inr ⟨by omega, dist_next h hx hw (by omega)⟩⟩
  · rintro ⟨x, hx, h⟩
    have hw : Way nm f (long + 1) k := by
      refine ⟨x, hx, ?_⟩
      rcases h with ⟨rfl, rfl⟩ | ⟨_, h⟩
      · rfl
      · exact h.2.1
    refine ⟨by omega, hw, fun i a b c => ?_⟩
    obtain ⟨j, hj, d⟩ := way_dist a c
    exact hn j (by omega) d
end
theorem least_nat {P : Nat → Prop} : ∀ {y : Nat}, P y → ∃ z, P z ∧ ∀ u, P u → z ≤ u := by
  intro y
  induction y using Nat.strongRecOn with
  | _ y ih =>
    intro h
    by_cases e : ∃ u, u < y ∧ P u
    · obtain ⟨u, a, b⟩ := e
      exact ih u a b
    · refine ⟨y, h, fun u hu => ?_⟩
      by_cases e2 : y ≤ u
      · exact e2
      · exact (e ⟨u, by omega, hu⟩).elim
section
variable {nm : List (List Nat)} {f : Nat}
theorem greedy_all {L : Nat} (h : Dist nm f f L) : ∀ t, t < L → ∃ g, Greedy nm f L t g
  | 0, _ => ⟨[f], greedy_start h⟩
  | t + 1, ht => by
    obtain ⟨g, I⟩ := greedy_all h t (by omega)
    obtain ⟨x, hx, hd⟩ := I.wk
    rw [show L - t = (L - t - 1) + 1 by omega] at hd
    obtain ⟨y, hy, hdy⟩ := dist_row hd (by omega)
    obtain ⟨z, ⟨hz, hdz⟩, hm⟩ := least_nat (P := fun y => y ∈ row nm x ∧ Dist nm f y (L - t - 1)) ⟨hy, hdy⟩
    exact ⟨_, greedy_step I hx ht hz hdz fun u a b => hm u ⟨a, b⟩⟩
theorem least_of {L : Nat} (h : Dist nm f f L) : ∃ r, Least nm f r ∧ r.length = L := by
  have := h.1
  obtain ⟨g, I⟩ := greedy_all h (L - 1) (by omega)
  exact ⟨g, greedy_end h I, by rw [I.ln]; omega⟩
theorem walk_next {w : List Nat} {x : Nat} (h : Walk nm f w x) : w[0]? = some f ∧ ∀ i, i + 1 < w.length → ∃ a b, w[i]? = some a ∧ w[i + 1]? = some b ∧ b ∈ row nm a := by
  induction h with
  | one => exact ⟨rfl, fun i hi => absurd hi (by simp)⟩
  | @snoc w x y h hy ih =>
    have hp := walk_pos h
    refine ⟨by rw [List.getElem?_append_left hp]; exact ih.1, fun i hi => ?_⟩
    rw [List.length_append] at hi
    have hi : i + 1 < w.length + 1 := hi
    by_cases e : i + 1 < w.length
    · obtain ⟨a, b, h1, h2, h3⟩ := ih.2 i e
      exact ⟨a, b, by rw [List.getElem?_append_left (by omega)]; exact h1, by rw [List.getElem?_append_left (by omega)]; exact h2, h3⟩
    · have e : i + 1 = w.length := by omega
      refine ⟨x, y, ?_, by rw [List.getElem?_append_right (by omega), e, Nat.sub_self]; rfl, hy⟩
      rw [List.getElem?_append_left (by omega)]
      have := walk_last h
      rw [List.getLast?_eq_getElem?, show w.length - 1 = i by omega] at this
      exact this
theorem ring_next {w : List Nat} (h : Ring nm f w) {i : Nat} (hi : i < w.length) : ∃ a b, w[i]? = some a ∧ w[(i + 1) % w.length]? = some b ∧ b ∈ row nm a := by
  obtain ⟨x, h, hf⟩ := h
  obtain ⟨h0, hn⟩ := walk_next h
  by_cases e : i + 1 < w.length
  · rw [Nat.mod_eq_of_lt e]
    exact hn i e
  · have e : i + 1 = w.length := by omega
    rw [e, Nat.mod_self]
    refine ⟨x, f, ?_, h0, hf⟩
    have := walk_last h
    rw [List.getLast?_eq_getElem?, show w.length - 1 = i by omega] at this
    exact this
end
theorem least_len {nm : List (List Nat)} {f : Nat} {r : List Nat} (h : Least nm f r) : r.length ≤ nm.length := by
  obtain ⟨x, hw, _⟩ := id h.1
  obtain ⟨j, _, d⟩ := way_dist (walk_pos hw) (ring_way h.1)
  obtain ⟨r', h', l'⟩ := least_of d
  rw [bst_uniq (.inr h) (.inr h'), l']
  exact dist_le d
theorem best_len {nm : List (List Nat)} : ∀ {i : Nat} {a : List Nat}, Best nm i a → a.length ≤ nm.length
  | 0, _, .zero => Nat.zero_le _
  | i + 1, _, .succ h r' => by
    unfold better
    split
    · rcases r' with ⟨rfl, _⟩ | r'
      · exact Nat.zero_le _
      · exact least_len r'
    · exact best_len h
end Qg
open PySem PySem.Spec PyProof.Rows L2 Qa Qr
/-! whole numbers in lists; which lines each rule names -/
namespace Qg
abbrev iv (n : Nat) : V := .int (n : Int)
abbrev ik (n : Nat) : Key := .inl (n : Int)
def rowK (n : Nat) (ks : List Key) : List Nat := (List.range n).filter fun i => memK (ik i) ks
def nmOf (ts : List T) : List (List Nat) := ts.map fun t => rowK ts.length (beh "line" 8 t)
theorem iv_key (l : List Nat) : (l.map ik).map kV = l.map iv := by rw [List.map_map]; rfl
theorem iv_int (l : List Nat) : (l.map fun n : Nat => (n : Int)).map V.int = l.map iv := by rw [List.map_map]; rfl
theorem mem_rowK {n : Nat} {ks : List Key} {i : Nat} : i ∈ rowK n ks ↔ i < n ∧ ik i ∈ ks := by
  unfold rowK
  rw [List.mem_filter, List.mem_range, memK_iff]
theorem rowK_sorted (n : Nat) (ks : List Key) : (rowK n ks).Pairwise (· < ·) := List.Pairwise.filter _ List.pairwise_lt_range
def placeK (n : Nat) : Key → Bool
  | .inl i => decide (0 ≤ i) && decide (i < n)
  | .inr _ => false
theorem srt_filter {p : Key → Bool} : ∀ {ls : List Key}, srt ls → srt (ls.filter p) := by
  intro ls h
  rcases h with ⟨ns, rfl, h⟩ | ⟨xs, rfl, h⟩
  · refine .inl ⟨ns.filter (p ∘ Sum.inl), List.filter_map, h.filter _⟩
  · have hs : (xs.map (Sum.inr : Str → Key)).filter p = (xs.filter (p ∘ Sum.inr)).map Sum.inr := List.filter_map
    rw [hs]
    have hp := pw_sorted h
    refine .inr ⟨_, rfl, ?_⟩
    have : ∀ l : List Str, l.Pairwise leS → sortedS l = true := by
      intro l
      cases l with
      | nil => intro _; rfl
      | cons x r =>
        intro h
        show risingS x r = true
        induction r generalizing x with
        | nil => rfl
        | cons y r ih =>
          have h1 := List.pairwise_cons.mp h
          show (!ltCps y.cps.toList x.cps.toList && risingS y r) = true
          rw [show ltCps y.cps.toList x.cps.toList = false from h1.1 y List.mem_cons_self, ih y h1.2]
          rfl
    exact this _ (hp.filter _)
theorem keysOf_filter {p : Key → Bool} {ks ls : List Key} (h : keysOf ks ls) : keysOf (ks.filter p) (ls.filter p) :=
  ⟨srt_filter h.1, h.2.1.filter _, fun k => by rw [List.mem_filter, List.mem_filter, h.2.2]⟩
theorem keysOf_row {n : Nat} {ks : List Key} : keysOf (ks.filter (placeK n)) ((rowK n ks).map ik) := by
  refine ⟨.inl ⟨(rowK n ks).map fun i : Nat => (i : Int), by rw [List.map_map]; rfl, ?_⟩, ?_, fun k => ?_⟩
  · rw [List.pairwise_map]
    exact (rowK_sorted n ks).imp fun h => by omega
  · rw [List.Nodup, List.pairwise_map]
    exact (rowK_sorted n ks).imp fun h e => by
      have := Sum.inl.inj e
      omega
  · rw [List.mem_map, List.mem_filter]
    constructor
    · rintro ⟨i, hi, rfl⟩
      obtain ⟨h1, h2⟩ := mem_rowK.mp hi
      exact ⟨h2, by show (decide ((0 : Int) ≤ (i : Int)) && decide ((i : Int) < n)) = true; simp; omega⟩
    · rintro ⟨h1, h2⟩
      cases k with
      | inr x => cases h2
      | inl i =>
        have h2 : (decide (0 ≤ i) && decide (i < n)) = true := h2
        rw [Bool.and_eq_true, decide_eq_true_iff, decide_eq_true_iff] at h2
        have e : ik i.toNat = .inl i := by show Sum.inl _ = Sum.inl _; rw [Int.toNat_of_nonneg h2.1]
        exact ⟨i.toNat, mem_rowK.mpr ⟨by omega, by rw [e]; exact h1⟩, e⟩
theorem places_row {n : Nat} {ks ls : List Key} (h : keysOf ks ls) : ls.filter (placeK n) = (rowK n ks).map ik := keysOf_uniq (keysOf_filter h) keysOf_row
/-- all in their places -/
theorem places_all {n : Nat} {ks ls : List Key} (h : keysOf ks ls) (hp : ∀ k ∈ ks, placeK n k = true) : ls = (rowK n ks).map ik := by
  rw [← places_row h, List.filter_eq_self.mpr fun k hk => hp k ((h.2.2 k).mp hk)]
structure Rows (nm : List (List Nat)) : Prop where
  lt : ∀ r, r ∈ nm → ∀ x, x ∈ r → x < nm.length
  up : ∀ r, r ∈ nm → r.Pairwise (· < ·)
theorem rows_nmOf (ts : List T) : Rows (nmOf ts) := by
  constructor
  · intro r hr x hx
    obtain ⟨t, _, rfl⟩ := List.mem_map.mp hr
    rw [nmOf, List.length_map]
    exact (mem_rowK.mp hx).1
  · intro r hr
    obtain ⟨t, _, rfl⟩ := List.mem_map.mp hr
    exact rowK_sorted _ _
theorem nmOf_len (ts : List T) : (nmOf ts).length = ts.length := by rw [nmOf, List.length_map]
theorem Rows.at {nm : List (List Nat)} (h : Rows nm) (x : Nat) : (∀ y, y ∈ row nm x → y < nm.length) ∧ (row nm x).Pairwise (· < ·) := by
  unfold row
  cases e : nm[x]? with
  | none => exact ⟨by simp, by simp⟩
  | some r => exact ⟨h.lt r (List.mem_of_getElem? e), h.up r (List.mem_of_getElem? e)⟩
/-- at an address a list of lists of numbers -/
def NmAt (H : Hp) (l : Addr) (nm : List (List Nat)) : Prop := ∃ as : List Addr, H l = some (.lst (as.map V.ref)) ∧ as.length = nm.length ∧ ∀ (i : Nat) (r : List Nat), nm[i]? = some r → ∃ a, as[i]? = some a ∧ H a = some (.lst (r.map iv))
theorem NmAt.ex {H H' : Hp} {l : Addr} {nm : List (List Nat)} (h : NmAt H l nm) (e : Ex H H') : NmAt H' l nm := by
  obtain ⟨as, h1, h2, h3⟩ := h
  refine ⟨as, e _ _ h1, h2, fun i r hr => ?_⟩
  obtain ⟨a, h4, h5⟩ := h3 i r hr
  exact ⟨a, h4, e _ _ h5⟩
/-- the paths that wait -/
inductive Pths (H H' : Hp) (pl : Addr) : List Addr → List (List Nat) → Prop
  | nil : Pths H H' pl [] []
  | cons {a : Addr} {q : List Nat} {as : List Addr} {qs : List (List Nat)} : H a = none → a ≠ pl → H' a = some (.lst (q.map iv)) → Pths H H' pl as qs → Pths H H' pl (a :: as) (q :: qs)
theorem Pths.mv {H H1 H2 : Hp} {pl : Addr} (e : ∀ a xs, a ≠ pl → H1 a = some (.lst xs) → H2 a = some (.lst xs)) : ∀ {as : List Addr} {qs : List (List Nat)}, Pths H H1 pl as qs → Pths H H2 pl as qs
  | _, _, .nil => .nil
  | _, _, .cons h1 h2 h3 h => .cons h1 h2 (e _ _ h2 h3) (h.mv e)
theorem Pths.snoc {H H' : Hp} {pl a : Addr} {q : List Nat} (h1 : H a = none) (h2 : a ≠ pl) (h3 : H' a = some (.lst (q.map iv))) : ∀ {as : List Addr} {qs : List (List Nat)}, Pths H H' pl as qs → Pths H H' pl (as ++ [a]) (qs ++ [q])
  | _, _, .nil => .cons h1 h2 h3 .nil
  | _, _, .cons g1 g2 g3 h => .cons g1 g2 g3 (h.snoc h1 h2 h3)
theorem Pths.len {H H' : Hp} {pl : Addr} : ∀ {as : List Addr} {qs : List (List Nat)}, Pths H H' pl as qs → as.length = qs.length
  | _, _, .nil => rfl
  | _, _, .cons _ _ _ h => congrArg (· + 1) h.len
/-- a dict whose keys are these numbers -/
def KsAt (kvs : List (Key × V)) (R : List Nat) : Prop := kvs.length = R.length ∧ ∀ y : Nat, (valV kvs (ik y)).isSome = decide (y ∈ R)
theorem KsAt.snoc {kvs : List (Key × V)} {R : List Nat} {y : Nat} {v : V} (h : KsAt kvs R) (hy : y ∉ R) : KsAt (putK kvs (ik y) v) (R ++ [y]) := by
  have hn : valV kvs (ik y) = none := by
    have := h.2 y
    rw [decide_eq_false hy] at this
    exact Option.isNone_iff_eq_none.mp (by cases e : valV kvs (ik y) with | none => rfl | some _ => rw [e] at this; cases this)
  have ep : putK kvs (ik y) v = kvs ++ [(ik y, v)] := by
    unfold putK
    rw [valV_any, hn]
    rfl
  rw [ep]
  refine ⟨by rw [List.length_append, List.length_append, h.1]; rfl, fun z => ?_⟩
  rw [valV_snoc _ _ _ _ hn]
  by_cases e : z = y
  · subst e
    rw [if_pos rfl]
    simp
  · rw [if_neg (fun c => e (by have := Sum.inl.inj c; omega)), h.2 z]
    simp [e]
theorem nodup_sub {α : Type} : ∀ {l m : List α}, l.Nodup → (∀ x, x ∈ l → x ∈ m) → l.length ≤ m.length
  | [], _, _, _ => Nat.zero_le _
  | a :: l, m, hd, h => by
    obtain ⟨s, t, rfl⟩ := List.append_of_mem (h a List.mem_cons_self)
    have hd' := List.nodup_cons.mp hd
    have := nodup_sub (m := s ++ t) hd'.2 fun x hx => by
      rcases List.mem_append.mp (h x (List.mem_cons_of_mem _ hx)) with z | z
      · exact List.mem_append.mpr (.inl z)
      · rcases List.mem_cons.mp z with rfl | z
        · exact (hd'.1 hx).elim
        · exact List.mem_append.mpr (.inr z)
    rw [List.length_append] at this ⊢
    show l.length + 1 ≤ s.length + (t.length + 1)
    omega
theorem keysOf_len {ks ls : List Key} (h : keysOf ks ls) : ls.length ≤ ks.length := nodup_sub h.2.1 fun k hk => (h.2.2 k).mp hk
theorem walk_split {nm : List (List Nat)} {f x : Nat} {w : List Nat} (h : Walk nm f w x) : ∃ v, w = v ++ [x] := by
  cases h with
  | one => exact ⟨[], rfl⟩
  | snoc _ _ => exact ⟨_, rfl⟩
theorem free_of {H H' : Hp} {p : Addr} (e : Ex H H') (h : H' p = none) : H p = none := by
  cases q : H p with
  | none => rfl
  | some o => rw [e p o q] at h; cases h
/-! which lines lead back, and in how many steps -/
def WaysAt (nm : List (List Nat)) (f : Nat) (B : Nat → Nat) (kvs : List (Key × V)) : Prop :=
  ∀ k, (∃ j, j ≤ B k ∧ Dist nm f k j ∧ valV kvs (ik k) = some (iv j)) ∨ ((∀ j, j ≤ B k → ¬ Dist nm f k j) ∧ valV kvs (ik k) = none)
def Ways (nm : List (List Nat)) (f : Nat) (kvs : List (Key × V)) : Prop :=
  ∀ k, (∃ j, Dist nm f k j ∧ valV kvs (ik k) = some (iv j)) ∨ ((∀ j, ¬ Dist nm f k j) ∧ valV kvs (ik k) = none)
theorem ways_end {nm : List (List Nat)} {f : Nat} {kvs : List (Key × V)} (h : WaysAt nm f (fun _ => nm.length) kvs) : Ways nm f kvs := by
  intro k
  rcases h k with ⟨j, _, d, e⟩ | ⟨h, e⟩
  · exact .inl ⟨j, d, e⟩
  · exact .inr ⟨fun j d => h j (dist_le d) d, e⟩
theorem ik_ne {a b : Nat} (h : a ≠ b) : ik a ≠ ik b := fun z => h (by have := Sum.inl.inj z; omega)
theorem valV_new {kvs : List (Key × V)} {k : Key} {v : V} (hn : valV kvs k = none) : putK kvs k v = kvs ++ [(k, v)] := by
  unfold putK
  rw [valV_any, hn]
  rfl
theorem dist_lt {nm : List (List Nat)} {f k j : Nat} (d : Dist nm f k j) : k < nm.length := by
  obtain ⟨h1, h2, _⟩ := d
  match j, h1, h2 with
  | j + 1, _, ⟨x, hx, _⟩ => exact row_lt hx
theorem ways_level {nm : List (List Nat)} {f i : Nat} {kvs : List (Key × V)} (h : WaysAt nm f (fun k => if k < nm.length then i + 1 else i) kvs) : WaysAt nm f (fun _ => i + 1) kvs := by
  intro k
  by_cases hk : k < nm.length
  · have := h k
    dsimp only at this ⊢
    rw [if_pos hk] at this
    exact this
  · rcases h k with ⟨j, _, d, e⟩ | ⟨_, e⟩
    · exact (hk (dist_lt d)).elim
    · exact .inr ⟨fun j _ d => hk (dist_lt d), e⟩
/-- one line more: it is in, it comes in, it stays out -/
theorem ways_in {nm : List (List Nat)} {f i k0 : Nat} {kvs : List (Key × V)} {j : Nat} (h : WaysAt nm f (fun k => if k < k0 then i + 1 else i) kvs) (hj : j ≤ i) (d : Dist nm f k0 j) (e : valV kvs (ik k0) = some (iv j)) : WaysAt nm f (fun k => if k < k0 + 1 then i + 1 else i) kvs := by
  intro k
  by_cases ek : k = k0
  · subst ek
    exact .inl ⟨j, by dsimp only; split <;> omega, d, e⟩
  · have := h k
    dsimp only at this ⊢
    rw [show (if k < k0 + 1 then i + 1 else i) = (if k < k0 then i + 1 else i) by split <;> split <;> omega]
    exact this
theorem ways_new {nm : List (List Nat)} {f i k0 : Nat} {kvs : List (Key × V)} (h : WaysAt nm f (fun k => if k < k0 then i + 1 else i) kvs) (d : Dist nm f k0 (i + 1)) (e : valV kvs (ik k0) = none) : WaysAt nm f (fun k => if k < k0 + 1 then i + 1 else i) (putK kvs (ik k0) (iv (i + 1))) := by
  rw [valV_new e]
  intro k
  rw [valV_snoc _ _ _ _ e]
  by_cases ek : k = k0
  · subst ek
    exact .inl ⟨i + 1, by dsimp only; rw [if_pos (Nat.lt_succ_self _)]; exact Nat.le_refl _, d, if_pos rfl⟩
  · rw [if_neg (ik_ne ek)]
    have := h k
    dsimp only at this ⊢
    rw [show (if k < k0 + 1 then i + 1 else i) = (if k < k0 then i + 1 else i) by split <;> split <;> omega]
    exact this
theorem ways_out {nm : List (List Nat)} {f i k0 : Nat} {kvs : List (Key × V)} (h : WaysAt nm f (fun k => if k < k0 then i + 1 else i) kvs) (d : ∀ j, j ≤ i + 1 → ¬ Dist nm f k0 j) (e : valV kvs (ik k0) = none) : WaysAt nm f (fun k => if k < k0 + 1 then i + 1 else i) kvs := by
  intro k
  by_cases ek : k = k0
  · subst ek
    exact .inr ⟨fun j hj => d j (by dsimp only at hj; split at hj <;> omega), e⟩
  · have := h k
    dsimp only at this ⊢
    rw [show (if k < k0 + 1 then i + 1 else i) = (if k < k0 then i + 1 else i) by split <;> split <;> omega]
    exact this
section
variable {K : PySem.W.Frag} {H : Hp} {Q : VK}
theorem memK_ik {x : Nat} {r : List Nat} : memK (ik x) (r.map ik) = decide (x ∈ r) := by
  rw [Bool.eq_iff_iff, memK_iff, decide_eq_true_iff, List.mem_map]
  constructor
  · rintro ⟨y, hy, e⟩
    have := Sum.inl.inj e
    rw [show x = y by omega]
    exact hy
  · exact fun h => ⟨x, h, rfl⟩
theorem inV_iv (x : Nat) (r : List Nat) : inV (iv x) (r.map iv) = decide (x ∈ r) := by
  rw [← iv_key, ← memK_ik]
  exact inV_key (ik x) (r.map ik)
theorem flat_iv (r : List Nat) : (r.map iv).all flatV = true := by
  rw [← iv_key]
  exact flat_keys _
theorem rd_inN {x : Nat} {a : Addr} {r : List Nat} (h : SqL K H a (r.map iv)) (q : Q (.bl (decide (x ∈ r))) H) : rIn K false (iv x) (.ref a) H Q := by
  refine rd_inL h rfl (flat_iv r) ?_
  rw [inV_iv]
  exact q
theorem rd_outN {x : Nat} {a : Addr} {r : List Nat} (h : SqL K H a (r.map iv)) (q : Q (.bl (!decide (x ∈ r))) H) : rIn K true (iv x) (.ref a) H Q := by
  refine rd_outL h rfl (flat_iv r) ?_
  rw [inV_iv]
  exact q
end
end Qg
open PySem PySem.Spec PyProof.Rows L2 Qa Qr
namespace KF
def topS (i : Nat) : Stmt := PySem.Challenge.pw_formlines_k04_rings.main.body.getD i (.Pass ⟨0, 0, 0, 0⟩)
abbrev sis_whole : Stmt := topS 1
abbrev nis_whole : List Str := ["thing"]
abbrev pis_whole : List Str := ["thing"]
theorem scis_whole : FnScope nis_whole pis_whole (defScope sis_whole) := ⟨rfl, rfl, rfl, by decide +kernel, rfl, by decide +kernel, by decide +kernel⟩
theorem bis_whole : BindOk "is_whole" sis_whole pis_whole := fun _ _ _ _ _ _ us hl => match us, hl with | [_], _ => rfl
theorem tis_whole {v0 : V} : start nis_whole [v0] = [some v0] := rfl

abbrev sis_within : Stmt := topS 2
abbrev nis_within : List Str := ["thing", "low", "high"]
abbrev pis_within : List Str := ["thing", "low", "high"]
theorem scis_within : FnScope nis_within pis_within (defScope sis_within) := ⟨rfl, rfl, rfl, by decide +kernel, rfl, by decide +kernel, by decide +kernel⟩
theorem bis_within : BindOk "is_within" sis_within pis_within := fun _ _ _ _ _ _ us hl => match us, hl with | [_, _, _], _ => rfl
theorem tis_within {v0 v1 v2 : V} : start nis_within [v0, v1, v2] = [some v0, some v1, some v2] := rfl

abbrev sis_place : Stmt := topS 3
abbrev nis_place : List Str := ["thing", "count"]
abbrev pis_place : List Str := ["thing", "count"]
theorem scis_place : FnScope nis_place pis_place (defScope sis_place) := ⟨rfl, rfl, rfl, by decide +kernel, rfl, by decide +kernel, by decide +kernel⟩
theorem bis_place : BindOk "is_place" sis_place pis_place := fun _ _ _ _ _ _ us hl => match us, hl with | [_, _], _ => rfl
theorem tis_place {v0 v1 : V} : start nis_place [v0, v1] = [some v0, some v1] := rfl

abbrev snamed : Stmt := topS 6
abbrev nnamed : List Str := ["rule", "word"]
abbrev pnamed : List Str := ["rule", "word"]
theorem scnamed : FnScope nnamed pnamed (defScope snamed) := ⟨rfl, rfl, rfl, by decide +kernel, rfl, by decide +kernel, by decide +kernel⟩
theorem bnamed : BindOk "named" snamed pnamed := fun _ _ _ _ _ _ us hl => match us, hl with | [_, _], _ => rfl
theorem tnamed {v0 v1 : V} : start nnamed [v0, v1] = [some v0, some v1] := rfl

abbrev s_behind : Stmt := topS 7
abbrev n_behind : List Str := ["rule", "word", "found", "part", "kind"]
abbrev p_behind : List Str := ["rule", "word"]
theorem sc_behind : FnScope n_behind p_behind (defScope s_behind) := ⟨rfl, rfl, rfl, by decide +kernel, rfl, by decide +kernel, by decide +kernel⟩
theorem b_behind : BindOk "_behind" s_behind p_behind := fun _ _ _ _ _ _ us hl => match us, hl with | [_, _], _ => rfl
theorem t_behind {v0 v1 : V} : start n_behind [v0, v1] = [some v0, some v1, none, none, none] := rfl

abbrev sring_of : Stmt := topS 9
abbrev nring_of : List Str := ["lines", "names", "shortest", "first", "ring"]
abbrev pring_of : List Str := ["lines"]
theorem scring_of : FnScope nring_of pring_of (defScope sring_of) := ⟨rfl, rfl, rfl, by decide +kernel, rfl, by decide +kernel, by decide +kernel⟩
theorem bring_of : BindOk "ring_of" sring_of pring_of := fun _ _ _ _ _ _ us hl => match us, hl with | [_], _ => rfl
theorem tring_of {v0 : V} : start nring_of [v0] = [some v0, none, none, none, none] := rfl

abbrev s_lines_named : Stmt := topS 10
abbrev n_lines_named : List Str := ["lines", "line", "rule"]
abbrev p_lines_named : List Str := ["lines"]
theorem sc_lines_named : FnScope n_lines_named p_lines_named (defScope s_lines_named) := ⟨rfl, rfl, rfl, by decide +kernel, rfl, by decide +kernel, by decide +kernel⟩
theorem b_lines_named : BindOk "_lines_named" s_lines_named p_lines_named := fun _ _ _ _ _ _ us hl => match us, hl with | [_], _ => rfl
theorem t_lines_named {v0 : V} : start n_lines_named [v0] = [some v0, none, none] := rfl

abbrev s_ring_from : Stmt := topS 11
abbrev n_ring_from : List Str := ["names", "first", "paths", "reached", "path", "line"]
abbrev p_ring_from : List Str := ["names", "first"]
theorem sc_ring_from : FnScope n_ring_from p_ring_from (defScope s_ring_from) := ⟨rfl, rfl, rfl, by decide +kernel, rfl, by decide +kernel, by decide +kernel⟩
theorem b_ring_from : BindOk "_ring_from" s_ring_from p_ring_from := fun _ _ _ _ _ _ us hl => match us, hl with | [_, _], _ => rfl
theorem t_ring_from {v0 v1 : V} : start n_ring_from [v0, v1] = [some v0, some v1, none, none, none, none] := rfl

abbrev s_law_cell_at : Stmt := topS 13
abbrev n_law_cell_at : List Str := ["_law_script", "_law_k"]
abbrev p_law_cell_at : List Str := ["_law_script", "_law_k"]
theorem sc_law_cell_at : FnScope n_law_cell_at p_law_cell_at (defScope s_law_cell_at) := ⟨rfl, rfl, rfl, by decide +kernel, rfl, by decide +kernel, by decide +kernel⟩
theorem b_law_cell_at : BindOk "_law_cell_at" s_law_cell_at p_law_cell_at := fun _ _ _ _ _ _ us hl => match us, hl with | [_, _], _ => rfl
theorem t_law_cell_at {v0 v1 : V} : start n_law_cell_at [v0, v1] = [some v0, some v1] := rfl

abbrev s_law_mixed : Stmt := topS 14
abbrev n_law_mixed : List Str := ["_law_cell", "_law_k"]
abbrev p_law_mixed : List Str := ["_law_cell", "_law_k"]
theorem sc_law_mixed : FnScope n_law_mixed p_law_mixed (defScope s_law_mixed) := ⟨rfl, rfl, rfl, by decide +kernel, rfl, by decide +kernel, by decide +kernel⟩
theorem b_law_mixed : BindOk "_law_mixed" s_law_mixed p_law_mixed := fun _ _ _ _ _ _ us hl => match us, hl with | [_, _], _ => rfl
theorem t_law_mixed {v0 v1 : V} : start n_law_mixed [v0, v1] = [some v0, some v1] := rfl

abbrev s_law_next : Stmt := topS 15
abbrev n_law_next : List Str := ["_law_state", "_law_size"]
abbrev p_law_next : List Str := ["_law_state", "_law_size"]
theorem sc_law_next : FnScope n_law_next p_law_next (defScope s_law_next) := ⟨rfl, rfl, rfl, by decide +kernel, rfl, by decide +kernel, by decide +kernel⟩
theorem b_law_next : BindOk "_law_next" s_law_next p_law_next := fun _ _ _ _ _ _ us hl => match us, hl with | [_, _], _ => rfl
theorem t_law_next {v0 v1 : V} : start n_law_next [v0, v1] = [some v0, some v1] := rfl

abbrev s_law_named : Stmt := topS 16
abbrev n_law_named : List Str := ["_law_rule", "_law_word", "_law_found", "_law_one", "_law_more"]
abbrev p_law_named : List Str := ["_law_rule", "_law_word"]
theorem sc_law_named : FnScope n_law_named p_law_named (defScope s_law_named) := ⟨rfl, rfl, rfl, by decide +kernel, rfl, by decide +kernel, by decide +kernel⟩
theorem b_law_named : BindOk "_law_named" s_law_named p_law_named := fun _ _ _ _ _ _ us hl => match us, hl with | [_, _], _ => rfl
theorem t_law_named {v0 v1 : V} : start n_law_named [v0, v1] = [some v0, some v1, none, none, none] := rfl

abbrev s_law_line : Stmt := topS 17
abbrev n_law_line : List Str := ["_law_state", "_law_many", "_law_rule", "_law_k", "_law_one"]
abbrev p_law_line : List Str := ["_law_state", "_law_many"]
theorem sc_law_line : FnScope n_law_line p_law_line (defScope s_law_line) := ⟨rfl, rfl, rfl, by decide +kernel, rfl, by decide +kernel, by decide +kernel⟩
theorem b_law_line : BindOk "_law_line" s_law_line p_law_line := fun _ _ _ _ _ _ us hl => match us, hl with | [_, _], _ => rfl
theorem t_law_line {v0 v1 : V} : start n_law_line [v0, v1] = [some v0, some v1, none, none, none] := rfl

abbrev s_law_parted : Stmt := topS 18
abbrev n_law_parted : List Str := ["_law_state", "_law_many", "_law_parts", "_law_lines", "_law_k", "_law_rule", "_law_other"]
abbrev p_law_parted : List Str := ["_law_state", "_law_many"]
theorem sc_law_parted : FnScope n_law_parted p_law_parted (defScope s_law_parted) := ⟨rfl, rfl, rfl, by decide +kernel, rfl, by decide +kernel, by decide +kernel⟩
theorem b_law_parted : BindOk "_law_parted" s_law_parted p_law_parted := fun _ _ _ _ _ _ us hl => match us, hl with | [_, _], _ => rfl
theorem t_law_parted {v0 v1 : V} : start n_law_parted [v0, v1] = [some v0, some v1, none, none, none, none, none] := rfl

abbrev s_law_back : Stmt := topS 19
abbrev n_law_back : List Str := ["_law_names", "_law_first", "_law_ways", "_law_row", "_law_long", "_law_longer", "_law_k", "_law_one"]
abbrev p_law_back : List Str := ["_law_names", "_law_first"]
theorem sc_law_back : FnScope n_law_back p_law_back (defScope s_law_back) := ⟨rfl, rfl, rfl, by decide +kernel, rfl, by decide +kernel, by decide +kernel⟩
theorem b_law_back : BindOk "_law_back" s_law_back p_law_back := fun _ _ _ _ _ _ us hl => match us, hl with | [_, _], _ => rfl
theorem t_law_back {v0 v1 : V} : start n_law_back [v0, v1] = [some v0, some v1, none, none, none, none, none, none] := rfl

abbrev s_law_ring : Stmt := topS 20
abbrev n_law_ring : List Str := ["_law_names", "_law_found", "_law_first", "_law_ways", "_law_left", "_law_one"]
abbrev p_law_ring : List Str := ["_law_names"]
theorem sc_law_ring : FnScope n_law_ring p_law_ring (defScope s_law_ring) := ⟨rfl, rfl, rfl, by decide +kernel, rfl, by decide +kernel, by decide +kernel⟩
theorem b_law_ring : BindOk "_law_ring" s_law_ring p_law_ring := fun _ _ _ _ _ _ us hl => match us, hl with | [_], _ => rfl
theorem t_law_ring {v0 : V} : start n_law_ring [v0] = [some v0, none, none, none, none, none] := rfl

abbrev slaw : Stmt := topS 21
abbrev nlaw : List Str := ["_law_script", "_law_state", "_law_cell", "_law_many", "_law_lines", "_law_k", "_law_names", "_law_rule", "_law_due", "_law_found", "_law_again"]
abbrev plaw : List Str := ["_law_script"]
theorem sclaw : FnScope nlaw plaw (defScope slaw) := ⟨rfl, rfl, rfl, by decide +kernel, rfl, by decide +kernel, by decide +kernel⟩
theorem blaw : BindOk "law" slaw plaw := fun _ _ _ _ _ _ us hl => match us, hl with | [_], _ => rfl
theorem tlaw {v0 : V} : start nlaw [v0] = [some v0, none, none, none, none, none, none, none, none, none, none] := rfl

structure Tx (K : PySem.W.Frag) (w : World) (mg : Str → Option Value) : Prop where
  m_sorted : mg "sorted" = none
  m_zip : mg "zip" = none
  m_range : mg "range" = none
  m_isinstance : mg "isinstance" = none
  m_int : mg "int" = none
  m_set : mg "set" = none
  m_len : mg "len" = none
  m_tuple : mg "tuple" = none
  m_list : mg "list" = none
  m_bool : mg "bool" = none
  m_min : mg "min" = none
  m_any : mg "any" = none
  g_PARTS : ∃ d, mg "PARTS" = some (.ref d) ∧ TabAt K w d tPARTS
  F_is_whole : FunAt K mg "is_whole" sis_whole
  F_is_within : FunAt K mg "is_within" sis_within
  F_is_place : FunAt K mg "is_place" sis_place
  F_named : FunAt K mg "named" snamed
  F__behind : FunAt K mg "_behind" s_behind
  F_ring_of : FunAt K mg "ring_of" sring_of
  F__lines_named : FunAt K mg "_lines_named" s_lines_named
  F__ring_from : FunAt K mg "_ring_from" s_ring_from
  F__law_cell_at : FunAt K mg "_law_cell_at" s_law_cell_at
  F__law_mixed : FunAt K mg "_law_mixed" s_law_mixed
  F__law_next : FunAt K mg "_law_next" s_law_next
  F__law_named : FunAt K mg "_law_named" s_law_named
  F__law_line : FunAt K mg "_law_line" s_law_line
  F__law_parted : FunAt K mg "_law_parted" s_law_parted
  F__law_back : FunAt K mg "_law_back" s_law_back
  F__law_ring : FunAt K mg "_law_ring" s_law_ring
  F_law : FunAt K mg "law" slaw

end KF
open PySem PySem.Spec PyProof.Rows L2 Qa Qr
local macro_rules | `(tactic| walk_at "tv") => `(tactic| first
  | assumption
  | exact Tv.int _
  | exact Tv.bl _
  | exact Tv.str _ (by first | assumption | decide | decide +kernel)
  | exact Tv.non
  | ((refine' tv_st ?h ?e); (case e => assumption); (case h => walk_at "tv"))
  | ((refine' tv_ex ?h ?e); (case e => assumption); (case h => walk_at "tv")))
local macro_rules | `(tactic| walk_at "tva") => `(tactic| first
  | assumption
  | ((refine' tva_st ?h ?e); (case e => assumption); (case h => walk_at "tva"))
  | ((refine' tva_ex ?h ?e); (case e => assumption); (case h => walk_at "tva")))
local macro_rules | `(tactic| walk_at "sqt") => `(tactic| first
  | assumption
  | exact SqT.of (by assumption)
  | ((refine' sqt_st ?h ?e); (case e => assumption); (case h => walk_at "sqt"))
  | ((refine' sqt_ex ?h ?e); (case e => assumption); (case h => walk_at "sqt")))
local macro_rules | `(tactic| walk_at "lst") => `(tactic| first
  | assumption
  | ((refine' lst_st ?h ?e ?n); (case e => assumption); (case n => assumption); (case h => walk_at "lst"))
  | ((refine' lst_ex ?h ?e); (case e => assumption); (case h => walk_at "lst")))
local macro_rules | `(tactic| walk_at "sql") => `(tactic| first
  | assumption
  | exact SqL.of (by walk_at "lst")
  | ((refine' sql_ex ?h ?e); (case e => assumption); (case h => walk_at "sql")))
local macro_rules | `(tactic| walk_at "sta") => `(tactic| first
  | assumption
  | ((refine' sta_st ?e); (case e => assumption))
  | ((refine' sta_ex ?h ?e); (case e => assumption); (case h => walk_at "sta")))
local macro_rules | `(tactic| walk_at "sd") => `(tactic| first
  | assumption
  | omega
  | (simp only [CMul, CDiv, CDivN, CPow]; omega)
  | decide)
local macro_rules | `(tactic| walk_at "rd1") => `(tactic| first
  | with_reducible refine rd_seq ?_
  | with_reducible refine rd_cons ?_
  | with_reducible refine rd_nil ?_
  | ((with_reducible refine' rd_var ?h ?_); (case h => exact rfl))
  | with_reducible refine rd_c ?_
  | with_reducible refine rd_op ?_
  | with_reducible refine rd_asg ?_
  | ((with_reducible refine' rd_name ?h ?_); (case h => (first | (dsimp only [List.set]; done) | (dsimp only [List.set]; exact rfl))))
  | with_reducible refine rd_cal ?_
  | with_reducible refine rd_ret ?_
  | with_reducible refine rd_ifS ?_
  | with_reducible refine rd_cb ?_
  | with_reducible refine rd_addI ?_
  | with_reducible refine rd_I0 ?_
  | with_reducible refine rd_pow9 ?_
  | with_reducible refine rd_pow12 ?_
  | ((with_reducible refine' rd_I ?h ?_); (case h => walk_at "sd"))
  | with_reducible refine rd_U ?_
  | with_reducible refine rd_eqI ?_
  | with_reducible refine rd_eqS ?_
  | with_reducible refine rd_eqB ?_
  | with_reducible refine rd_neI ?_
  | with_reducible refine rd_neS ?_
  | with_reducible refine rd_neB ?_
  | with_reducible refine rd_signIn ?_
  | with_reducible refine rd_signOut ?_
  | with_reducible refine rd_tup ?_
  | with_reducible refine rd_lst ?_
  | with_reducible refine rd_test ?_
  | with_reducible refine rd_tB ?_
  | with_reducible refine rd_bl ?_
  | with_reducible refine rd_blP ?_
  | with_reducible refine rd_tru ?_
  | with_reducible refine rd_trub ?_
  | with_reducible refine rd_trun ?_
  | with_reducible refine rd_not ?_
  | with_reducible refine rd_and ?_
  | with_reducible refine rd_or ?_
  | with_reducible refine rd_andV ?_
  | with_reducible refine rd_orV ?_
  | with_reducible refine rd_notV ?_
  | with_reducible refine rd_ifE ?_
  | with_reducible refine rd_chain ?_
  | with_reducible refine rd_retN ?_
  | with_reducible refine rd_drop ?_
  | with_reducible refine rd_next ?_
  | with_reducible refine rd_brk ?_
  | with_reducible refine rd_cont ?_
  | with_reducible refine rd_un ?_
  | with_reducible refine rd_bm ?_
  | with_reducible refine rd_sl ?_
  | with_reducible refine rd_part ?_
  | with_reducible refine rd_partI ?_
  | with_reducible refine rd_nopart ?_
  | with_reducible refine rd_gcons ?_
  | with_reducible refine rd_gnil ?_
  | with_reducible refine rd_gsub ?_
  | with_reducible refine rd_intB ?_
  | with_reducible refine rd_intI ?_
  | with_reducible refine rd_min2 ?_
  | with_reducible refine rd_max2 ?_
  | with_reducible refine rd_par ?_
  | ((with_reducible refine' rd_isInt ?h ?_); (case h => walk_at "tv"))
  | ((with_reducible refine' rd_isBool ?h ?_); (case h => walk_at "tv"))
  | ((with_reducible refine' rd_isStr ?h ?_); (case h => walk_at "tv"))
  | ((with_reducible refine' rd_isTup ?h ?_); (case h => walk_at "tv"))
  | ((with_reducible refine' rd_isLst ?h ?_); (case h => walk_at "tv"))
  | ((with_reducible refine' rd_inTab ?h ?_); (case h => assumption))
  | ((with_reducible refine' rd_outTab ?h ?_); (case h => assumption))
  | with_reducible refine rd_dgetT ?_
  | ((with_reducible refine' rd_lenS ?h ?_); (case h => first | assumption | decide))
  | ((with_reducible refine' rd_tyL ?h ?_); (case h => walk_at "sql"))
  | with_reducible refine rd_forS ?_
  | with_reducible refine rd_lcS ?_
  | with_reducible refine rd_lcR1 ?_
  | with_reducible refine rd_lcR2 ?_
  | with_reducible refine rd_forR1 ?_
  | with_reducible refine rd_forR2 ?_
  | with_reducible refine rd_forZ ?_
  | with_reducible refine rd_forR3 ?_
  | with_reducible refine rd_din ?_
  | with_reducible refine rd_dnotin ?_
  | with_reducible refine rd_dput ?_
  | with_reducible refine rd_dget2 ?_
  | ((with_reducible refine' rd_fsT ?h ?_); (case h => walk_at "sqt"))
  | ((with_reducible refine' rd_fsL ?h ?_); (case h => walk_at "sql"))
  | with_reducible refine rd_fsS ?_
  | ((with_reducible refine' rd_fr1 ?h1 ?h2 ?_); (case h1 => omega); (case h2 => omega))
  | ((with_reducible show ite _ _ _); first | refine iteT ?_ | refine iteF ?_))
local macro_rules | `(tactic| walk_at "lcn") => `(tactic| ((refine' rd_name ?h ?_); (case h => (first | (dsimp only [wipe, List.map, List.set]; done) | (dsimp only [wipe, List.map, List.set]; exact rfl))); refine ⟨rfl, ?_⟩; (try (refine rd_yes ?_; refine iteT ?_))))
local macro_rules | `(tactic| walk_at "exx") => `(tactic| first
  | assumption
  | exact Evl.Ex.refl _
  | ((refine' Evl.Ex.trans ?h ?e); (case e => assumption); (case h => walk_at "exx")))
local macro_rules | `(tactic| walk_at "ati") => `(tactic| first
  | exact atI_nat (j := 0) rfl
  | exact atI_nat (j := 1) rfl
  | exact atI_nat (j := 2) rfl
  | exact atI_nat (j := 3) rfl)
local macro_rules | `(tactic| walk_at "len") => `(tactic| first
  | decide
  | assumption
  | (simp; done)
  | (simp; omega)
  | omega)
local macro_rules | `(tactic| walk_at "rda1") => `(tactic| first
  | walk_at "rd1"
  | ((with_reducible refine' rd_ixT ?h ?e ?_); (case h => walk_at "sqt"); (case e => walk_at "ati"))
  | ((with_reducible refine' rd_ixL ?h ?e ?_); (case h => walk_at "sql"); (case e => walk_at "ati"))
  | ((with_reducible refine' new_tup ?q ?l); (case l => walk_at "len"); intro _ _ _ _ _)
  | ((with_reducible refine' new_lst ?q ?l); (case l => walk_at "len"); intro _ _ _ _ _)
  | ((with_reducible refine' rd_addL ?a ?b ?l ?q); (case a => walk_at "lst"); (case b => walk_at "lst"); (case l => walk_at "len"); intro _ _ _ _ _)
  | ((with_reducible refine' rd_addT ?a ?b ?l ?q); (case a => walk_at "sqt"); (case b => walk_at "sqt"); (case l => walk_at "len"); intro _ _ _ _)
  | ((with_reducible refine' rd_lstOfT ?a ?q); (case a => walk_at "sqt"); intro _ _ _ _ _)
  | ((with_reducible refine' rd_tupOfL ?a ?q); (case a => walk_at "sql"); intro _ _ _ _ _)
  | ((with_reducible refine' rd_slT ?a ?q); (case a => walk_at "sqt"); intro _ _ _ _)
  | ((with_reducible refine' rd_lenT ?a ?_); (case a => walk_at "sqt"))
  | ((with_reducible refine' rd_lenL ?a ?_); (case a => walk_at "sql")))
local macro_rules | `(tactic| walk_at "rda") => `(tactic| (repeat (walk_at "rda1")))
local macro_rules | `(tactic| walk_at "tvm") => `(tactic| first
  | exact TvA.nil
  | exact Tv.int _
  | exact Tv.bl _
  | exact Tv.str _ (by first | assumption | decide | decide +kernel)
  | exact Tv.non
  | walk_at "tv"
  | ((refine' Tv.tup ?h ?a); (case h => walk_at "sqt"); (case a => walk_at "tvm"))
  | ((refine' Tv.lst ?h); (case h => walk_at "sql"))
  | ((refine' TvA.cons ?h ?a); (case h => walk_at "tvm"); (case a => walk_at "tvm")))
local macro_rules | `(tactic| walk_at "rd") => `(tactic| (repeat (walk_at "rd1")))
local macro_rules | `(tactic| walk_at "vals") => `(tactic| first
  | exact Paired.nil
  | ((refine' Paired.cons ?a ?b); (case a => exact ⟨_, rfl⟩); (case b => walk_at "vals")))
local macro_rules | `(tactic| walk_at "tab") => `(tactic| first
  | exact Paired.nil
  | ((refine' ent_cons ?k ?s ?v ?b); (case k => k_is); (case s => decide); (case v => walk_at "vals"); (case b => walk_at "tab")))

namespace KF
section
variable {P : Program} {w : World} {K : PySem.W.Frag} {mg : Str → Option Value} {base : Heap} {H : Hp} {Q : VK} {E : XK}
def spWhole (K : PySem.W.Frag) : Sp := sp1 fun a H Q => ∃ t, Tv K H a t ∧ Q (.bl (isWhole t)) H
theorem k_is_whole (T : Tx K w mg) : Cal P w K mg base "is_whole" 1 pis_whole (spWhole K) := by
  refine cal1 T.F_is_whole scis_whole bis_whole rfl fun g cdv A outer s H a Q E hr h => ?_
  obtain ⟨t, ht, q⟩ := h
  refine ⟨_, (pss_one (ps_ret (pe_and (pe_callB call_isi (by rfl) T.m_isinstance (by decide +kernel) (pa_cons (pv 0) (pa_cons (pe_ty (n := "int") T.m_int (by decide +kernel)) pa_nil))) (pe_one (pe_not (pe_callB call_isi (by rfl) T.m_isinstance (by decide +kernel) (pa_cons (pv 0) (pa_cons (pe_ty (n := "bool") T.m_bool (by decide +kernel)) pa_nil)))))))), ?_⟩
  rw [tis_whole]
  try dsimp only [cxOf, Cx.nox, Cx.wish]
  cases t <;> (walk_at "rd"; exact q)
def spWithin (K : PySem.W.Frag) : Sp := sp3 fun a b c H Q => ∃ t lo hi, Tv K H a t ∧ b = .int lo ∧ c = .int hi ∧ Q (.bl (within t lo hi)) H
theorem k_is_within (T : Tx K w mg) (c_is_whole : Cal P w K mg base "is_whole" 1 pis_whole (spWhole K)) : Cal P w K mg base "is_within" 2 pis_within (spWithin K) := by
  refine cal3 T.F_is_within scis_within bis_within rfl fun g cdv A outer s H a b c Q E hr h => ?_
  obtain ⟨t, lo, hi, ht, rfl, rfl, q⟩ := h
  refine ⟨_, (pss_one (ps_ret (pe_and (pe_cal c_is_whole (hr.mono (by omega)) (pa_cons (pv 0) pa_nil)) (pe_one (pe_chain op_le op_le (pv 1) (pv 0) (pv 2)))))), ?_⟩
  rw [tis_within]
  try dsimp only [cxOf, Cx.nox, Cx.wish]
  walk_at "rd"
  refine rd_sp1 ⟨t, ht, ?_⟩
  walk_at "rd"
  cases t with
  | int i =>
    cases ht
    walk_at "rd"
    refine rd_ite (fun h1 => ?_) (fun h1 => ?_)
    · walk_at "rd"
      simpa [within, h1] using q
    · simpa [within, h1] using q
  | _ => walk_at "rd"; exact q
def spNum (K : PySem.W.Frag) : Sp := sp1 fun a H Q => ∃ t, Tv K H a t ∧ Q (.bl (isNum t)) H
def spPct (K : PySem.W.Frag) : Sp := sp1 fun a H Q => ∃ t, Tv K H a t ∧ Q (.bl (isPct t)) H
def spPlace (K : PySem.W.Frag) : Sp := sp2 fun a b H Q => ∃ t n, Tv K H a t ∧ b = .int n ∧ Q (.bl (isPlace t n)) H
def spWord (K : PySem.W.Frag) : Sp := sp1 fun a H Q => ∃ t, Tv K H a t ∧ Q (.bl (isWord t)) H
theorem k_is_place (T : Tx K w mg) (c_is_whole : Cal P w K mg base "is_whole" 1 pis_whole (spWhole K)) (c_is_within : Cal P w K mg base "is_within" 2 pis_within (spWithin K)) : Cal P w K mg base "is_place" 3 pis_place (spPlace K) := by
  refine cal2 T.F_is_place scis_place bis_place rfl fun g cdv A outer s H a b Q E hr h => ?_
  obtain ⟨t, n, ht, rfl, q⟩ := h
  refine ⟨_, (pss_one (ps_ret (pe_and (pe_cal c_is_whole (hr.mono (by omega)) (pa_cons (pv 1) pa_nil)) (pe_one (pe_cal c_is_within (hr.mono (by omega)) (pa_cons (pv 0) (pa_cons pe_int (pa_cons (pe_op op_sub (pv 1) pe_int) pa_nil)))))))), ?_⟩
  rw [tis_place]
  try dsimp only [cxOf, Cx.nox, Cx.wish]
  walk_at "rd"
  refine rd_sp1 ⟨_, .int n, ?_⟩
  walk_at "rd"
  exact rd_sp3 ⟨t, _, _, ht, rfl, rfl, q⟩
def spCell (K : PySem.W.Frag) : Sp := sp2 fun a b H Q => ∃ (l : Addr) (ns : List Int) (k : Nat), a = .ref l ∧ b = .int ((k : Nat) : Int) ∧ SqL K H l (ns.map V.int) ∧ ∀ r, Q (.int r) H
theorem k__law_cell_at (T : Tx K w mg) : Cal P w K mg base "_law_cell_at" 1 p_law_cell_at (spCell K) := by
  refine cal2 T.F__law_cell_at sc_law_cell_at b_law_cell_at rfl fun g cdv A outer s H a b Q E hr h => ?_
  obtain ⟨l, ns, k, rfl, rfl, hl, q⟩ := h
  refine ⟨_, (pss_cons (ps_if (pt_cmpR op_lt (pv 1) (pe_callB cr_lenA (by rfl) T.m_len (by decide +kernel) (pa_cons (pv 0) pa_nil)) (nomark _)) (pss_one (ps_ret (pe_ix ix_seq (pv 0) (pv 1) (fun _ _ => rfl)))) pss_nil) (pss_one (ps_ret pe_int))), ?_⟩
  rw [t_law_cell_at]
  try dsimp only [cxOf, Cx.nox, Cx.wish]
  walk_at "rd"
  refine rd_lenL hl ?_
  walk_at "rd"
  refine rd_ite (fun h1 => ?_) (fun h1 => ?_)
  · walk_at "rd"
    rw [List.length_map] at h1
    have hk : k < ns.length := by omega
    refine rd_ixL hl (atI_nat (j := k) (v := .int ns[k]) ?_) ?_
    · rw [List.getElem?_map, List.getElem?_eq_getElem hk]
      rfl
    · exact q _
  · walk_at "rd"
    exact q _
def spMixed (K : PySem.W.Frag) : Sp := sp2 fun a b H Q => ∃ c k, a = .int c ∧ b = .int k ∧ ∀ r, 0 ≤ r → r < 2147483647 → Q (.int r) H
theorem k__law_mixed (T : Tx K w mg) : Cal P w K mg base "_law_mixed" 1 p_law_mixed (spMixed K) := by
  refine cal2 T.F__law_mixed sc_law_mixed b_law_mixed rfl fun g cdv A outer s H a b Q E hr h => ?_
  obtain ⟨c, k, rfl, rfl, q⟩ := h
  refine ⟨_, (pss_one (ps_ret (pe_op op_mod (pe_op op_mul (pe_op op_addA (pv 0) (pe_op op_mul pe_int (pv 1))) pe_int) pe_int))), ?_⟩
  rw [t_law_mixed]
  try dsimp only [cxOf, Cx.nox, Cx.wish]
  walk_at "rd"
  exact q _ (by omega) (by omega)
def spNext (K : PySem.W.Frag) : Sp := sp2 fun a b H Q => ∃ l n, a = .ref l ∧ b = .int n ∧ (∃ s, H l = some (.lst [.int s])) ∧ 0 < n ∧ ∀ r H', 0 ≤ r → r < n → St1 l H H' → Q (.int r) H'
theorem k__law_next (T : Tx K w mg) : Cal P w K mg base "_law_next" 1 p_law_next (spNext K) := by
  refine cal2 T.F__law_next sc_law_next b_law_next rfl fun g cdv A outer s H a b Q E hr h => ?_
  obtain ⟨l, n, rfl, rfl, ⟨s0, hl⟩, hn, q⟩ := h
  refine ⟨_, (pss_cons (ps_asg (pe_op op_mod (pe_op op_addA (pe_op op_mul (pe_ix ix_seq (pv 0) pe_int (fun _ _ => rfl)) pe_int) pe_int) pe_int) (pg_sub (pv 0) pe_int set_list)) (pss_one (ps_ret (pe_op op_mod (pe_op op_fdiv (pe_ix ix_seq (pv 0) pe_int (fun _ _ => rfl)) pe_int) (pv 1))))), ?_⟩
  rw [t_law_next]
  try dsimp only [cxOf, Cx.nox, Cx.wish]
  walk_at "rd"
  refine rd_ixL (.of hl) (atI_nat (j := 0) rfl) ?_
  walk_at "rd"
  refine rd_setL hl (j := 0) rfl ?_
  walk_at "rd"
  refine rd_ixL (.of upd_same) (atI_nat (j := 0) rfl) ?_
  walk_at "rd"
  refine q _ _ (Int.emod_nonneg _ (by omega)) (Int.emod_lt_of_pos _ hn) ⟨fun b o hb e => by rw [upd_ne hb]; exact e, ⟨_, upd_same⟩, Tame.upd hl⟩
theorem nx {l : Addr} {n : Int} {E : XK} (h : ∃ s, H l = some (.lst [.int s])) (hn : 0 < n) (q : ∀ r H', 0 ≤ r → r < n → St1 l H H' → Q (.int r) H') : spNext K [.ref l, .int n] H Q E := rd_sp2 ⟨l, n, rfl, rfl, h, hn, q⟩
def spNo : Sp := fun _ _ _ _ => False
theorem cal_no {x : Str} {st : Stmt} {N ps : List Str} (F : FunAt K mg x st) (S : FnScope N ps (defScope st)) (hb : BindOk x st ps) : Cal P w K mg base x 1 ps spNo :=
  cal_mk F S hb (fun _ _ _ _ h => h.elim) fun _ _ _ _ _ _ _ _ _ _ h => h.elim
end
end KF
open PySem PySem.Spec PyProof.Rows L2 Qa Qr


namespace KF
section
variable {P : Program} {w : World} {K : PySem.W.Frag} {mg : Str → Option Value} {base : Heap} {H : Hp} {Q : VK} {E : XK}
def spBeh (K : PySem.W.Frag) (n : Nat) : Sp := sp2 fun a b H Q => ∃ t sz x, Tv K H a t ∧ b = .str x ∧ x ∈ five ∧ isRule sz n t = true ∧ n ≤ 8 ∧ ∀ p H', H p = none → Ex H H' → H' p = some (.lst ((beh x n t).map kV)) → Q (.ref p) H'
theorem k_beh {n m : Nat} (T : Tx K w mg) (c__behind : Cal P w K mg base "_behind" m p_behind (spBeh K n)) : Cal P w K mg base "_behind" (m + 1) p_behind (spBeh K (n + 1)) := by
  refine cal2 T.F__behind sc_behind b_behind rfl fun g cdv A outer s H a b Q E hr h => ?_
  obtain ⟨t, sz, wd, ht, rfl, hx, hrule, hn, q⟩ := h
  obtain ⟨dP, h_PARTS, tP⟩ := T.g_PARTS
  refine ⟨_, (pss_cons (ps_set (i := 2) (sc_behind).nd rfl (by first | exact Or.inl rfl | exact Or.inr rfl) (pe_lst pa_nil)) (Evl.pss_cut (ps_if (pt_cmpR (op_eqA hr) (pe_ix ix_seq (pv 0) pe_int (fun _ _ => rfl)) (pv 1) (nomark _)) (pss_one (ps_expr (pe_bm PySem.F.plainAttrs_list PySem.F.slot_list_append PySem.F.type_list_append mt_append (pv 2) (pa_cons (pe_ix ix_seq (pv 0) pe_int (fun _ _ => rfl)) pa_nil)))) pss_nil) (pss_cons (ps_for PassesOwn.never rfl (RZ.pi_zipA (by rfl) T.m_zip (pa_cons (pe_slice sl_any (pv 0) (po_some pe_int) po_none) (pa_cons (pe_ix ix_kdict (pe_gtab h_PARTS) (pe_ix ix_seq (pv 0) pe_int (fun _ _ => rfl)) (fun _ _ => rfl)) pa_nil))) (pg_tup (n := 2) rfl (pgs_cons (pg_name (i := 3) (sc_behind).nd rfl (by first | exact Or.inl rfl | exact Or.inr rfl)) (pgs_cons (pg_name (i := 4) (sc_behind).nd rfl (by first | exact Or.inl rfl | exact Or.inr rfl)) pgs_nil))) (pss_one (ps_if (pt_cmpR (op_eqA hr) (pv 4) pe_str (nomark _)) (pss_one (ps_expr (pe_bm PySem.F.plainAttrs_list PySem.F.slot_list_extend PySem.F.type_list_extend mt_extend (pv 2) (pa_cons (pe_cal c__behind (hr.mono (by omega)) (pa_cons (pv 3) (pa_cons (pv 1) pa_nil))) pa_nil)))) pss_nil))) (pss_one (ps_ret (pv 2)))))), ?_⟩
  rw [t_behind]
  try dsimp only [cxOf, Cx.nox, Cx.wish]
  obtain ⟨x, ts, ks, rfl, e, hl, hz⟩ := rule_of hrule
  have ekd : kindsD x = ks := by unfold kindsD; rw [e]
  have bl : (beh wd (n + 1) (.tup (.str x :: ts))).length ≤ 3280 := Nat.le_trans (beh_len wd (n + 1) _) (Nat.le_trans (B_mono hn) (by decide))
  rw [beh_at, ekd] at q bl
  obtain ⟨p, xs, rfl, hs, ha⟩ := ht.tupE
  walk_at "rd"
  refine new_lst fun f H1 hf E1 h1 => ?_
  walk_at "rd"
  refine rd_cut (fun σ H' => σ = [some (.ref p), some (.str wd), some (.ref f), none, none] ∧ Ex H H' ∧ H' f = some (.lst ((if x = wd then headK ts else []).map kV))) ?_ ?_
  · walk_at "rd"
    refine rd_ixD (n := 0) (tv_ex ht E1) rfl rfl fun v hv => ?_
    cases hv
    walk_at "rd"
    refine rd_ite (fun h2 => ?_) (fun h2 => ?_)
    · subst h2
      obtain ⟨t1, r, k, rfl, ek, _⟩ := head_key hx e hl hz
      walk_at "rd"
      refine rd_ixD (n := 1) (tv_ex ht E1) rfl rfl fun v hv => ?_
      rw [keyT_tv hv ek]
      walk_at "rd"
      refine rd_append h1 (by decide) ?_
      walk_at "rd"
      refine ⟨rfl, ex_new hf E1, ?_⟩
      rw [upd_same, if_pos rfl]
      show _ = some (HO.lst ((keyT t1).map kV))
      rw [ek]
      rfl
    · walk_at "rd"
      refine ⟨rfl, E1, ?_⟩
      rw [if_neg h2]
      exact h1
  rintro σ H2 ⟨rfl, E2, h2⟩
  walk_at "rd"
  refine rd_slT (sqt_ex hs E2) fun r H3 E3 hr3 => ?_
  rw [cutV_tail] at hr3
  walk_at "rd"
  refine rd_ixD (n := 0) (tv_ex (tv_ex ht E2) E3) rfl rfl fun v hv => ?_
  cases hv
  walk_at "rd"
  refine rd_ixTab tP e fun r2 hr2 => ?_
  walk_at "rd"
  refine rd_fzT hr3 hr2 ?_
  have ha' : TvA K H (xs.drop 1) ts := ha.drop 1
  have lx : (xs.drop 1).length = ts.length := ha'.len
  have E03 : Ex H H3 := E2.trans E3
  refine forW_Z (xs.drop 1) (ks.map V.str) (n := ts.length) (by rw [List.length_map, lx]; omega) (fun i σ H' => (∃ y z, σ = [some (.ref p), some (.str wd), some (.ref f), y, z]) ∧ Ex H H' ∧ SqT K H' r (xs.drop 1) ∧ SqT K H' r2 (ks.map V.str) ∧ ∃ acc, H' f = some (.lst (acc.map kV)) ∧ acc ++ behs (beh wd n) (ts.drop i) (ks.drop i) = (if x = wd then headK ts else []) ++ behs (beh wd n) ts ks) ?_ ?_ ?_ ?_
  · exact ⟨⟨_, _, rfl⟩, E03, hr3, hr2, _, lst_ex h2 E3, rfl⟩
  · rintro i σ H' hi ⟨_, _, a, b, _⟩
    exact ⟨a, b⟩
  · rintro i y z c σ H4 H5 hi ⟨⟨y0, z0, rfl⟩, E4, sr, sr2, acc, hacc, eacc⟩ hy hzz hc e5 hcT
    have a5 : TvA K H5 (xs.drop 1) ts := tva_ex (tva_ex ha' E4) e5
    obtain ⟨ty, hty, vy⟩ := a5.getV hy
    rw [List.getElem?_map] at hzz
    cases ek : ks[i]? with
    | none => rw [ek] at hzz; cases hzz
    | some k =>
      rw [ek] at hzz
      cases (Option.some.inj hzz)
      refine rd_gtup (SqT.of hcT) rfl ?_
      walk_at "rd"
      have ed := behs_drop (beh wd n) ts ks i ty k hty ek
      rw [ed] at eacc
      refine rd_ite (fun h6 => ?_) (fun h6 => ?_)
      · subst h6
        rw [if_pos rfl] at eacc
        have hacc5 : H5 f = _ := lst_ex hacc e5
        walk_at "rd"
        have hrt : isRule sz n ty = true := zipOk_at hz hty ek
        refine rd_sp2 ⟨ty, sz, wd, vy, rfl, hx, hrt, by omega, fun p6 H6 hp6 E6 h6 => ?_⟩
        walk_at "rd"
        have la : acc.length + (beh wd n ty).length ≤ 3280 := by
          have := congrArg List.length eacc
          rw [List.length_append, List.length_append] at this
          omega
        refine rd_extend (lst_ex hacc5 E6) h6 (by rw [List.length_map, List.length_map]; omega) ?_
        walk_at "rd"
        refine ⟨⟨_, _, rfl⟩, ex_new hf ((E4.trans e5).trans E6), ?_, ?_, acc ++ beh wd n ty, by rw [upd_same, List.map_append], by rw [List.append_assoc]; exact eacc⟩
        · exact (Tame.upd (lst_ex hacc5 E6)).sqT (sqt_ex (sqt_ex sr e5) E6)
        · exact (Tame.upd (lst_ex hacc5 E6)).sqT (sqt_ex (sqt_ex sr2 e5) E6)
      · rw [if_neg h6, List.nil_append] at eacc
        walk_at "rd"
        exact ⟨⟨_, _, rfl⟩, E4.trans e5, sqt_ex sr e5, sqt_ex sr2 e5, acc, lst_ex hacc e5, eacc⟩
  · rintro σ H' ⟨⟨y, z, rfl⟩, E4, _, _, acc, hacc, eacc⟩
    walk_at "rd"
    rw [behs_end _ _ _ _ (Nat.le_refl _), List.append_nil] at eacc
    rw [← eacc] at q
    exact q f H' hf E4 hacc
theorem k_behn (T : Tx K w mg) : ∀ n : Nat, Cal P w K mg base "_behind" (1 + n) p_behind (spBeh K n)
  | 0 => cal_mk (k := 0) T.F__behind sc_behind b_behind (fun vs H Q E h => by obtain ⟨a, b, rfl, _⟩ := h; rfl) fun _ _ _ _ _ _ vs Q E _ h => by
      obtain ⟨a, b, rfl, t, sz, x, _, _, _, hr, _⟩ := h
      cases hr
  | n + 1 => k_beh T (k_behn T n)
def spNamed (K : PySem.W.Frag) : Sp := sp2 fun a b H Q => ∃ t sz x, Tv K H a t ∧ b = .str x ∧ x ∈ five ∧ isRule sz 8 t = true ∧ ∀ p H' ls, keysOf (beh x 8 t) ls → H p = none → Ex H H' → H' p = some (.lst (ls.map kV)) → Q (.ref p) H'
theorem k_named (T : Tx K w mg) (c__behind : Cal P w K mg base "_behind" 9 p_behind (spBeh K 8)) : Cal P w K mg base "named" 10 pnamed (spNamed K) := by
  refine cal2 T.F_named scnamed bnamed rfl fun g cdv A outer s H a b Q E hr h => ?_
  obtain ⟨t, sz, wd, ht, rfl, hx, hrule, q⟩ := h
  refine ⟨_, (pss_one (ps_ret (pe_callB (cr_sortedA rfl) (by rfl) T.m_sorted (by decide +kernel) (pa_cons (pe_callTy (Qs.cr_setL rfl) (by rfl) T.m_set (by decide +kernel) (pa_cons (pe_cal c__behind (hr.mono (by omega)) (pa_cons (pv 0) (pa_cons (pv 1) pa_nil))) pa_nil)) pa_nil)))), ?_⟩
  rw [tnamed]
  try dsimp only [cxOf, Cx.nox, Cx.wish]
  walk_at "rd"
  refine rd_sp2 ⟨t, sz, wd, ht, rfl, hx, hrule, by omega, fun p H1 hp E1 h1 => ?_⟩
  walk_at "rd"
  have bl : (beh wd 8 t).length ≤ 3280 := Nat.le_trans (beh_len wd 8 t) (by decide)
  refine rd_setK (.of h1) (by omega) fun p2 H2 hp2 E2 h2 => ?_
  walk_at "rd"
  have hk : ∀ k ∈ Qs.foldK (beh wd 8 t), kd wd k := fun k hk => beh_kd hx 8 t hrule k (Qs.mem_foldK.mp hk)
  refine rd_sortSetK h2 (hom_kd hk) fun ks' p3 H3 pm sr hp3 E3 h3 => ?_
  have E13 := (E1.trans E2).trans E3
  refine q p3 H3 ks' ⟨sr, pm.nodup_iff.mpr (foldl_nodup _ [] .nil), fun k => (pm.mem_iff).trans Qs.mem_foldK⟩ ?_ E13 h3
  cases e : H p3 with
  | none => rfl
  | some o =>
    have := (E1.trans E2) p3 o e
    rw [hp3] at this
    cases this
def spLN (K : PySem.W.Frag) (n : Nat) : Sp := sp2 fun a b H Q => ∃ t sz x, Tv K H a t ∧ b = .str x ∧ x ∈ five ∧ isRule sz n t = true ∧ n ≤ 8 ∧ ∀ p H' ls, keysOf (beh x n t) ls → ls.length ≤ (beh x n t).length → H p = none → Ex H H' → H' p = some (.lst (ls.map kV)) → Q (.ref p) H'
theorem k_lnamed {n m : Nat} (T : Tx K w mg) (c__law_named : Cal P w K mg base "_law_named" m p_law_named (spLN K n)) : Cal P w K mg base "_law_named" (m + 1) p_law_named (spLN K (n + 1)) := by
  refine cal2 T.F__law_named sc_law_named b_law_named rfl fun g cdv A outer s H a b Q E hr h => ?_
  obtain ⟨t, sz, wd, ht, rfl, hx, hrule, hn, q⟩ := h
  refine ⟨_, (pss_cons (ps_set (i := 2) (sc_law_named).nd rfl (by first | exact Or.inl rfl | exact Or.inr rfl) (pe_lst pa_nil)) (Evl.pss_cut (ps_if (pt_cmpR (op_eqA hr) (pe_ix ix_seq (pv 0) pe_int (fun _ _ => rfl)) (pv 1) (nomark _)) (pss_one (ps_expr (pe_bm PySem.F.plainAttrs_list PySem.F.slot_list_append PySem.F.type_list_append mt_append (pv 2) (pa_cons (pe_ix ix_seq (pv 0) pe_int (fun _ _ => rfl)) pa_nil)))) pss_nil) (pss_cons (ps_for PassesOwn.never rfl (pi_seq (pe_slice sl_any (pv 0) (po_some pe_int) po_none)) (pg_name (i := 3) (sc_law_named).nd rfl (by first | exact Or.inl rfl | exact Or.inr rfl)) (pss_one (ps_if (pt_tru (pe_callB call_isi (by rfl) T.m_isinstance (by decide +kernel) (pa_cons (pv 3) (pa_cons (pe_ty (n := "tuple") T.m_tuple (by decide +kernel)) pa_nil)))) (pss_one (ps_set (i := 2) (sc_law_named).nd rfl (by first | exact Or.inl rfl | exact Or.inr rfl) (pe_op op_addA (pv 2) (pe_lc (own := [("_law_more", 4)]) rfl (sc_law_named).nd (pi_seq (pe_cal c__law_named (hr.mono (by omega)) (pa_cons (pv 3) (pa_cons (pv 1) pa_nil)))) (blkOk_by (N := n_law_named) (sc := defScope s_law_named) (by decide +kernel)) (fun _ _ _ _ _ => (pg_name (i := 4) (sc_law_named).nd rfl (by first | exact Or.inl rfl | exact Or.inr rfl))) (fun _ _ _ _ _ => (pts_one (pt_cmpR (notInK (K := K) rfl) (pv 4) (pv 2) (by rfl)))) (fun _ _ _ _ _ => (pv 4)))))) pss_nil))) (pss_one (ps_ret (pe_callB (cr_sortedA rfl) (by rfl) T.m_sorted (by decide +kernel) (pa_cons (pv 2) pa_nil))))))), ?_⟩
  rw [t_law_named]
  try dsimp only [cxOf, Cx.nox, Cx.wish]
  have hkd := beh_kd hx (n + 1) t hrule
  obtain ⟨x, ts, ks, rfl, e, hl, hz⟩ := rule_of hrule
  have ekd : kindsD x = ks := by unfold kindsD; rw [e]
  have bl : (beh wd (n + 1) (.tup (.str x :: ts))).length ≤ 3280 := Nat.le_trans (beh_len wd (n + 1) _) (Nat.le_trans (B_mono hn) (by decide))
  rw [beh_at, ekd] at q bl hkd
  obtain ⟨p, xs, rfl, hs, ha⟩ := ht.tupE
  walk_at "rd"
  refine new_lst fun f H1 hf E1 h1 => ?_
  walk_at "rd"
  refine rd_cut (fun σ H' => ∃ acc : List Key, σ = [some (.ref p), some (.str wd), some (.ref f), none, none] ∧ Ex H H' ∧ H' f = some (.lst (acc.map kV)) ∧ acc = (if x = wd then headK ts else [])) ?_ ?_
  · walk_at "rd"
    refine rd_ixD (n := 0) (tv_ex ht E1) rfl rfl fun v hv => ?_
    cases hv
    walk_at "rd"
    refine rd_ite (fun h2 => ?_) (fun h2 => ?_)
    · subst h2
      obtain ⟨t1, r, k, rfl, ek, _⟩ := head_key hx e hl hz
      walk_at "rd"
      refine rd_ixD (n := 1) (tv_ex ht E1) rfl rfl fun v hv => ?_
      rw [keyT_tv hv ek]
      walk_at "rd"
      refine rd_append h1 (by decide) ?_
      walk_at "rd"
      refine ⟨_, rfl, ex_new hf E1, ?_, rfl⟩
      rw [upd_same, if_pos rfl]
      show _ = some (HO.lst ((keyT t1).map kV))
      rw [ek]
      rfl
    · walk_at "rd"
      refine ⟨[], rfl, E1, h1, ?_⟩
      rw [if_neg h2]
  rintro σ H2 ⟨acc0, rfl, E2, h2, eacc0⟩
  have nd0 : acc0.Nodup := by
    have l1 : acc0.length ≤ 1 := by
      rw [eacc0]
      split
      · exact headK_len ts
      · exact Nat.zero_le _
    match acc0, l1 with
    | [], _ => exact .nil
    | [a], _ => simp
  rw [← eacc0] at q bl hkd
  walk_at "rd"
  refine rd_slT (sqt_ex hs E2) fun r H3 E3 hr3 => ?_
  rw [cutV_tail] at hr3
  walk_at "rd"
  have ha' : TvA K H (xs.drop 1) ts := ha.drop 1
  have lx : (xs.drop 1).length = ts.length := ha'.len
  have E03 : Ex H H3 := E2.trans E3
  refine forW_T (xs.drop 1) (fun i σ H' => ∃ (f' : Addr) (y z : Option V) (acc : List Key), σ = [some (.ref p), some (.str wd), some (.ref f'), y, z] ∧ Ex H H' ∧ SqT K H' r (xs.drop 1) ∧ H' f' = some (.lst (acc.map kV)) ∧ acc.Nodup ∧ acc.length + (behs (beh wd n) (ts.drop i) (ks.drop i)).length ≤ (acc0 ++ behs (beh wd n) ts ks).length ∧
    ∀ k, (k ∈ acc ∨ k ∈ behs (beh wd n) (ts.drop i) (ks.drop i)) ↔ k ∈ acc0 ++ behs (beh wd n) ts ks) ?_ ?_ ?_ ?_
  · exact ⟨f, _, _, acc0, rfl, E03, hr3, lst_ex h2 E3, nd0, by rw [List.length_append]; exact Nat.le_refl _, fun k => List.mem_append.symm⟩
  · rintro i σ H' hi ⟨f', y, z, acc, _, _, a, _⟩
    exact a
  · rintro i v σ H4 hv ⟨f', y, z, acc, rfl, E4, sr, hacc, nd, lacc, mem⟩
    obtain ⟨ty, hty, vy⟩ := (tva_ex ha' E4).getV hv
    walk_at "rd"
    obtain ⟨k, ek⟩ : ∃ k, ks[i]? = some k := by
      have : i < ts.length := (List.getElem?_eq_some_iff.mp hty).1
      exact ⟨ks[i]'(by omega), List.getElem?_eq_getElem (by omega)⟩
    have hpk := zipOk_at hz hty ek
    have ed := behs_drop (beh wd n) ts ks i ty k hty ek
    rw [part_tup (kinds_of e k (List.mem_of_getElem? ek)) hpk]
    refine rd_ite (fun h6 => ?_) (fun h6 => ?_)
    · subst h6
      rw [if_pos rfl] at ed
      rw [ed] at mem lacc
      rw [List.length_append] at lacc
      walk_at "rd"
      have hrt : isRule sz n ty = true := hpk
      refine rd_sp2 ⟨ty, sz, wd, vy, rfl, hx, hrt, by omega, fun p5 H5 ls hls lls hp5 E5 h5 => ?_⟩
      walk_at "rd"
      have hacc5 : H5 f' = _ := lst_ex hacc E5
      refine lcW_L (ls.map kV) (fun D j H' => ∃ new : List Key, H' D = some (.lst (new.map kV)) ∧ new.length ≤ j ∧ new.Nodup ∧ (∀ k, k ∈ new ↔ k ∈ ls.take j ∧ k ∉ acc) ∧ Ex H5 H') ?_ ?_ ?_ ?_
      · exact fun D H' hD e h => ⟨[], h, Nat.le_refl _, .nil, by simp, e⟩
      · rintro D j H' hD hj ⟨new, hnew, _, _, _, e⟩
        exact sql_ex (.of h5) e
      · rintro D j u H6 hD hu ⟨new, hnew, lnew, ndn, memn, E6⟩
        rw [List.getElem?_map] at hu
        cases eu : ls[j]? with
        | none => rw [eu] at hu; cases hu
        | some k =>
          rw [eu] at hu
          cases (Option.some.inj hu)
          have hj : j < ls.length := (List.getElem?_eq_some_iff.mp eu).1
          have et : ls.take (j + 1) = ls.take j ++ [k] := by rw [List.take_add_one, eu]; rfl
          have nin : k ∉ ls.take j := by
            intro z
            have nd2 : (ls.take (j + 1)).Nodup := hls.2.1.sublist (List.take_sublist _ _)
            rw [et] at nd2
            exact (List.nodup_append.mp nd2).2.2 k z k (by simp) rfl
          walk_at "lcn"
          walk_at "rd"
          refine rd_outK (.of (lst_ex hacc5 E6)) ?_
          walk_at "rd"
          cases em : memK k acc with
          | true =>
            walk_at "rd"
            refine ⟨new, hnew, by omega, ndn, fun k' => ?_, E6⟩
            rw [memn, et, List.mem_append]
            refine ⟨fun z => ⟨.inl z.1, z.2⟩, fun z => ?_⟩
            rcases z with ⟨z | z, z2⟩
            · exact ⟨z, z2⟩
            · cases List.mem_singleton.mp z
              exact absurd (memK_iff.mp em) z2
          | false =>
            have nacc : k ∉ acc := fun z => by rw [memK_iff.mpr z] at em; cases em
            walk_at "rd"
            refine ⟨_, hnew, by rw [List.length_map, sizeLine_eq]; omega, ?_⟩
            refine ⟨new ++ [k], by rw [upd_same, List.map_append]; rfl, by rw [List.length_append]; simp; omega, ?_, fun k' => ?_, ex_new hD E6⟩
            · rw [List.nodup_append]
              refine ⟨ndn, by simp, fun a ha b hb => ?_⟩
              cases List.mem_singleton.mp hb
              rintro rfl
              exact nin ((memn a).mp ha).1
            · rw [List.mem_append, memn, et, List.mem_append, List.mem_singleton]
              refine ⟨fun z => ?_, fun z => ?_⟩
              · rcases z with z | rfl
                · exact ⟨.inl z.1, z.2⟩
                · exact ⟨.inr rfl, nacc⟩
              · rcases z with ⟨z | z, z2⟩
                · exact .inl ⟨z, z2⟩
                · exact .inr z
      · rintro D H6 hD ⟨new, hnew, lnew, ndn, memn, E6⟩
        walk_at "rd"
        rw [List.length_map] at lnew
        rw [List.length_map, List.take_length] at memn
        refine rd_addLb (lst_ex hacc5 E6) hnew (by rw [List.length_map, List.length_map]; omega) fun p7 H7 hp7 E7 h7 => ?_
        walk_at "rd"
        have E47 := (E5.trans E6).trans E7
        refine ⟨p7, _, _, acc ++ new, rfl, E4.trans E47, sqt_ex sr E47, by rw [h7, List.map_append], ?_, by rw [List.length_append]; omega, fun k => ?_⟩
        · rw [List.nodup_append]
          refine ⟨nd, ndn, fun a ha b hb => ?_⟩
          rintro rfl
          exact ((memn a).mp hb).2 ha
        · rw [← mem k, List.mem_append, List.mem_append, memn, hls.2.2 k]
          by_cases z : k ∈ acc <;> simp [z]
    · rw [if_neg h6, List.nil_append] at ed
      walk_at "rd"
      rw [ed] at mem lacc
      exact ⟨f', _, _, acc, rfl, E4, sr, hacc, nd, lacc, mem⟩
  · rintro σ H4 ⟨f', y, z, acc, rfl, E4, _, hacc, nd, lacc, mem⟩
    walk_at "rd"
    rw [lx, behs_end _ _ _ _ (Nat.le_refl _)] at mem lacc
    have mem' : ∀ k, k ∈ acc ↔ k ∈ acc0 ++ behs (beh wd n) ts ks := fun k => by rw [← mem k]; simp
    have hk : ∀ k ∈ acc, kd wd k := fun k hk => hkd k ((mem' k).mp hk)
    refine rd_sortK (.of hacc) (hom_kd hk) fun ks' p5 H5 pm sr hp5 E5 h5 => ?_
    refine q p5 H5 ks' ⟨sr, pm.nodup_iff.mpr nd, fun k => (pm.mem_iff).trans (mem' k)⟩ (by rw [pm.length_eq]; exact lacc) ?_ (E4.trans E5) h5
    cases e : H p5 with
    | none => rfl
    | some o =>
      have := E4 p5 o e
      rw [hp5] at this
      cases this
theorem k_lnamedn (T : Tx K w mg) : ∀ n : Nat, Cal P w K mg base "_law_named" (1 + n) p_law_named (spLN K n)
  | 0 => cal_mk (k := 0) T.F__law_named sc_law_named b_law_named (fun vs H Q E h => by obtain ⟨a, b, rfl, _⟩ := h; rfl) fun _ _ _ _ _ _ vs Q E _ h => by
      obtain ⟨a, b, rfl, t, sz, x, _, _, _, hr, _⟩ := h
      cases hr
  | n + 1 => k_lnamed T (k_lnamedn T n)
end
end KF
open PySem PySem.Spec PyProof.Rows L2 Qa Qr
open Qg


namespace KF
section
variable {P : Program} {w : World} {K : PySem.W.Frag} {mg : Str → Option Value} {base : Heap} {H : Hp} {Q : VK} {E : XK}
theorem nmOf_get (ts : List T) (i : Nat) : (nmOf ts)[i]? = (ts[i]?).map fun t => rowK ts.length (beh "line" 8 t) := by rw [nmOf, List.getElem?_map]
theorem five_line : ("line" : Str) ∈ five := by decide
theorem line_keys {sz : Sz} {t : T} (h : isRule sz 8 t = true) {ls : List Key} (hl : keysOf (beh "line" 8 t) ls) : ∃ ns : List Int, ls = ns.map Sum.inl := by
  have hk : ∀ k ∈ ls, kd "line" k := fun k hk => beh_kd five_line 8 t h k ((hl.2.2 k).mp hk)
  clear hl
  induction ls with
  | nil => exact ⟨[], rfl⟩
  | cons k ls ih =>
    obtain ⟨ns, rfl⟩ := ih fun k hk' => hk k (List.mem_cons_of_mem _ hk')
    cases k with
    | inl i => exact ⟨i :: ns, rfl⟩
    | inr x => exact absurd (hk _ List.mem_cons_self).1 (by decide)
def spLinesNamed (K : PySem.W.Frag) : Sp := sp1 fun a H Q => ∃ l vs ts sz, a = .ref l ∧ SqL K H l vs ∧ TvA K H vs ts ∧ (∀ t ∈ ts, isRule sz 8 t = true) ∧ ts.length ≤ 40 ∧ ∀ p H', NmAt H' p (nmOf ts) → H p = none → Ex H H' → Q (.ref p) H'
theorem k__lines_named (T : Tx K w mg) (c_named : Cal P w K mg base "named" 10 pnamed (spNamed K)) (c_is_place : Cal P w K mg base "is_place" 3 pis_place (spPlace K)) : Cal P w K mg base "_lines_named" 11 p_lines_named (spLinesNamed K) := by
  refine cal1 T.F__lines_named sc_lines_named b_lines_named rfl fun g cdv A outer s H a Q E hr h => ?_
  obtain ⟨l, vs, ts, sz, rfl, hl, hts, hru, hn, q⟩ := h
  refine ⟨_, (pss_one (ps_ret (pe_lc (own := [("rule", 2)]) rfl (sc_lines_named).nd (pi_seq (pv 0)) (blkOk_by (N := n_lines_named) (sc := defScope s_lines_named) (by decide +kernel)) (fun _ _ _ _ _ => (pg_name (i := 2) (sc_lines_named).nd rfl (by first | exact Or.inl rfl | exact Or.inr rfl))) (fun _ _ _ _ _ => pts_nil) (fun _ _ _ _ _ => (pe_lc (own := [("line", 1)]) rfl (sc_lines_named).nd (pi_seqK (K := K) rfl (pe_cal c_named (hr.mono (by omega)) (pa_cons (pv 2) (pa_cons pe_str pa_nil)))) (blkOk_in (N := n_lines_named) (by decide +kernel)) (fun _ _ _ _ _ => (pg_name (i := 1) (sc_lines_named).nd rfl (by first | exact Or.inl rfl | exact Or.inr rfl))) (fun _ _ _ _ _ => (pts_one (pt_truK (K := K) rfl (pe_cal c_is_place (hr.mono (by omega)) (pa_cons (pv 1) (pa_cons (pe_callB (lenK (K := K) rfl) (by rfl) T.m_len (by decide +kernel) (pa_cons (pv 0) pa_nil)) pa_nil)))))) (fun _ _ _ _ _ => (pv 1))))))), ?_⟩
  rw [t_lines_named]
  try dsimp only [cxOf, Cx.nox, Cx.wish]
  have lv : vs.length = ts.length := hts.len
  walk_at "rda"
  refine lcW_L vs (fun D i H' => ∃ as : List Addr, H' D = some (.lst (as.map V.ref)) ∧ as.length = i ∧ Ex H H' ∧ ∀ (j : Nat) (r : List Nat), j < i → (nmOf ts)[j]? = some r → ∃ a, as[j]? = some a ∧ a ≠ D ∧ H' a = some (.lst (r.map iv))) ?_ ?_ ?_ ?_
  · exact fun D H' hD e h => ⟨[], h, rfl, e, fun j r hj => absurd hj (Nat.not_lt_zero _)⟩
  · rintro D i H' hD hi ⟨as, _, _, e, _⟩
    exact sql_ex hl e
  · rintro D i v H' hD hv ⟨as, hD', la, e, hrows⟩
    obtain ⟨t, ht, vt⟩ := hts.getV hv
    have hi : i < ts.length := (List.getElem?_eq_some_iff.mp ht).1
    have hrule := hru t (List.mem_of_getElem? ht)
    walk_at "lcn"
    walk_at "rd"
    refine rd_sp2 ⟨t, sz, "line", tv_ex vt e, rfl, five_line, hrule, fun p H1 ls hls hp E1 h1 => ?_⟩
    walk_at "rd"
    obtain ⟨ns, en⟩ := line_keys hrule hls
    have hD1 : H1 D = some (.lst (as.map V.ref)) := E1 _ _ hD'
    refine lcW_L (ls.map kV) (fun D2 j H' => H' D2 = some (.lst (((ls.take j).filter (placeK ts.length)).map kV)) ∧ Ex H1 H') ?_ ?_ ?_ ?_
    · exact fun D2 H' hD2 e h => ⟨h, e⟩
    · rintro D2 j H' hD2 hj ⟨_, e⟩
      exact sql_ex (.of h1) e
    · rintro D2 j u H2 hD2 hu ⟨hacc, E2⟩
      rw [List.getElem?_map] at hu
      cases eu : ls[j]? with
      | none => rw [eu] at hu; cases hu
      | some k =>
        rw [eu] at hu
        cases (Option.some.inj hu)
        have hj : j < ls.length := (List.getElem?_eq_some_iff.mp eu).1
        have et : ls.take (j + 1) = ls.take j ++ [k] := by rw [List.take_add_one, eu]; rfl
        obtain ⟨x, ex⟩ : ∃ x : Int, k = .inl x := by
          have hm := List.mem_of_getElem? eu
          rw [en] at hm
          obtain ⟨x, _, e⟩ := List.mem_map.mp hm
          exact ⟨x, e.symm⟩
        subst ex
        walk_at "lcn"
        walk_at "rd"
        refine rd_lenL (sql_ex (sql_ex (sql_ex hl e) E1) E2) ?_
        walk_at "rd"
        refine rd_sp2 ⟨.int x, _, .int x, rfl, ?_⟩
        walk_at "rd"
        have ep : isPlace (.int x) ((vs.length : Nat) : Int) = placeK ts.length (.inl x) := by
          show (decide (0 ≤ x) && decide (x ≤ ((vs.length : Nat) : Int) - 1)) = (decide (0 ≤ x) && decide (x < (ts.length : Int)))
          rw [lv]
          congr 1
          rw [decide_eq_decide]
          omega
        rw [ep]
        cases em : placeK ts.length (.inl x) with
        | false =>
          walk_at "rd"
          refine ⟨?_, E2⟩
          rw [et, List.filter_append, List.filter_cons_of_neg (by rw [em]; exact Bool.false_ne_true), List.filter_nil, List.append_nil]
          exact hacc
        | true =>
          walk_at "rd"
          refine ⟨_, hacc, ?_, ?_, ex_new hD2 E2⟩
          · rw [List.length_map, sizeLine_eq]
            have := List.length_filter_le (placeK ts.length) (ls.take j)
            rw [List.length_take] at this
            have hb : ls.length ≤ 4000 := Nat.le_trans (keysOf_len hls) (Nat.le_trans (beh_len "line" 8 t) (by decide))
            omega
          · rw [upd_same, et, List.filter_append, List.filter_cons_of_pos em, List.filter_nil, List.map_append]
            rfl
    · rintro D2 H2 hD2 ⟨hacc, E2⟩
      rw [List.length_map, List.take_length, places_row hls, iv_key] at hacc
      walk_at "rd"
      have hD2' : H2 D = some (.lst (as.map V.ref)) := E2 _ _ hD1
      have nD : D2 ≠ D := by rintro rfl; rw [hD1] at hD2; cases hD2
      refine ⟨_, hD2', by rw [List.length_map, sizeLine_eq]; omega, as ++ [D2], by rw [upd_same, List.map_append]; rfl, by rw [List.length_append, la]; rfl, ex_new hD ((e.trans E1).trans E2), fun j r hj hr => ?_⟩
      by_cases ej : j = i
      · subst ej
        refine ⟨D2, by rw [List.getElem?_append_right (by omega), la, Nat.sub_self]; rfl, nD, ?_⟩
        rw [upd_ne nD, hacc]
        rw [nmOf_get, ht] at hr
        cases hr
        rfl
      · obtain ⟨a, ha, hne, hh⟩ := hrows j r (by omega) hr
        refine ⟨a, by rw [List.getElem?_append_left (by omega)]; exact ha, hne, ?_⟩
        rw [upd_ne hne]
        exact E2 _ _ (E1 _ _ hh)
  · rintro D H' hD ⟨as, hD', la, e, hrows⟩
    walk_at "rd"
    refine q D H' ⟨as, hD', by rw [la, lv, nmOf_len], fun i r hr => ?_⟩ hD e
    have hi : i < (nmOf ts).length := (List.getElem?_eq_some_iff.mp hr).1
    rw [nmOf_len] at hi
    obtain ⟨a, ha, _, hh⟩ := hrows i r (by omega) hr
    exact ⟨a, ha, hh⟩
def spRingFrom (K : PySem.W.Frag) : Sp := sp2 fun a b H Q => ∃ nl nm f, a = .ref nl ∧ b = iv f ∧ NmAt H nl nm ∧ Rows nm ∧ f < nm.length ∧ nm.length ≤ 40 ∧ ∀ p r H', IsBst nm f r → H p = none → Ex H H' → H' p = some (.lst (r.map iv)) → Q (.ref p) H'
structure RF (H : Hp) (nm : List (List Nat)) (pl dl : Addr) (R : List Nat) (Qs : List (List Nat)) (H' : Hp) : Prop where
  ex : Ex H H'
  pl : ∃ as, H' pl = some (.lst (as.map V.ref)) ∧ Pths H H' pl as Qs
  dl : ∃ kvs, H' dl = some (.dK kvs) ∧ KsAt kvs R
  lt : ∀ x, x ∈ R → x < nm.length
theorem k__ring_from (T : Tx K w mg) : Cal P w K mg base "_ring_from" 1 p_ring_from (spRingFrom K) := by
  refine cal2 T.F__ring_from sc_ring_from b_ring_from rfl fun g cdv A outer s H a b Q E hr h => ?_
  obtain ⟨nl, nm, f, rfl, rfl, hnm, hrows, hf, hn, q⟩ := h
  refine ⟨_, (pss_cons (ps_set (i := 2) (sc_ring_from).nd rfl (by first | exact Or.inl rfl | exact Or.inr rfl) (pe_lst (pa_cons (pe_lst (pa_cons (pv 1) pa_nil)) pa_nil))) (pss_cons (ps_set (i := 3) (sc_ring_from).nd rfl (by first | exact Or.inl rfl | exact Or.inr rfl) (pe_disp (pps_cons (pv 1) pe_bl pps_nil) (by rfl) (by rfl) (fun z => by cases z) (by decide))) (pss_cons (ps_while PassesOwn.never (pt_tru (pv 2)) (pss_cons (ps_set (i := 4) (sc_ring_from).nd rfl (by first | exact Or.inl rfl | exact Or.inr rfl) (pe_bm PySem.F.plainAttrs_list PySem.F.slot_list_pop PySem.F.type_list_pop mt_popAt (pv 2) (pa_cons pe_int pa_nil))) (pss_one (ps_for PassesOwn.never rfl (pi_seq (pe_ix ix_seq (pv 0) (pe_ix ix_seq (pv 4) (pe_un un_neg pe_int) (fun _ _ => rfl)) (fun _ _ => rfl))) (pg_name (i := 5) (sc_ring_from).nd rfl (by first | exact Or.inl rfl | exact Or.inr rfl)) (pss_cons (ps_if (pt_cmpR (op_eqA hr) (pv 5) (pv 1) (nomark _)) (pss_one (ps_ret (pv 4))) pss_nil) (pss_one (ps_if (pt_cmp (pc_dnotin (hu_of hr) (pv 5) (pv 3))) (pss_cons (ps_dput (hu_of hr) (pv 3) (pv 5) pe_bl rfl) (pss_one (ps_expr (pe_bm PySem.F.plainAttrs_list PySem.F.slot_list_append PySem.F.type_list_append mt_append (pv 2) (pa_cons (pe_op op_addA (pv 4) (pe_lst (pa_cons (pv 5) pa_nil))) pa_nil))))) pss_nil))))))) (pss_one (ps_ret (pe_lst pa_nil)))))), ?_⟩
  rw [t_ring_from]
  try dsimp only [cxOf, Cx.nox, Cx.wish]
  walk_at "rd"
  refine new_lst fun p0 H1 hp0 E1 h1 => ?_
  walk_at "rd"
  refine new_lst fun pl H2 hpl E2 h2 => ?_
  walk_at "rd"
  refine rd_disp fun dl hdl => ?_
  refine rd_pcons ?_
  walk_at "rd"
  refine rd_pnil ⟨upd_same, [(ik f, .bl true)], rfl, by show 1 ≤ 15; decide, ?_⟩
  have em : mergeK [] [(ik f, V.bl true)] = [(ik f, .bl true)] := rfl
  rw [em]
  generalize eH : upd (upd H2 dl (.dK [])) dl (.dK [(ik f, .bl true)]) = H3
  have h3 : H3 dl = some (.dK [(ik f, .bl true)]) := by rw [← eH]; exact upd_same
  have E3 : Ex H2 H3 := by
    intro b o hb
    have ne : b ≠ dl := by rintro rfl; rw [hdl] at hb; cases hb
    rw [← eH, upd_ne ne, upd_ne ne]
    exact hb
  clear eH
  have E13 : Ex H H3 := (E1.trans E2).trans E3
  have hplH : H pl = none := free_of E1 hpl
  have hdlH : H dl = none := free_of (E1.trans E2) hdl
  have npl : p0 ≠ pl := by rintro rfl; rw [h1] at hpl; cases hpl
  walk_at "rd"
  refine rd_while (m0 := 2 * (nm.length - 1) + 1) (fun m σ H' => ∃ D Qs R x y, BI nm f D Qs R ∧ RF H nm pl dl R Qs H' ∧ σ = [some (.ref nl), some (iv f), some (.ref pl), some (.ref dl), x, y] ∧ m = 2 * (nm.length - R.length) + Qs.length) ?_ ?_
  · refine ⟨[], [[f]], [f], _, _, BI.start, ⟨E13, ⟨[p0], E3 _ _ h2, .cons hp0 npl (E3 _ _ (E2 _ _ h1)) .nil⟩, ⟨_, h3, rfl, fun y => ?_⟩, fun x hx => ?_⟩, rfl, rfl⟩
    · by_cases e : y = f
      · subst e
        rw [valV_pos rfl]
        simp
      · rw [valV_neg (fun z => e (by have := Sum.inl.inj z; omega))]
        simp [e]
        rfl
    · have e : x = f := by simpa using hx
      subst e
      exact hf
  rintro m σ H4 ⟨D, Qs, R, x0, y0, I, F, rfl, rfl⟩
  obtain ⟨as, hpl4, hpt⟩ := F.pl
  walk_at "rd"
  refine rd_truL (.of hpl4) ?_
  cases hpt with
  | nil =>
    walk_at "rd"
    refine new_lst fun p H5 hp E5 h5 => ?_
    exact q p [] H5 (.inl ⟨rfl, I.none⟩) (free_of F.ex hp) (F.ex.trans E5) h5
  | @cons pa p as Qs ha hne hpa hpt =>
    walk_at "rd"
    refine rd_wN ?_
    walk_at "rd"
    refine rd_pop0 hpl4 ?_
    generalize eH : upd H4 pl (.lst (as.map V.ref)) = H5
    have h5 : H5 pl = some (.lst (as.map V.ref)) := by rw [← eH]; exact upd_same
    have k5 : ∀ b, b ≠ pl → H5 b = H4 b := fun b hb => by rw [← eH, upd_ne hb]
    have E5 : Ex H H5 := by rw [← eH]; exact ex_new hplH F.ex
    clear eH
    obtain ⟨x, hxR, hw⟩ := I.wk p (by simp)
    obtain ⟨v, ev⟩ := walk_split hw
    have hx : x < nm.length := F.lt x hxR
    have hpa5 : H5 pa = some (.lst (p.map iv)) := by rw [k5 pa hne]; exact hpa
    walk_at "rd"
    refine rd_ixL (.of hpa5) (by rw [ev, List.map_append]; exact atI_last _ _) ?_
    obtain ⟨rs, hnl, lrs, hrs⟩ := hnm
    obtain ⟨ra, hra, hrow⟩ := hrs x _ (List.getElem?_eq_getElem hx)
    have erow : nm[x] = row nm x := by unfold row; rw [List.getElem?_eq_getElem hx]; rfl
    rw [erow] at hrow
    refine rd_ixL (.of (E5 _ _ hnl)) (atI_nat (j := x) (v := .ref ra) (by rw [List.getElem?_map, hra]; rfl)) ?_
    walk_at "rd"
    have hup := hrows.at x
    refine forW_L ((row nm x).map iv) (fun i σ H' => ∃ A R' as' y, BS nm f D p Qs A R' ((row nm x).take i) ∧ Ex H H' ∧ H' pl = some (.lst (as'.map V.ref)) ∧ Pths H H' pl as' (Qs ++ A) ∧ (∃ kvs, H' dl = some (.dK kvs) ∧ KsAt kvs R') ∧ (∀ x, x ∈ R' → x < nm.length) ∧
      H' pa = some (.lst (p.map iv)) ∧ σ = [some (.ref nl), some (iv f), some (.ref pl), some (.ref dl), some (.ref pa), y] ∧ 2 * (nm.length - R'.length) + (Qs ++ A).length + 1 ≤ 2 * (nm.length - R.length) + (p :: Qs).length) ?_ ?_ ?_ ?_
    · obtain ⟨kvs, hdl4, hks⟩ := F.dl
      have ndl : dl ≠ pl := by rintro rfl; rw [hpl4] at hdl4; cases hdl4
      refine ⟨[], R, as, _, I.open, E5, h5, ?_, ⟨kvs, by rw [k5 dl ndl]; exact hdl4, hks⟩, F.lt, hpa5, rfl, by rw [List.append_nil, List.length_cons]; omega⟩
      rw [List.append_nil]
      exact hpt.mv fun a xs ha h => by rw [k5 a ha]; exact h
    · rintro i σ H' hi ⟨A, R', as', y, _, e, _⟩
      exact .of (e _ _ hrow)
    · rintro i u σ H6 hu ⟨A, R', as', y0, I6, E6, hpl6, hpt6, ⟨kvs, hdl6, hks6⟩, hlt6, hpa6, rfl, hm6⟩
      rw [List.getElem?_map] at hu
      cases eu : (row nm x)[i]? with
      | none => rw [eu] at hu; cases hu
      | some y =>
      rw [eu] at hu
      cases (Option.some.inj hu)
      have hi : i < (row nm x).length := (List.getElem?_eq_some_iff.mp eu).1
      have hy : y ∈ row nm x := List.mem_of_getElem? eu
      have et : (row nm x).take (i + 1) = (row nm x).take i ++ [y] := by rw [List.take_add_one, eu]; rfl
      have hs : ∀ z, z ∈ (row nm x).take i → z < y := by
        intro z hz
        have hup2 : ((row nm x).take (i + 1)).Pairwise (· < ·) := hup.2.sublist (List.take_sublist _ _)
        rw [et] at hup2
        exact (List.pairwise_append.mp hup2).2.2 z hz y (by simp)
      walk_at "rd"
      refine rd_ite (fun h7 => ?_) (fun h7 => ?_)
      · have ey : y = f := by omega
        subst ey
        walk_at "rd"
        exact q pa p H6 (.inr (I.found hw hy)) ha E6 hpa6
      · have ny : y ≠ f := fun z => h7 (by rw [z])
        walk_at "rd"
        refine rd_dinI hdl6 ?_
        rw [hks6.2 y]
        walk_at "rd"
        refine rd_iteN (fun h8 => ?_) (fun h8 => ?_)
        · walk_at "rd"
          have hRl : R'.length < nm.length := by
            have := nodup_lt (n := nm.length) (l := R' ++ [y]) (by
              rw [List.nodup_append]
              refine ⟨I6.nd, by simp, fun a ha b hb => ?_⟩
              have e : b = y := by simpa using hb
              subst e
              rintro rfl
              exact h8 ha) (fun z hz => by
              rcases List.mem_append.mp hz with hz | hz
              · exact hlt6 z hz
              · have e : z = y := by simpa using hz
                subst e
                exact hup.1 z hy)
            rw [List.length_append] at this
            exact this
          refine rd_dputI hdl6 (by rw [hks6.1]; omega) ?_
          generalize eH : upd H6 dl _ = H7
          have h7d : H7 dl = some (.dK (putK kvs (ik y) (.bl true))) := by rw [← eH]; exact upd_same
          have k7 : ∀ b, b ≠ dl → H7 b = H6 b := fun b hb => by rw [← eH, upd_ne hb]
          have E7 : Ex H H7 := by rw [← eH]; exact ex_new hdlH E6
          clear eH
          have nl7 : ∀ a xs, H6 a = some (.lst xs) → a ≠ dl := by
            rintro a xs h rfl
            rw [hdl6] at h; cases h
          have hpl7 : H7 pl = some (.lst (as'.map V.ref)) := by rw [k7 pl (nl7 _ _ hpl6)]; exact hpl6
          have hpa7 : H7 pa = some (.lst (p.map iv)) := by rw [k7 pa (nl7 _ _ hpa6)]; exact hpa6
          walk_at "rd"
          refine new_lst fun p8 H8 hp8 E8 h8l => ?_
          have lnp : p.length ≤ 41 := by
            have h1 := I6.pl
            have h2 := I6.ln
            rw [List.length_append, List.length_append] at h2
            have : R'.length ≤ nm.length := by omega
            show p.length ≤ 41
            omega
          refine rd_addL (E8 _ _ hpa7) h8l (by rw [List.length_map]; show _ + 1 ≤ 1000; omega) fun p9 H9 hp9 E9 h9 => ?_
          walk_at "rd"
          have hpl9 : H9 pl = some (.lst (as'.map V.ref)) := E9 _ _ (E8 _ _ hpl7)
          have las : as'.length ≤ 41 := by
            rw [hpt6.len]
            have h2 := I6.ln
            rw [List.length_append] at h2
            omega
          refine rd_append hpl9 (by rw [List.length_map]; omega) ?_
          walk_at "rd"
          have E79 : Ex H7 H9 := E8.trans E9
          have npl9 : p9 ≠ pl := by rintro rfl; rw [E8 _ _ hpl7] at hp9; cases hp9
          have hp9H : H p9 = none := free_of (E7.trans E8) hp9
          refine ⟨A ++ [p ++ [y]], R' ++ [y], as' ++ [p9], _, by rw [et]; exact I6.new hw hy hs ny h8, ex_new hplH (E7.trans E79), by rw [upd_same, List.map_append]; rfl, ?_, ⟨_, ?_, hks6.snoc (v := .bl true) h8⟩, fun z hz => ?_, ?_, rfl, ?_⟩
          · rw [← List.append_assoc]
            refine Pths.snoc hp9H npl9 (by rw [upd_ne npl9, h9, List.map_append]; rfl) (hpt6.mv fun a xs ha h => ?_)
            rw [upd_ne ha]
            refine E79 _ _ ?_
            rw [k7 a (nl7 _ _ h)]
            exact h
          · rw [upd_ne (nl7 _ _ hpl6).symm]
            exact E79 _ _ h7d
          · rcases List.mem_append.mp hz with hz | hz
            · exact hlt6 z hz
            · have e : z = y := by simpa using hz
              subst e
              exact hup.1 z hy
          · rw [upd_ne hne]
            exact E79 _ _ hpa7
          · have e1 : (R' ++ [y]).length = R'.length + 1 := by rw [List.length_append]; rfl
            have e2 : (Qs ++ (A ++ [p ++ [y]])).length = (Qs ++ A).length + 1 := by rw [← List.append_assoc, List.length_append]; rfl
            rw [e1, e2]
            omega
        · walk_at "rd"
          exact ⟨A, R', as', _, by rw [et]; exact I6.old hs ny h8, E6, hpl6, hpt6, ⟨kvs, hdl6, hks6⟩, hlt6, hpa6, rfl, hm6⟩
    · rintro σ H6 ⟨A, R', as', y0, I6, E6, hpl6, hpt6, hd6, hlt6, hpa6, rfl, hm6⟩
      walk_at "rd"
      rw [List.length_map, List.take_length] at I6
      exact ⟨_, hm6, D ++ [p], Qs ++ A, R', _, _, I6.close hw fun y hy => hy, ⟨E6, ⟨as', hpl6, hpt6⟩, hd6, hlt6⟩, rfl, rfl⟩
def spRingOf (K : PySem.W.Frag) : Sp := sp1 fun a H Q => ∃ l vs ts sz, a = .ref l ∧ SqL K H l vs ∧ TvA K H vs ts ∧ (∀ t ∈ ts, isRule sz 8 t = true) ∧ ts.length ≤ 40 ∧ ∀ p r H', Best (nmOf ts) ts.length r → H p = none → Ex H H' → H' p = some (.lst (r.map iv)) → Q (.ref p) H'
theorem k_ring_of (T : Tx K w mg) (c__lines_named : Cal P w K mg base "_lines_named" 11 p_lines_named (spLinesNamed K)) (c__ring_from : Cal P w K mg base "_ring_from" 1 p_ring_from (spRingFrom K)) : Cal P w K mg base "ring_of" 12 pring_of (spRingOf K) := by
  refine cal1 T.F_ring_of scring_of bring_of rfl fun g cdv A outer s H a Q E hr h => ?_
  obtain ⟨l, vs, ts, sz, rfl, hl, hts, hru, hn, q⟩ := h
  refine ⟨_, (pss_cons (ps_set (i := 1) (scring_of).nd rfl (by first | exact Or.inl rfl | exact Or.inr rfl) (pe_cal c__lines_named (hr.mono (by omega)) (pa_cons (pv 0) pa_nil))) (pss_cons (ps_set (i := 2) (scring_of).nd rfl (by first | exact Or.inl rfl | exact Or.inr rfl) (pe_lst pa_nil)) (pss_cons (ps_for PassesOwn.never rfl (pi_range1 (by rfl) T.m_range (pa_cons (pe_callB cr_lenA (by rfl) T.m_len (by decide +kernel) (pa_cons (pv 1) pa_nil)) pa_nil)) (pg_name (i := 3) (scring_of).nd rfl (by first | exact Or.inl rfl | exact Or.inr rfl)) (pss_cons (ps_set (i := 4) (scring_of).nd rfl (by first | exact Or.inl rfl | exact Or.inr rfl) (pe_cal c__ring_from (hr.mono (by omega)) (pa_cons (pv 1) (pa_cons (pv 3) pa_nil)))) (pss_one (ps_if (PW.pt (pw_and (pt_tru (pv 4)) (pw_and1 (PW.pt (pw_or (pt_not (pt_tru (pv 2))) (pw_or1 (pt_cmpR op_lt (pe_callB cr_lenA (by rfl) T.m_len (by decide +kernel) (pa_cons (pv 4) pa_nil)) (pe_callB cr_lenA (by rfl) T.m_len (by decide +kernel) (pa_cons (pv 2) pa_nil)) (nomark _)))))))) (pss_one (ps_set (i := 2) (scring_of).nd rfl (by first | exact Or.inl rfl | exact Or.inr rfl) (pv 4))) pss_nil)))) (pss_one (ps_ret (pv 2)))))), ?_⟩
  rw [tring_of]
  try dsimp only [cxOf, Cx.nox, Cx.wish]
  walk_at "rd"
  refine rd_sp1 ⟨l, vs, ts, sz, rfl, hl, hts, hru, hn, fun nl H1 hnm hnl E1 => ?_⟩
  walk_at "rd"
  refine new_lst fun s0 H2 hs0 E2 h2 => ?_
  walk_at "rd"
  obtain ⟨as, hnl1, las, _⟩ := id hnm
  rw [nmOf_len] at las
  refine rd_lenL (.of (E2 _ _ hnl1)) ?_
  rw [List.length_map, las]
  walk_at "rd"
  refine forW_R (fun i σ H' => ∃ acc sa x y, Best (nmOf ts) i acc ∧ σ = [some (.ref l), some (.ref nl), some (.ref sa), x, y] ∧ Ex H1 H' ∧ H sa = none ∧ H' sa = some (.lst (acc.map iv))) ?_ ?_ ?_
  · exact ⟨[], s0, _, _, .zero, rfl, E2, free_of E1 hs0, h2⟩
  · rintro i σ H3 hi ⟨acc, sa, x0, y0, hb, rfl, E3, hsa, h3⟩
    have ei : (0 : Int) + (i : Int) = ((i : Nat) : Int) := by omega
    rw [ei]
    rw [Int.toNat_natCast] at hi
    walk_at "rd"
    refine rd_sp2 ⟨nl, nmOf ts, i, rfl, rfl, hnm.ex E3, rows_nmOf ts, by rw [nmOf_len]; exact hi, by rw [nmOf_len]; exact hn, fun p r H4 hbst hp E4 h4 => ?_⟩
    walk_at "rd"
    have hb' : Best (nmOf ts) (i + 1) (better acc r) := .succ hb hbst
    have h34 : H4 sa = some (.lst (acc.map iv)) := E4 _ _ h3
    refine rd_truL (.of h4) ?_
    have keep : r = [] ∨ (r ≠ [] ∧ acc ≠ [] ∧ ¬ r.length < acc.length) → better acc r = acc := by
      unfold better
      rintro (e | ⟨_, e2, e3⟩)
      · rw [if_neg (fun z => z.1 e)]
      · rw [if_neg (fun z => z.2.elim e2 e3)]
    have take : r ≠ [] → (acc = [] ∨ r.length < acc.length) → better acc r = r := fun a b => by unfold better; rw [if_pos ⟨a, b⟩]
    have fin : ∀ (e : better acc r = acc), ∃ acc' sa' x y, Best (nmOf ts) (i + 1) acc' ∧ [some (.ref l), some (.ref nl), some (.ref sa), some (iv i), some (.ref p)] = [some (.ref l), some (.ref nl), some (.ref sa'), x, y] ∧ Ex H1 H4 ∧ H sa' = none ∧ H4 sa' = some (.lst (acc'.map iv)) :=
      fun e => ⟨acc, sa, _, _, by rw [e] at hb'; exact hb', rfl, E3.trans E4, hsa, h34⟩
    have fin2 : ∀ (e : better acc r = r), ∃ acc' sa' x y, Best (nmOf ts) (i + 1) acc' ∧ [some (.ref l), some (.ref nl), some (.ref p), some (iv i), some (.ref p)] = [some (.ref l), some (.ref nl), some (.ref sa'), x, y] ∧ Ex H1 H4 ∧ H sa' = none ∧ H4 sa' = some (.lst (acc'.map iv)) :=
      fun e => ⟨r, p, _, _, by rw [e] at hb'; exact hb', rfl, E3.trans E4, free_of (E1.trans E3) hp, h4⟩
    cases er : r with
    | nil =>
      rw [List.map_nil]
      walk_at "rd"
      exact fin (keep (.inl er))
    | cons r0 rs =>
      rw [List.map_cons]
      walk_at "rd"
      refine rd_truL (.of h34) ?_
      cases ea : acc with
      | nil =>
        rw [List.map_nil]
        walk_at "rd"
        exact fin2 (take (by rw [er]; simp) (.inl ea))
      | cons a0 acc0 =>
        rw [List.map_cons]
        walk_at "rd"
        refine rd_lenL (.of h4) ?_
        walk_at "rd"
        refine rd_lenL (.of h34) ?_
        walk_at "rd"
        rw [List.length_map, List.length_map]
        refine rd_ite (fun h5 => ?_) (fun h5 => ?_)
        · walk_at "rd"
          exact fin2 (take (by rw [er]; simp) (.inr (by omega)))
        · walk_at "rd"
          exact fin (keep (.inr ⟨by rw [er]; simp, by rw [ea]; simp, by omega⟩))
  · rintro σ H3 ⟨acc, sa, x0, y0, hb, rfl, E3, hsa, h3⟩
    walk_at "rd"
    exact q sa acc H3 hb hsa (E1.trans E3) h3
end
end KF
open PySem PySem.Spec PyProof.Rows L2 Qa Qr
open Qg


namespace KF
section
variable {P : Program} {w : World} {K : PySem.W.Frag} {mg : Str → Option Value} {base : Heap} {H : Hp} {Q : VK} {E : XK}
/-! drawn lines -/
theorem num_nat (k : Nat) (h : k ≤ 1000) : isNum (.int (k : Int)) = true := by
  show (decide ((-1000000000 : Int) ≤ k) && decide ((k : Int) ≤ 1000000000)) = true
  simp; omega
theorem place_nat {i n : Int} (h : 0 ≤ i) (h' : i < n) : isPlace (.int i) n = true := by
  show (decide (0 ≤ i) && decide (i ≤ n - 1)) = true
  simp; omega
def spLine (K : PySem.W.Frag) : Sp := sp2 fun a b H Q => ∃ l n, a = .ref l ∧ b = .int n ∧ (∃ s, H l = some (.lst [.int s])) ∧ 0 < n ∧ ∀ v t H', Tv K H' v t → isRule ⟨n, 0, 1⟩ 4 t = true → St1 l H H' → Q v H'
theorem k__law_line (T : Tx K w mg) (c__law_next : Cal P w K mg base "_law_next" 1 p_law_next (spNext K)) : Cal P w K mg base "_law_line" 2 p_law_line (spLine K) := by
  refine cal2 T.F__law_line sc_law_line b_law_line rfl fun g cdv A outer s H a b Q E hr h => ?_
  obtain ⟨l, n, rfl, rfl, hl, hn, q⟩ := h
  refine ⟨_, (pss_cons (ps_set (i := 2) (sc_law_line).nd rfl (by first | exact Or.inl rfl | exact Or.inr rfl) (pe_tup (pa_cons pe_str (pa_cons pe_str pa_nil)))) (pss_cons (ps_for PassesOwn.never rfl (pi_range1 (by rfl) T.m_range (pa_cons (pe_ix ix_seq (pe_lst (pa_cons pe_int (pa_cons pe_int (pa_cons pe_int (pa_cons pe_int (pa_cons pe_int pa_nil)))))) (pe_cal c__law_next (hr.mono (by omega)) (pa_cons (pv 0) (pa_cons pe_int pa_nil))) (fun _ _ => rfl)) pa_nil)) (pg_name (i := 3) (sc_law_line).nd rfl (by first | exact Or.inl rfl | exact Or.inr rfl)) (pss_cons (ps_set (i := 4) (sc_law_line).nd rfl (by first | exact Or.inl rfl | exact Or.inr rfl) (pe_ix ix_seq (pe_lst (pa_cons (pe_tup (pa_cons pe_str (pa_cons (pe_cal c__law_next (hr.mono (by omega)) (pa_cons (pv 0) (pa_cons (pv 1) pa_nil))) pa_nil))) (pa_cons (pe_tup (pa_cons pe_str (pa_cons (pe_cal c__law_next (hr.mono (by omega)) (pa_cons (pv 0) (pa_cons (pv 1) pa_nil))) pa_nil))) pa_nil))) (pe_callTy cr_int1 (by rfl) T.m_int (by decide +kernel) (pa_cons (pe_cmpR (op_eqA hr) (pe_cal c__law_next (hr.mono (by omega)) (pa_cons (pv 0) (pa_cons pe_int pa_nil))) pe_int (nomark _)) pa_nil)) (fun _ _ => rfl))) (pss_one (ps_set (i := 2) (sc_law_line).nd rfl (by first | exact Or.inl rfl | exact Or.inr rfl) (pe_ix ix_seq (pe_lst (pa_cons (pe_tup (pa_cons pe_str (pa_cons (pv 2) (pa_cons (pv 4) pa_nil)))) (pa_cons (pe_tup (pa_cons pe_str (pa_cons (pv 4) (pa_cons (pe_tup (pa_cons pe_str (pa_cons pe_int pa_nil))) (pa_cons (pv 2) pa_nil))))) (pa_cons (pe_tup (pa_cons pe_str (pa_cons pe_int (pa_cons (pv 4) (pa_cons (pv 2) pa_nil))))) pa_nil)))) (pe_cal c__law_next (hr.mono (by omega)) (pa_cons (pv 0) (pa_cons pe_int pa_nil))) (fun _ _ => rfl)))))) (pss_one (ps_ret (pv 2))))), ?_⟩
  rw [t_law_line]
  try dsimp only [cxOf, Cx.nox, Cx.wish]
  walk_at "rd"
  refine new_tup fun p0 H1 hp0 E1 h1 => ?_
  walk_at "rd"
  refine new_lst fun p1 H2 hp1 E2 h2 => ?_
  walk_at "rd"
  refine nx (sta_ex (sta_ex hl E1) E2) (by decide) fun r3 H3 a3 b3 S3 => ?_
  walk_at "rd"
  have S03 : St1 l H H3 := (St1.ex hl (E1.trans E2)).trans S3
  have h23 : H3 p1 = _ := S3.fr p1 _ (ne_st (sta_ex hl E1) hp1) h2
  refine rd_ixLm (.of h23) a3 (by simpa using b3) fun v hv => ?_
  obtain ⟨m, rfl, m0, m1⟩ : ∃ m : Int, v = .int m ∧ 0 ≤ m ∧ m ≤ 3 := by
    simp only [List.mem_cons, List.not_mem_nil, or_false] at hv
    rcases hv with rfl | rfl | rfl | rfl | rfl <;> exact ⟨_, rfl, by decide, by decide⟩
  walk_at "rd"
  have tv3 : Tv K H3 (.ref p0) (.tup [.str "paper", .str "a"]) := tv_st (tv_ex (.tup (.of h1) (.cons (.str _ (by decide)) (.cons (.str _ (by decide)) .nil))) E2) S3
  refine forW_R (fun i σ H' => ∃ v t y z, σ = [some (.ref l), some (.int n), some v, y, z] ∧ Tv K H' v t ∧ isRule ⟨n, 0, 1⟩ (i + 1) t = true ∧ St1 l H H') ?_ ?_ ?_
  · refine ⟨_, _, _, _, rfl, tv3, ?_, S03⟩
    rw [R_paper]
    decide
  · rintro i σ H4 hi ⟨v, t, y, z, rfl, tv, hru, S4⟩
    walk_at "rd"
    refine nx S4.st hn fun r5 H5 a5 b5 S5 => ?_
    walk_at "rd"
    refine new_tup fun p6 H6 hp6 E6 h6 => ?_
    walk_at "rd"
    refine nx (sta_ex S5.st E6) hn fun r7 H7 a7 b7 S7 => ?_
    walk_at "rd"
    refine new_tup fun p8 H8 hp8 E8 h8 => ?_
    walk_at "rd"
    refine new_lst fun p9 H9 hp9 E9 h9 => ?_
    walk_at "rd"
    refine nx (sta_ex (sta_ex S7.st E8) E9) (by decide) fun r10 H10 a10 b10 S10 => ?_
    walk_at "rd"
    have n9 : p9 ≠ l := ne_st (sta_ex S7.st E8) hp9
    have S5' : St1 l H H5 := S4.trans S5
    have S7' : St1 l H5 H7 := (St1.ex S5.st E6).trans S7
    have S9' : St1 l H7 H9 := (St1.ex S7.st E8).trans (.ex (sta_ex S7.st E8) E9)
    have h910 : H10 p9 = _ := S10.fr p9 _ n9 h9
    have S10' : St1 l H H10 := ((S5'.trans S7').trans S9').trans S10
    have S410 : St1 l H4 H10 := ((S5.trans S7').trans S9').trans S10
    refine rd_ixLm (.of h910) (by split <;> decide) (by split <;> simp) fun u hu => ?_
    obtain ⟨t1, tu, hru1⟩ : ∃ t1, Tv K H10 u t1 ∧ isRule ⟨n, 0, 1⟩ 1 t1 = true := by
      simp only [List.mem_cons, List.not_mem_nil, or_false] at hu
      rcases hu with rfl | rfl
      · refine ⟨.tup [.str "line", .int r5], .tup (sqt_st (sqt_st (sqt_st (.of h6) S7) S9') S10) (.cons (.str _ (by decide)) (.cons (.int _) .nil)), ?_⟩
        rw [R_line]
        exact place_nat a5 b5
      · refine ⟨.tup [.str "earlier", .int r7], .tup (sqt_st (sqt_ex (.of h8) E9) S10) (.cons (.str _ (by decide)) (.cons (.int _) .nil)), ?_⟩
        rw [R_earlier]
        exact place_nat a7 b7
    have hru1' : isRule ⟨n, 0, 1⟩ (i + 1) t1 = true := isRule_mono hru1 (by omega)
    have tv10 : Tv K H10 v t := tv_st tv S410
    walk_at "rda"
    rename_i q1 G1 hq1 F1 g1 q2 G2 hq2 F2 g2 q3 G3 hq3 F3 g3 q4 G4 hq4 F4 g4 q5 G5 hq5 F5 g5
    refine nx (by walk_at "sta") (by decide) fun r11 H11 a11 b11 S11 => ?_
    walk_at "rd"
    have F14 : Ex H10 G4 := ((F1.trans F2).trans F3).trans F4
    have F15 : Ex H10 G5 := F14.trans F5
    have sG4 : ∃ s, G4 l = some (.lst [.int s]) := sta_ex S10.st F14
    have h11 : H11 q5 = _ := S11.fr q5 _ (ne_st sG4 hq5) g5
    have ST : St1 l H10 H11 := (St1.ex S10.st F15).trans S11
    have tv11 := tv_st tv10 ST
    have tu11 := tv_st tu ST
    have s1 : SqT K H11 q1 [.str "add", v, u] := sqt_st (sqt_ex (.of g1) (((F2.trans F3).trans F4).trans F5)) S11
    have s2 : SqT K H11 q2 [.str "number", .int 7] := sqt_st (sqt_ex (.of g2) ((F3.trans F4).trans F5)) S11
    have s3 : SqT K H11 q3 [.str "where", u, .ref q2, v] := sqt_st (sqt_ex (.of g3) (F4.trans F5)) S11
    have s4 : SqT K H11 q4 [.str "choose", .int 0, u, v] := sqt_st (sqt_ex (.of g4) F5) S11
    refine rd_ixLm (.of h11) a11 (by simpa using b11) fun x hx => ?_
    obtain ⟨t2, tx, hru2⟩ : ∃ t2, Tv K H11 x t2 ∧ isRule ⟨n, 0, 1⟩ (i + 1 + 1) t2 = true := by
      simp only [List.mem_cons, List.not_mem_nil, or_false] at hx
      rcases hx with rfl | rfl | rfl
      · refine ⟨_, .tup s1 (.cons (.str _ (by decide)) (.cons tv11 (.cons tu11 .nil))), ?_⟩
        rw [(R_two _ _ _ _ (by decide)).2]
        simp [hru, hru1']
      · refine ⟨_, .tup s3 (.cons (.str _ (by decide)) (.cons tu11 (.cons (.tup s2 (.cons (.str _ (by decide)) (.cons (.int _) .nil))) (.cons tv11 .nil)))), ?_⟩
        rw [R_where]
        have e7 : isRule ⟨n, 0, 1⟩ (i + 1) (.tup [.str "number", .int 7]) = true := by rw [R_number]; decide
        simp [hru, hru1', e7]
      · refine ⟨_, .tup s4 (.cons (.str _ (by decide)) (.cons (.int _) (.cons tu11 (.cons tv11 .nil)))), ?_⟩
        rw [R_choose, hru, hru1', place_nat (by decide) (show (0 : Int) < 1 by decide)]
        rfl
    walk_at "rd"
    exact ⟨_, _, _, _, rfl, tx, hru2, S10'.trans ST⟩
  · rintro σ H4 ⟨v, t, y, z, rfl, tv, hru, S4⟩
    walk_at "rd"
    exact q v t H4 tv (isRule_mono hru (by omega)) S4
def cntP (p c : Int) : Nat → Nat
  | 0 => 0
  | j + 1 => cntP p c j + if (j : Int) % p = c then 1 else 0
theorem cntP_two (c : Int) {p : Int} (hp : p = 2 ∨ p = 3) : ∀ j : Nat, 2 * cntP p c j ≤ j + 1 ∧ ((j : Int) % p = c → 2 * cntP p c j ≤ j)
  | 0 => ⟨by simp [cntP], fun _ => by simp [cntP]⟩
  | j + 1 => by
    obtain ⟨h1, h2⟩ := cntP_two c hp j
    show 2 * (cntP p c j + if (j : Int) % p = c then 1 else 0) ≤ j + 1 + 1 ∧ (((j + 1 : Nat) : Int) % p = c → 2 * (cntP p c j + if (j : Int) % p = c then 1 else 0) ≤ j + 1)
    split
    · rename_i e
      have := h2 e
      refine ⟨by omega, fun e' => ?_⟩
      rcases hp with rfl | rfl <;> omega
    · exact ⟨by omega, fun _ => by omega⟩
def spParted (K : PySem.W.Frag) : Sp := sp2 fun a b H Q => ∃ (l : Addr) (n : Nat), a = .ref l ∧ b = .int (n : Int) ∧ (∃ s, H l = some (.lst [.int s])) ∧ n ≤ 8 ∧ ∀ p vs ts H', H' p = some (.lst vs) → TvA K H' vs ts → ts.length = n → (∀ t ∈ ts, isRule ⟨n, 0, 1⟩ 8 t = true) → Q (.ref p) H'
theorem k__law_parted (T : Tx K w mg) (c__law_next : Cal P w K mg base "_law_next" 1 p_law_next (spNext K)) : Cal P w K mg base "_law_parted" 2 p_law_parted (spParted K) := by
  refine cal2 T.F__law_parted sc_law_parted b_law_parted rfl fun g cdv A outer s H a b Q E hr h => ?_
  obtain ⟨l, n, rfl, rfl, hl, hn, q⟩ := h
  refine ⟨_, (pss_cons (ps_set (i := 2) (sc_law_parted).nd rfl (by first | exact Or.inl rfl | exact Or.inr rfl) (pe_op op_addA pe_int (pe_cal c__law_next (hr.mono (by omega)) (pa_cons (pv 0) (pa_cons pe_int pa_nil))))) (pss_cons (ps_set (i := 3) (sc_law_parted).nd rfl (by first | exact Or.inl rfl | exact Or.inr rfl) (pe_lst pa_nil)) (pss_cons (ps_for PassesOwn.never rfl (pi_range1 (by rfl) T.m_range (pa_cons (pv 1) pa_nil)) (pg_name (i := 4) (sc_law_parted).nd rfl (by first | exact Or.inl rfl | exact Or.inr rfl)) (pss_cons (ps_set (i := 5) (sc_law_parted).nd rfl (by first | exact Or.inl rfl | exact Or.inr rfl) (pe_tup (pa_cons pe_str (pa_cons (pv 4) pa_nil)))) (pss_cons (ps_for PassesOwn.never rfl (pi_range1 (by rfl) T.m_range (pa_cons (pv 1) pa_nil)) (pg_name (i := 6) (sc_law_parted).nd rfl (by first | exact Or.inl rfl | exact Or.inr rfl)) (pss_one (ps_if (PW.pt (pw_and (pt_cmpR (op_eqA hr) (pe_op op_mod (pv 6) (pv 2)) (pe_op op_mod (pe_op op_addA (pv 4) pe_int) (pv 2)) (nomark _)) (pw_and1 (pt_cmpR op_gt (pe_cal c__law_next (hr.mono (by omega)) (pa_cons (pv 0) (pa_cons pe_int pa_nil))) pe_int (nomark _))))) (pss_one (ps_set (i := 5) (sc_law_parted).nd rfl (by first | exact Or.inl rfl | exact Or.inr rfl) (pe_ix ix_seq (pe_lst (pa_cons (pe_tup (pa_cons pe_str (pa_cons (pv 5) (pa_cons (pe_tup (pa_cons pe_str (pa_cons (pv 6) pa_nil))) pa_nil)))) (pa_cons (pe_tup (pa_cons pe_str (pa_cons (pe_tup (pa_cons pe_str (pa_cons (pv 6) pa_nil))) (pa_cons (pv 5) pa_nil)))) pa_nil))) (pe_cal c__law_next (hr.mono (by omega)) (pa_cons (pv 0) (pa_cons pe_int pa_nil))) (fun _ _ => rfl)))) pss_nil))) (pss_one (ps_expr (pe_bm PySem.F.plainAttrs_list PySem.F.slot_list_append PySem.F.type_list_append mt_append (pv 3) (pa_cons (pv 5) pa_nil))))))) (pss_one (ps_ret (pv 3)))))), ?_⟩
  rw [t_law_parted]
  try dsimp only [cxOf, Cx.nox, Cx.wish]
  walk_at "rd"
  refine nx hl (by decide) fun r1 H1 a1 b1 S1 => ?_
  walk_at "rd"
  refine new_lst fun lp H2 hlp E2 h2 => ?_
  have hp : 2 + r1 = 2 ∨ 2 + r1 = 3 := by omega
  generalize 2 + r1 = p at hp
  have hpp : 0 < p := by omega
  have nlp : lp ≠ l := ne_st S1.st hlp
  have hlpH : H lp = none := S1.free hlp
  have S2 : St1 l H H2 := S1.trans (.ex S1.st E2)
  walk_at "rd"
  refine forW_R (fun i σ H' => ∃ vs ts x y z, σ = [some (.ref l), some (.int n), some (.int p), some (.ref lp), x, y, z] ∧ H' lp = some (.lst vs) ∧ TvA K H' vs ts ∧ ts.length = i ∧ (∀ t ∈ ts, isRule ⟨n, 0, 1⟩ 8 t = true) ∧ St1 l H H') ?_ ?_ ?_
  · exact ⟨[], [], _, _, _, rfl, h2, .nil, rfl, (fun t h => by cases h), S2⟩
  · rintro i σ H3 hi ⟨vs, ts, x, y, z, rfl, h3, tv3, lts, hru, S3⟩
    walk_at "rd"
    refine new_tup fun p4 H4 hp4 E4 h4 => ?_
    walk_at "rd"
    have ei : (0 : Int) + (i : Int) = ((i : Nat) : Int) := by omega
    rw [ei] at h4
    refine forW_R (fun j σ H' => ∃ v t z, σ = [some (.ref l), some (.int n), some (.int p), some (.ref lp), some (.int (0 + (i : Int))), some v, z] ∧ H' lp = some (.lst vs) ∧ TvA K H' vs ts ∧ Tv K H' v t ∧ isRule ⟨n, 0, 1⟩ (1 + cntP p ((0 + (i : Int) + 1) % p) j) t = true ∧ St1 l H H') ?_ ?_ ?_
    · refine ⟨_, .tup [.str "number", .int i], _, rfl, E4 _ _ h3, tva_ex tv3 E4, .tup (.of h4) (.cons (.str _ (by decide)) (.cons (.int _) .nil)), ?_, S3.trans (.ex S3.st E4)⟩
      rw [show 1 + cntP p ((0 + (i : Int) + 1) % p) 0 = 0 + 1 from rfl, R_number]
      exact num_nat i (by omega)
    · rintro j σ H5 hj ⟨v, t, z, rfl, h5, tvs5, tv5, hru5, S5⟩
      have ej : (0 : Int) + (j : Int) = ((j : Nat) : Int) := by omega
      rw [ej]
      walk_at "rd"
      have keep : ∀ H6, St1 l H5 H6 → ∃ v' t' z, [some (.ref l), some (.int n), some (.int p), some (.ref lp), some (.int (0 + (i : Int))), some v, some (V.int (j : Int))] = [some (.ref l), some (.int n), some (.int p), some (.ref lp), some (.int (0 + (i : Int))), some v', z] ∧ H6 lp = some (.lst vs) ∧ TvA K H6 vs ts ∧ Tv K H6 v' t' ∧ isRule ⟨n, 0, 1⟩ (1 + cntP p ((0 + (i : Int) + 1) % p) (j + 1)) t' = true ∧ St1 l H H6 :=
        fun H6 S6 => ⟨v, t, _, rfl, lst_st h5 S6 nlp, tva_st tvs5 S6, tv_st tv5 S6, isRule_mono hru5 (by show _ ≤ 1 + (cntP _ _ j + _); omega), S5.trans S6⟩
      refine rd_ite (fun h6 => ?_) (fun h6 => ?_)
      · walk_at "rd"
        refine nx S5.st (by decide) fun r6 H6 a6 b6 S6 => ?_
        walk_at "rd"
        refine rd_ite (fun h7 => ?_) (fun h7 => ?_)
        · walk_at "rda"
          rename_i q1 G1 hq1 F1 g1 q2 G2 hq2 F2 g2 q3 G3 hq3 F3 g3 q4 G4 hq4 F4 g4 q5 G5 hq5 F5 g5
          have F14 : Ex H6 G4 := ((F1.trans F2).trans F3).trans F4
          have F15 : Ex H6 G5 := F14.trans F5
          have sG4 : ∃ s, G4 l = some (.lst [.int s]) := sta_ex S6.st F14
          refine nx (sta_ex sG4 F5) (by decide) fun r8 H8 a8 b8 S8 => ?_
          walk_at "rd"
          have h8 : H8 q5 = _ := S8.fr q5 _ (ne_st sG4 hq5) g5
          have ST : St1 l H5 H8 := (S6.trans (St1.ex S6.st F15)).trans S8
          have tv8 := tv_st tv5 ST
          have s1 : SqT K H8 q1 [.str "line", .int j] := sqt_st (sqt_ex (.of g1) (((F2.trans F3).trans F4).trans F5)) S8
          have s2 : SqT K H8 q2 [.str "add", v, .ref q1] := sqt_st (sqt_ex (.of g2) ((F3.trans F4).trans F5)) S8
          have s3 : SqT K H8 q3 [.str "line", .int j] := sqt_st (sqt_ex (.of g3) (F4.trans F5)) S8
          have s4 : SqT K H8 q4 [.str "take", .ref q3, v] := sqt_st (sqt_ex (.of g4) F5) S8
          have hln : isRule ⟨n, 0, 1⟩ (1 + cntP p ((0 + (i : Int) + 1) % p) j) (.tup [.str "line", .int j]) = true := by
            refine isRule_mono (n := 0 + 1) ?_ (by omega)
            rw [R_line]
            exact place_nat (by omega) (by rw [Int.toNat_natCast] at hj; show (j : Int) < (n : Int); omega)
          have hc : 1 + cntP p ((0 + (i : Int) + 1) % p) (j + 1) = (1 + cntP p ((0 + (i : Int) + 1) % p) j) + 1 := by
            show 1 + (cntP _ _ j + ite _ 1 0) = _
            rw [if_pos h6]
            omega
          refine rd_ixLm (.of h8) a8 (by simpa using b8) fun x hx => ?_
          obtain ⟨t2, tx, hru2⟩ : ∃ t2, Tv K H8 x t2 ∧ isRule ⟨n, 0, 1⟩ (1 + cntP p ((0 + (i : Int) + 1) % p) (j + 1)) t2 = true := by
            rw [hc]
            simp only [List.mem_cons, List.not_mem_nil, or_false] at hx
            rcases hx with rfl | rfl
            · refine ⟨_, .tup s2 (.cons (.str _ (by decide)) (.cons tv8 (.cons (.tup s1 (.cons (.str _ (by decide)) (.cons (.int _) .nil))) .nil))), ?_⟩
              rw [(R_two _ _ _ _ (by decide)).2]
              rw [List.all_cons, List.all_cons, List.all_nil, hru5, hln]
              rfl
            · refine ⟨_, .tup s4 (.cons (.str _ (by decide)) (.cons (.tup s3 (.cons (.str _ (by decide)) (.cons (.int _) .nil))) (.cons tv8 .nil))), ?_⟩
              rw [(R_two _ _ _ _ (by decide)).2]
              rw [List.all_cons, List.all_cons, List.all_nil, hru5, hln]
              rfl
          walk_at "rd"
          exact ⟨_, _, _, rfl, lst_st h5 ST nlp, tva_st tvs5 ST, tx, hru2, S5.trans ST⟩
        · walk_at "rd"
          exact keep H6 S6
      · walk_at "rd"
        exact keep H5 (.refl S5.st)
    · rintro σ H5 ⟨v, t, z, rfl, h5, tvs5, tv5, hru5, S5⟩
      walk_at "rd"
      refine rd_append h5 (by rw [tvs5.len]; omega) ?_
      walk_at "rd"
      have tm := Tame.upd (ys := vs ++ [v]) h5
      refine ⟨vs ++ [v], ts ++ [t], _, _, _, rfl, upd_same, tm.tvA (tvs5.append (.cons tv5 .nil)), by rw [List.length_append, lts]; rfl, fun t' ht' => ?_, S5.upd hlpH h5 nlp⟩
      rcases List.mem_append.mp ht' with h | h
      · exact hru t' h
      · have e : t' = t := by simpa using h
        subst e
        have := (cntP_two ((0 + (i : Int) + 1) % p) hp (n : Int).toNat).1
        exact isRule_mono hru5 (by omega)
  · rintro σ H3 ⟨vs, ts, x, y, z, rfl, h3, tv3, lts, hru, S3⟩
    walk_at "rd"
    exact q lp vs ts H3 h3 tv3 (by rw [lts]; omega) hru
end
end KF
open PySem PySem.Spec PyProof.Rows L2 Qa Qr
open Qg


namespace KF
section
variable {P : Program} {w : World} {K : PySem.W.Frag} {mg : Str → Option Value} {base : Heap} {H : Hp} {Q : VK} {E : XK}
def spBack (K : PySem.W.Frag) : Sp := sp2 fun a b H Q => ∃ nl nm f, a = .ref nl ∧ b = iv f ∧ NmAt H nl nm ∧ Rows nm ∧ nm.length ≤ 40 ∧ ∀ p kvs H', Ways nm f kvs → H p = none → Ex H H' → H' p = some (.dK kvs) → Q (.ref p) H'
theorem k__law_back (T : Tx K w mg) : Cal P w K mg base "_law_back" 1 p_law_back (spBack K) := by
  refine cal2 T.F__law_back sc_law_back b_law_back rfl fun g cdv A outer s H a b Q E hr h => ?_
  obtain ⟨nl, nm, f, rfl, rfl, hnm, hrows, hn, q⟩ := h
  refine ⟨_, (pss_cons (ps_set (i := 2) (sc_law_back).nd rfl (by first | exact Or.inl rfl | exact Or.inr rfl) pe_dnewK) (pss_cons (ps_set (i := 3) (sc_law_back).nd rfl (by first | exact Or.inl rfl | exact Or.inr rfl) (pe_lst (pa_cons (pv 1) pa_nil))) (pss_cons (ps_for PassesOwn.never rfl (pi_range2 (by rfl) T.m_range (pa_cons pe_int (pa_cons (pe_op op_addA (pe_callB cr_lenA (by rfl) T.m_len (by decide +kernel) (pa_cons (pv 0) pa_nil)) pe_int) pa_nil))) (pg_name (i := 4) (sc_law_back).nd rfl (by first | exact Or.inl rfl | exact Or.inr rfl)) (pss_cons (ps_set (i := 5) (sc_law_back).nd rfl (by first | exact Or.inl rfl | exact Or.inr rfl) (pe_lst pa_nil)) (pss_cons (ps_for PassesOwn.never rfl (pi_range1 (by rfl) T.m_range (pa_cons (pe_callB cr_lenA (by rfl) T.m_len (by decide +kernel) (pa_cons (pv 0) pa_nil)) pa_nil)) (pg_name (i := 6) (sc_law_back).nd rfl (by first | exact Or.inl rfl | exact Or.inr rfl)) (pss_one (ps_if (PW.pt (pw_and (pt_cmp (pc_dnotin (hu_of hr) (pv 6) (pv 2))) (pw_and1 (pt_tru (pe_callB (cr_any rfl) (by rfl) T.m_any (by decide +kernel) (pa_cons (pe_lc (own := [("_law_one", 7)]) rfl (sc_law_back).nd (pi_seq (pe_ix ix_seq (pv 0) (pv 6) (fun _ _ => rfl))) (blkOk_by (N := n_law_back) (sc := defScope s_law_back) (by decide +kernel)) (fun _ _ _ _ _ => (pg_name (i := 7) (sc_law_back).nd rfl (by first | exact Or.inl rfl | exact Or.inr rfl))) (fun _ _ _ _ _ => pts_nil) (fun _ _ _ _ _ => (pe_cmpR (inK (K := K) rfl) (pv 7) (pv 3) (by rfl)))) pa_nil)))))) (pss_cons (ps_dput (hu_of hr) (pv 2) (pv 6) (pv 4) rfl) (pss_one (ps_expr (pe_bm PySem.F.plainAttrs_list PySem.F.slot_list_append PySem.F.type_list_append mt_append (pv 5) (pa_cons (pv 6) pa_nil))))) pss_nil))) (pss_one (ps_set (i := 3) (sc_law_back).nd rfl (by first | exact Or.inl rfl | exact Or.inr rfl) (pv 5)))))) (pss_one (ps_ret (pv 2)))))), ?_⟩
  rw [t_law_back]
  try dsimp only [cxOf, Cx.nox, Cx.wish]
  obtain ⟨rs, hnl, lrs, hrs⟩ := hnm
  walk_at "rd"
  refine rd_dnew fun dl H1 hdl E1 h1 => ?_
  walk_at "rd"
  refine new_lst fun ra H2 hra E2 h2 => ?_
  walk_at "rd"
  refine rd_lenL (.of (E2 _ _ (E1 _ _ hnl))) ?_
  rw [List.length_map, lrs]
  walk_at "rd"
  refine rd_fr2 (by omega) ?_
  have en : (((nm.length : Int) + 1) - 1).toNat = nm.length := by omega
  rw [en]
  have hdl2 : H2 dl = some (.dK []) := E2 _ _ h1
  refine forW_R (fun i σ H' => ∃ (kvs : List (Key × V)) (ra : Addr) (r : List Nat), ∃ x y z u, σ = [some (.ref nl), some (iv f), some (.ref dl), some (.ref ra), x, y, z, u] ∧ Ex H H' ∧ H' dl = some (.dK kvs) ∧ WaysAt nm f (fun _ => i) kvs ∧ kvs.length ≤ 41 * i ∧ H' ra = some (.lst (r.map iv)) ∧ (∀ x, x ∈ r ↔ (i = 0 ∧ x = f) ∨ (1 ≤ i ∧ Dist nm f x i))) ?_ ?_ ?_
  · refine ⟨[], ra, [f], _, _, _, _, rfl, E1.trans E2, hdl2, fun k => .inr ⟨fun j hj d => ?_, rfl⟩, Nat.le_refl _, h2, fun x => ?_⟩
    · have := d.1
      have hj : j ≤ 0 := hj
      omega
    · simp
  · rintro i σ H3 hi ⟨kvs, ra, r, x0, y0, z0, u0, rfl, E3, hd3, hw3, lk3, hr3, hmr⟩
    walk_at "rd"
    refine new_lst fun lo H4 hlo E4 h4 => ?_
    walk_at "rd"
    refine rd_lenL (.of (E4 _ _ (E3 _ _ hnl))) ?_
    rw [List.length_map, lrs]
    walk_at "rd"
    have hloH : H lo = none := free_of E3 hlo
    have nld : lo ≠ dl := by rintro rfl; rw [hd3] at hlo; cases hlo
    have nlr : lo ≠ ra := by rintro rfl; rw [hr3] at hlo; cases hlo
    have nrd : ra ≠ dl := by rintro rfl; rw [hd3] at hr3; cases hr3
    refine forW_R (fun k0 σ H' => ∃ (kvs : List (Key × V)) (s : List Nat), ∃ z u, σ = [some (.ref nl), some (iv f), some (.ref dl), some (.ref ra), some (.int (1 + (i : Int))), some (.ref lo), z, u] ∧ Ex H H' ∧ H' dl = some (.dK kvs) ∧ WaysAt nm f (fun k => if k < k0 then i + 1 else i) kvs ∧ kvs.length ≤ 41 * i + k0 ∧ H' ra = some (.lst (r.map iv)) ∧ H' lo = some (.lst (s.map iv)) ∧ s.length ≤ k0 ∧ (∀ x, x ∈ s ↔ x < k0 ∧ Dist nm f x (i + 1))) ?_ ?_ ?_
    · refine ⟨kvs, [], _, _, rfl, E3.trans E4, E4 _ _ hd3, ?_, lk3, E4 _ _ hr3, h4, Nat.le_refl _, fun x => by simp⟩
      intro k
      have := hw3 k
      dsimp only at this ⊢
      rw [if_neg (Nat.not_lt_zero _)]
      exact this
    · rintro k0 σ H5 hk0 ⟨kvs, s, z1, u1, rfl, E5, hd5, hw5, lk5, hr5, hs5, ls5, hms⟩
      rw [Int.toNat_natCast] at hk0
      have ek : (0 : Int) + (k0 : Int) = ((k0 : Nat) : Int) := by omega
      rw [ek]
      walk_at "rd"
      refine rd_dinI hd5 ?_
      rcases hw5 k0 with ⟨j, hj, d, ev⟩ | ⟨hno, ev⟩
      · rw [show valV kvs (.inl (k0 : Int)) = _ from ev]
        walk_at "rd"
        dsimp only at hj
        rw [if_neg (Nat.lt_irrefl _)] at hj
        refine ⟨kvs, s, _, _, rfl, E5, hd5, ways_in hw5 hj d ev, by omega, hr5, hs5, by omega, fun x => ?_⟩
        rw [hms]
        refine ⟨fun z => ⟨by omega, z.2⟩, fun z => ⟨?_, z.2⟩⟩
        by_cases e : x = k0
        · subst e
          have := dist_uniq d z.2
          omega
        · have := z.1
          omega
      · rw [show valV kvs (.inl (k0 : Int)) = _ from ev]
        dsimp only at hno
        rw [if_neg (Nat.lt_irrefl _)] at hno
        walk_at "rd"
        obtain ⟨rk, hrk, hrow⟩ := hrs k0 _ (List.getElem?_eq_getElem hk0)
        have erow : nm[k0] = row nm k0 := by unfold row; rw [List.getElem?_eq_getElem hk0]; rfl
        rw [erow] at hrow
        refine rd_ixL (.of (E5 _ _ hnl)) (atI_nat (j := k0) (v := .ref rk) (by rw [List.getElem?_map, hrk]; rfl)) ?_
        walk_at "rd"
        refine lcW_L ((row nm k0).map iv) (fun D j H' => H' D = some (.lst (((row nm k0).take j).map fun x => V.bl (decide (x ∈ r)))) ∧ Ex H5 H') ?_ ?_ ?_ ?_
        · exact fun D H' hD e h => ⟨h, e⟩
        · rintro D j H' hD hj ⟨_, e⟩
          exact .of (e _ _ (E5 _ _ hrow))
        · rintro D j v H6 hD hv ⟨h6, E6⟩
          rw [List.getElem?_map] at hv
          cases eu : (row nm k0)[j]? with
          | none => rw [eu] at hv; cases hv
          | some x =>
          rw [eu] at hv
          cases (Option.some.inj hv)
          have hj : j < (row nm k0).length := (List.getElem?_eq_some_iff.mp eu).1
          have hll : (row nm k0).length ≤ 40 := Nat.le_trans (nodup_lt ((hrows.at k0).2.imp fun h => by omega) (hrows.at k0).1) hn
          walk_at "lcn"
          walk_at "rd"
          refine rd_inN (.of (E6 _ _ hr5)) ?_
          refine ⟨_, h6, by rw [List.length_map, List.length_take, sizeLine_eq]; omega, ?_, ex_new hD E6⟩
          rw [upd_same, List.take_add_one, eu, List.map_append]
          rfl
        · rintro D H6 hD ⟨h6, E6⟩
          rw [List.length_map, List.take_length] at h6
          walk_at "rd"
          have hany : ((row nm k0).map fun x => decide (x ∈ r)).any id = true ↔ Dist nm f k0 (i + 1) := by
            rw [back_step hno, List.any_map, List.any_eq_true]
            constructor
            · rintro ⟨x, hx, hxr⟩
              exact ⟨x, hx, (hmr x).mp (of_decide_eq_true hxr)⟩
            · rintro ⟨x, hx, hxr⟩
              exact ⟨x, hx, decide_eq_true ((hmr x).mpr hxr)⟩
          refine rd_any (bs := (row nm k0).map fun x => decide (x ∈ r)) (.of (by rw [h6, List.map_map]; rfl)) ?_
          walk_at "rd"
          have E56 := E5.trans E6
          cases ea : ((row nm k0).map fun x => decide (x ∈ r)).any id with
          | true =>
            have d := hany.mp ea
            walk_at "rd"
            refine rd_dputI (E6 _ _ hd5) (by omega) ?_
            generalize eH : upd H6 dl _ = H7
            have h7d : H7 dl = some (.dK (putK kvs (ik k0) (iv (i + 1)))) := by rw [← eH, upd_same, show (1 : Int) + (i : Int) = ((i + 1 : Nat) : Int) by omega]
            have k7 : ∀ b, b ≠ dl → H7 b = H6 b := fun b hb => by rw [← eH, upd_ne hb]
            have hdlH : H dl = none := hdl
            have E7 : Ex H H7 := by rw [← eH]; exact ex_new hdlH E56
            clear eH
            have hs7 : H7 lo = some (.lst (s.map iv)) := by rw [k7 lo nld]; exact E6 _ _ hs5
            have hr7 : H7 ra = some (.lst (r.map iv)) := by rw [k7 ra nrd]; exact E6 _ _ hr5
            walk_at "rd"
            refine rd_append hs7 (by rw [List.length_map]; omega) ?_
            walk_at "rd"
            refine ⟨_, s ++ [k0], _, _, rfl, ex_new hloH E7, by rw [upd_ne nld.symm]; exact h7d, ways_new hw5 d ev, ?_, by rw [upd_ne nlr.symm]; exact hr7, by rw [upd_same, List.map_append]; rfl, by rw [List.length_append]; show _ + 1 ≤ _; omega, fun x => ?_⟩
            · rw [valV_new ev, List.length_append]
              show _ + 1 ≤ _
              omega
            · rw [List.mem_append, hms, List.mem_singleton]
              refine ⟨fun z => ?_, fun z => ?_⟩
              · rcases z with z | rfl
                · exact ⟨by omega, z.2⟩
                · exact ⟨by omega, d⟩
              · by_cases e : x = k0
                · exact .inr e
                · exact .inl ⟨by omega, z.2⟩
          | false =>
            have nd : ¬ Dist nm f k0 (i + 1) := fun d => by rw [hany.mpr d] at ea; cases ea
            walk_at "rd"
            refine ⟨kvs, s, _, _, rfl, E56, E6 _ _ hd5, ways_out hw5 (fun j hj d => ?_) ev, by omega, E6 _ _ hr5, E6 _ _ hs5, by omega, fun x => ?_⟩
            · by_cases e : j = i + 1
              · subst e
                exact nd d
              · exact hno j (by omega) d
            · rw [hms]
              refine ⟨fun z => ⟨by omega, z.2⟩, fun z => ⟨?_, z.2⟩⟩
              by_cases e : x = k0
              · subst e
                exact (nd z.2).elim
              · have := z.1
                omega
    · rintro σ H5 ⟨kvs, s, z1, u1, rfl, E5, hd5, hw5, lk5, hr5, hs5, ls5, hms⟩
      walk_at "rd"
      rw [Int.toNat_natCast] at hw5 lk5 hms
      refine ⟨kvs, lo, s, _, _, _, _, rfl, E5, hd5, ways_level hw5, by omega, hs5, fun x => ?_⟩
      rw [hms]
      refine ⟨fun z => .inr ⟨by omega, z.2⟩, fun z => ?_⟩
      rcases z with z | z
      · omega
      · exact ⟨dist_lt z.2, z.2⟩
  · rintro σ H3 ⟨kvs, ra, r, x0, y0, z0, u0, rfl, E3, hd3, hw3, lk3, hr3, hmr⟩
    walk_at "rd"
    exact q dl kvs H3 (ways_end hw3) hdl E3 hd3
def spLawRing (K : PySem.W.Frag) : Sp := sp1 fun a H Q => ∃ nl nm, a = .ref nl ∧ NmAt H nl nm ∧ Rows nm ∧ nm.length ≤ 40 ∧ ∀ v r H', Best nm nm.length r → Ex H H' → ((r = [] ∧ v = .non) ∨ (r ≠ [] ∧ ∃ p, v = .ref p ∧ H' p = some (.lst (r.map iv)))) → Q v H'
theorem k__law_ring (T : Tx K w mg) (c__law_back : Cal P w K mg base "_law_back" 1 p_law_back (spBack K)) : Cal P w K mg base "_law_ring" 2 p_law_ring (spLawRing K) := by
  refine cal1 T.F__law_ring sc_law_ring b_law_ring rfl fun g cdv A outer s H a Q E hr h => ?_
  obtain ⟨nl, nm, rfl, hnm, hrows, hn, q⟩ := h
  refine ⟨_, (pss_cons (ps_set (i := 1) (sc_law_ring).nd rfl (by first | exact Or.inl rfl | exact Or.inr rfl) pe_non) (pss_cons (ps_for PassesOwn.never rfl (pi_range1 (by rfl) T.m_range (pa_cons (pe_callB cr_lenA (by rfl) T.m_len (by decide +kernel) (pa_cons (pv 0) pa_nil)) pa_nil)) (pg_name (i := 2) (sc_law_ring).nd rfl (by first | exact Or.inl rfl | exact Or.inr rfl)) (pss_cons (ps_set (i := 3) (sc_law_ring).nd rfl (by first | exact Or.inl rfl | exact Or.inr rfl) (pe_cal c__law_back (hr.mono (by omega)) (pa_cons (pv 0) (pa_cons (pv 2) pa_nil)))) (pss_one (ps_if (PW.pt (pw_and (pt_cmp (pc_din (hu_of hr) (pv 2) (pv 3))) (pw_and1 (PW.pt (pw_or (pt_cmpR op_isNn (pv 1) pe_non (nomark _)) (pw_or1 (pt_cmpR op_lt (pe_dget (hu_of hr) (pv 3) (pv 2) (fun _ _ => rfl)) (pe_callB cr_lenA (by rfl) T.m_len (by decide +kernel) (pa_cons (pv 1) pa_nil)) (nomark _)))))))) (pss_cons (ps_set (i := 1) (sc_law_ring).nd rfl (by first | exact Or.inl rfl | exact Or.inr rfl) (pe_lst (pa_cons (pv 2) pa_nil))) (pss_one (ps_for PassesOwn.never rfl (pi_range3 (by rfl) T.m_range (pa_cons (pe_op op_sub (pe_dget (hu_of hr) (pv 3) (pv 2) (fun _ _ => rfl)) pe_int) (pa_cons pe_int (pa_cons (pe_un un_neg pe_int) pa_nil)))) (pg_name (i := 4) (sc_law_ring).nd rfl (by first | exact Or.inl rfl | exact Or.inr rfl)) (pss_one (ps_expr (pe_bm PySem.F.plainAttrs_list PySem.F.slot_list_append PySem.F.type_list_append mt_append (pv 1) (pa_cons (pe_callB (cr_min rfl) (by rfl) T.m_min (by decide +kernel) (pa_cons (pe_lc (own := [("_law_one", 5)]) rfl (sc_law_ring).nd (pi_seq (pe_ix ix_seq (pv 0) (pe_ix ix_seq (pv 1) (pe_un un_neg pe_int) (fun _ _ => rfl)) (fun _ _ => rfl))) (blkOk_by (N := n_law_ring) (sc := defScope s_law_ring) (by decide +kernel)) (fun _ _ _ _ _ => (pg_name (i := 5) (sc_law_ring).nd rfl (by first | exact Or.inl rfl | exact Or.inr rfl))) (fun _ _ _ _ _ => (pts_one (pt_cmpR (eqK (K := K) rfl hr) (pe_dget2 (hu_of hr) (pv 3) (pv 5) pe_int ⟨rfl, rfl, rfl, rfl⟩) (pv 4) (nomark _)))) (fun _ _ _ _ _ => (pv 5))) pa_nil)) pa_nil))))))) pss_nil)))) (pss_one (ps_ret (pv 1))))), ?_⟩
  rw [t_law_ring]
  try dsimp only [cxOf, Cx.nox, Cx.wish]
  obtain ⟨rs, hnl, lrs, hrs⟩ := id hnm
  walk_at "rd"
  refine rd_lenL (.of hnl) ?_
  rw [List.length_map, lrs]
  walk_at "rd"
  refine forW_R (fun i σ H' => ∃ acc fv x y z u, σ = [some (.ref nl), some fv, x, y, z, u] ∧ Ex H H' ∧ Best nm i acc ∧ ((acc = [] ∧ fv = .non) ∨ (acc ≠ [] ∧ ∃ p, fv = .ref p ∧ H' p = some (.lst (acc.map iv))))) ?_ ?_ ?_
  · exact ⟨[], _, _, _, _, _, rfl, Evl.Ex.refl _, .zero, .inl ⟨rfl, rfl⟩⟩
  · rintro i σ H1 hi ⟨acc, fv, x0, y0, z0, u0, rfl, E1, hb, hfv⟩
    rw [Int.toNat_natCast] at hi
    have ei : (0 : Int) + (i : Int) = ((i : Nat) : Int) := by omega
    rw [ei]
    walk_at "rd"
    refine rd_sp2 ⟨nl, nm, i, rfl, rfl, hnm.ex E1, hrows, hn, fun dl kvs H2 hw hdl E2 hd2 => ?_⟩
    have hfv2 : (acc = [] ∧ fv = .non) ∨ (acc ≠ [] ∧ ∃ p, fv = .ref p ∧ H2 p = some (.lst (acc.map iv))) := hfv.imp_right fun ⟨a, p, b, c⟩ => ⟨a, p, b, E2 _ _ c⟩
    refine' rd_name ?h ?_
    case h => first | (dsimp only [List.set]; done) | (dsimp only [List.set]; exact rfl)
    rcases hw i with ⟨L, dL, ev⟩ | ⟨hno, ev⟩
    · obtain ⟨r, hr0, lr⟩ := least_of dL
      have hLn := dist_le dL
      have hL1 := dL.1
      have hrne : r ≠ [] := ring_ne hr0.1
      by_cases hbt : acc = [] ∨ L < acc.length
      · have eb : ∀ r', Least nm i r' → r'.length = L → better acc r' = r' := fun r' h' l' => by
          unfold better
          rw [if_pos ⟨ring_ne h'.1, hbt.imp id fun z => by rw [l']; exact z⟩]
        with_reducible refine rd_ifB true ?_ ?_
        · intro R hR
          walk_at "rd"
          refine rd_dinI hd2 ?_
          rw [show valV kvs (.inl (i : Int)) = _ from ev]
          walk_at "rd"
          rcases hfv2 with ⟨rfl, rfl⟩ | ⟨hne, p, rfl, hp⟩
          · refine rd_isN0 rfl ?_
            walk_at "rd"
            exact hR
          · refine rd_isN0 rfl ?_
            walk_at "rd"
            refine rd_dgetI hd2 ev ?_
            walk_at "rd"
            refine rd_lenL (.of hp) ?_
            rw [List.length_map]
            walk_at "rd"
            rw [decide_eq_true (show (L : Int) < (acc.length : Int) by have := hbt.resolve_left hne; omega)]
            exact hR
        · walk_at "rd"
          refine new_lst fun fp H3 hfp E3 h3 => ?_
          walk_at "rd"
          refine rd_dgetI (E3 _ _ hd2) ev ?_
          walk_at "rd"
          refine rd_fr3d (by omega) ?_
          have hfpH : H2 fp = none := hfp
          refine forW_C (fun t σ H' => ∃ g z u, Greedy nm i L t g ∧ σ = [some (.ref nl), some (.ref fp), some (iv i), some (.ref dl), z, u] ∧ Ex H2 H' ∧ H' fp = some (.lst (g.map iv))) ?_ ?_ ?_
          · exact ⟨[i], _, _, greedy_start dL, rfl, E3, h3⟩
          · rintro t σ H4 ht ⟨g', z1, u1, I, rfl, E4, h4⟩
            obtain ⟨x, hwx, hdx⟩ := I.wk
            obtain ⟨v, evs⟩ := walk_split hwx
            have hx : x < nm.length := dist_lt hdx
            have el : (L : Int) - 1 + (t : Int) * -1 = ((L - t - 1 : Nat) : Int) := by omega
            rw [el]
            have hnl4 := E4 _ _ (E2 _ _ (E1 _ _ hnl))
            obtain ⟨rk, hrk, hrow⟩ := hrs x _ (List.getElem?_eq_getElem hx)
            have erow : nm[x] = row nm x := by unfold row; rw [List.getElem?_eq_getElem hx]; rfl
            rw [erow] at hrow
            have hrow4 := E4 _ _ (E2 _ _ (E1 _ _ hrow))
            walk_at "rd"
            refine rd_ixL (.of h4) (by rw [evs, List.map_append]; exact atI_last _ _) ?_
            refine rd_ixL (.of hnl4) (atI_nat (j := x) (v := .ref rk) (by rw [List.getElem?_map, hrk]; rfl)) ?_
            walk_at "rd"
            have hll : (row nm x).length ≤ 40 := Nat.le_trans (nodup_lt ((hrows.at x).2.imp fun h => by omega) (hrows.at x).1) hn
            have pick : ∀ y : Nat, ∃ w : Int, (valV kvs (ik y)).getD (.int 0) = .int w ∧ (w = ((L - t - 1 : Nat) : Int) ↔ Dist nm i y (L - t - 1)) := by
              intro y
              rcases hw y with ⟨j, d, e⟩ | ⟨h, e⟩
              · refine ⟨j, by rw [e]; rfl, fun z => ?_, fun d' => by rw [dist_uniq d d']⟩
                rw [show L - t - 1 = j by omega]
                exact d
              · refine ⟨0, by rw [e]; rfl, fun z => ?_, fun d' => (h _ d').elim⟩
                exfalso
                have := I.tl
                omega
            obtain ⟨wv, hwv⟩ := Classical.skolem.mp pick
            refine lcW_L ((row nm x).map iv) (fun D j H' => H' D = some (.lst ((((row nm x).take j).filter fun y => decide (wv y = ((L - t - 1 : Nat) : Int))).map iv)) ∧ Ex H4 H') ?_ ?_ ?_ ?_
            · exact fun D H' hD e h => ⟨h, e⟩
            · rintro D j H' hD hj ⟨_, e⟩
              exact .of (e _ _ hrow4)
            · rintro D j v5 H6 hD hv ⟨h6, E6⟩
              rw [List.getElem?_map] at hv
              cases eu : (row nm x)[j]? with
              | none => rw [eu] at hv; cases hv
              | some y =>
              rw [eu] at hv
              cases (Option.some.inj hv)
              have hj : j < (row nm x).length := (List.getElem?_eq_some_iff.mp eu).1
              have hd6 := E6 _ _ (E4 _ _ hd2)
              have et : (row nm x).take (j + 1) = (row nm x).take j ++ [y] := by rw [List.take_add_one, eu]; rfl
              walk_at "lcn"
              walk_at "rd"
              refine rd_dget2D hd6 ?_
              walk_at "rd"
              refine rd_dgetOI hd6 ?_
              rw [show (valV kvs (.inl (y : Int))).getD (.int 0) = .int (wv y) from (hwv y).1]
              walk_at "rd"
              refine rd_ite (fun h7 => ?_) (fun h7 => ?_)
              · walk_at "rd"
                refine ⟨_, h6, ?_, ?_, ex_new hD E6⟩
                · rw [List.length_map, sizeLine_eq]
                  have := List.length_filter_le (fun y => decide (wv y = ((L - t - 1 : Nat) : Int))) ((row nm x).take j)
                  rw [List.length_take] at this
                  omega
                · rw [upd_same, et, List.filter_append, List.filter_cons_of_pos (p := fun y => decide (wv y = ((L - t - 1 : Nat) : Int))) (decide_eq_true h7), List.filter_nil, List.map_append]
                  rfl
              · walk_at "rd"
                refine ⟨?_, E6⟩
                rw [et, List.filter_append, List.filter_cons_of_neg (p := fun y => decide (wv y = ((L - t - 1 : Nat) : Int))) (by rw [decide_eq_false h7]; exact Bool.false_ne_true), List.filter_nil, List.append_nil]
                exact h6
            · rintro D H6 hD ⟨h6, E6⟩
              rw [List.length_map, List.take_length] at h6
              walk_at "rd"
              have hmem : ∀ y, y ∈ (row nm x).filter (fun y => decide (wv y = ((L - t - 1 : Nat) : Int))) ↔ y ∈ row nm x ∧ Dist nm i y (L - t - 1) := fun y => by
                rw [List.mem_filter, decide_eq_true_iff, (hwv y).2]
              have ht1 : t + 1 < L := by omega
              have hdx' : Dist nm i x (L - t - 1 + 1) := by rw [show L - t - 1 + 1 = L - t by omega]; exact hdx
              obtain ⟨y0, hy0, hdy0⟩ := dist_row hdx' (by omega)
              refine rd_minL (ns := ((row nm x).filter (fun y => decide (wv y = ((L - t - 1 : Nat) : Int)))).map fun n : Nat => (n : Int)) (.of (by rw [h6, iv_int])) ?_ fun m hm hle => ?_
              · rw [List.length_map]
                exact List.length_pos_of_mem ((hmem y0).mpr ⟨hy0, hdy0⟩)
              · obtain ⟨y, hy, rfl⟩ := List.mem_map.mp hm
                obtain ⟨hyr, hyd⟩ := (hmem y).mp hy
                walk_at "rd"
                refine rd_append (E6 _ _ h4) (by rw [List.length_map, I.ln]; omega) ?_
                walk_at "rd"
                refine ⟨g' ++ [y], _, _, greedy_step I hwx ht1 hyr hyd fun z hz hzd => ?_, rfl, ex_new hfpH (E4.trans E6), by rw [upd_same, List.map_append]; rfl⟩
                have := hle _ (List.mem_map.mpr ⟨z, (hmem z).mpr ⟨hz, hzd⟩, rfl⟩)
                omega
          · rintro σ H4 ⟨g', z1, u1, I, rfl, E4, h4⟩
            have en : ((L : Int) - 1 - 0).toNat = L - 1 := by omega
            rw [en] at I
            have hl := greedy_end dL I
            have ll : g'.length = L := by rw [I.ln]; omega
            walk_at "rd"
            refine ⟨better acc g', _, _, _, _, _, rfl, (E1.trans E2).trans E4, .succ hb (.inr hl), ?_⟩
            rw [eb g' hl ll]
            exact .inr ⟨ring_ne hl.1, fp, rfl, h4⟩
      · have hne : acc ≠ [] := fun z => hbt (.inl z)
        have eb : better acc r = acc := by
          unfold better
          rw [if_neg (fun z => hbt (z.2.imp id fun y => by rw [lr] at y; exact y))]
        with_reducible refine rd_ifB false ?_ ?_
        · intro R hR
          walk_at "rd"
          refine rd_dinI hd2 ?_
          rw [show valV kvs (.inl (i : Int)) = _ from ev]
          walk_at "rd"
          rcases hfv2 with ⟨e, _⟩ | ⟨hne, p, rfl, hp⟩
          · exact (hne e).elim
          · refine rd_isN0 rfl ?_
            walk_at "rd"
            refine rd_dgetI hd2 ev ?_
            walk_at "rd"
            refine rd_lenL (.of hp) ?_
            rw [List.length_map]
            walk_at "rd"
            rw [decide_eq_false (show ¬ (L : Int) < (acc.length : Int) by have : ¬ L < acc.length := fun z => hbt (.inr z); omega)]
            exact hR
        · walk_at "rd"
          refine ⟨acc, fv, _, _, _, _, rfl, E1.trans E2, ?_, hfv2⟩
          rw [← eb]
          exact .succ hb (.inr hr0)
    · with_reducible refine rd_ifB false ?_ ?_
      · intro R hR
        walk_at "rd"
        refine rd_dinI hd2 ?_
        rw [show valV kvs (.inl (i : Int)) = _ from ev]
        walk_at "rd"
        exact hR
      · walk_at "rd"
        have e : better acc [] = acc := by unfold better; rw [if_neg (fun z => z.1 rfl)]
        refine ⟨acc, fv, _, _, _, _, rfl, E1.trans E2, ?_, hfv2⟩
        rw [← e]
        exact .succ hb (.inl ⟨rfl, no_ring hno⟩)
  · rintro σ H1 ⟨acc, fv, x0, y0, z0, u0, rfl, E1, hb, hfv⟩
    rw [Int.toNat_natCast] at hb
    walk_at "rd"
    exact q fv acc H1 hb E1 hfv
end
end KF
open PySem PySem.Spec PyProof.Rows L2 Qa Qr
open Qg


namespace KF
section
variable {P : Program} {w : World} {K : PySem.W.Frag} {mg : Str → Option Value} {base : Heap} {H : Hp} {Q : VK} {E : XK}
structure LinesAt (K : PySem.W.Frag) (H : Hp) (la : Addr) (vs : List V) (ts : List T) : Prop where
  at_ : H la = some (.lst vs)
  tv : TvA K H vs ts
  few : 1 ≤ ts.length ∧ ts.length ≤ 40
  rule : ∀ t ∈ ts, isRule ⟨ts.length, 0, 1⟩ 8 t = true
theorem LinesAt.ex {H H' : Hp} {la : Addr} {vs : List V} {ts : List T} (h : LinesAt K H la vs ts) (e : Ex H H') : LinesAt K H' la vs ts := ⟨e _ _ h.at_, tva_ex h.tv e, h.few, h.rule⟩
def spLaw (K : PySem.W.Frag) : Sp := sp1 fun a H Q => ∃ (l : Addr) (ns : List Int), a = .ref l ∧ SqL K H l (ns.map V.int) ∧ ∀ H', Q (.bl true) H'
theorem k_law (T : Tx K w mg) (c__law_mixed : Cal P w K mg base "_law_mixed" 1 p_law_mixed (spMixed K)) (c__law_cell_at : Cal P w K mg base "_law_cell_at" 1 p_law_cell_at (spCell K))
    (c__law_line : Cal P w K mg base "_law_line" 2 p_law_line (spLine K)) (c__law_parted : Cal P w K mg base "_law_parted" 2 p_law_parted (spParted K)) (c__law_named : Cal P w K mg base "_law_named" 9 p_law_named (spLN K 8))
    (c__law_ring : Cal P w K mg base "_law_ring" 2 p_law_ring (spLawRing K)) (c_ring_of : Cal P w K mg base "ring_of" 12 pring_of (spRingOf K)) :
    Cal P w K mg base "law" 13 plaw (spLaw K) := by
  refine cal1 T.F_law sclaw blaw rfl fun g cdv A outer s H a Q E hr h => ?_
  obtain ⟨l, ns, rfl, hl, q⟩ := h
  refine ⟨_, (pss_cons (ps_set (i := 1) (sclaw).nd rfl (by first | exact Or.inl rfl | exact Or.inr rfl) (pe_lst (pa_cons (pe_cal c__law_mixed (hr.mono (by omega)) (pa_cons (pe_cal c__law_cell_at (hr.mono (by omega)) (pa_cons (pv 0) (pa_cons pe_int pa_nil))) (pa_cons pe_int pa_nil))) pa_nil))) (pss_cons (ps_set (i := 2) (sclaw).nd rfl (by first | exact Or.inl rfl | exact Or.inr rfl) (pe_cal c__law_mixed (hr.mono (by omega)) (pa_cons (pe_cal c__law_cell_at (hr.mono (by omega)) (pa_cons (pv 0) (pa_cons pe_int pa_nil))) (pa_cons pe_int pa_nil)))) (pss_cons (ps_set (i := 3) (sclaw).nd rfl (by first | exact Or.inl rfl | exact Or.inr rfl) (pe_op op_addA pe_int (pe_op op_mod (pv 2) pe_int))) (Evl.pss_cut (ps_if (pt_cmpR (op_eqA hr) (pe_op op_mod (pe_op op_fdiv (pv 2) pe_int) pe_int) pe_int (nomark _)) (pss_one (ps_set (i := 3) (sclaw).nd rfl (by first | exact Or.inl rfl | exact Or.inr rfl) (pe_op op_addA pe_int (pe_op op_mod (pe_op op_fdiv (pv 2) pe_int) pe_int)))) pss_nil) (pss_cons (ps_setLc (i := 4) (own := [("_law_k", 5)]) rfl (sclaw).nd rfl rfl (sw_true rfl rfl rfl (by decide +kernel)) (pi_range1 (by rfl) T.m_range (pa_cons (pv 3) pa_nil)) (blkOk_by (N := nlaw) (sc := defScope slaw) (by decide +kernel)) (fun _ _ _ _ _ => (pg_name (i := 5) (sclaw).nd rfl (by first | exact Or.inl rfl | exact Or.inr rfl))) (fun _ _ _ _ _ => pts_nil) (fun _ _ _ _ _ => (pe_cal c__law_line (hr.mono (by omega)) (pa_cons (pv 1) (pa_cons (pv 3) pa_nil))))) (Evl.pss_cut (ps_if (pt_cmpR (op_eqA hr) (pe_op op_mod (pe_op op_fdiv (pv 2) pe_int) pe_int) pe_int (nomark _)) (pss_one (ps_setLc (i := 4) (own := [("_law_k", 5)]) rfl (sclaw).nd rfl rfl (sw_true rfl rfl rfl (by decide +kernel)) (pi_range1 (by rfl) T.m_range (pa_cons (pv 3) pa_nil)) (blkOk_by (N := nlaw) (sc := defScope slaw) (by decide +kernel)) (fun _ _ _ _ _ => (pg_name (i := 5) (sclaw).nd rfl (by first | exact Or.inl rfl | exact Or.inr rfl))) (fun _ _ _ _ _ => pts_nil) (fun _ _ _ _ _ => (pe_tup (pa_cons pe_str (pa_cons (pe_tup (pa_cons pe_str (pa_cons pe_int pa_nil))) (pa_cons (pe_tup (pa_cons pe_str (pa_cons (pe_op op_mod (pe_op (addK' (K := K) rfl) (pe_op (addK' (K := K) rfl) (pv 5) pe_int) (pe_op op_mul (pe_op op_mod (pe_op op_fdiv (pv 2) pe_int) pe_int) (pe_op op_sub (pv 3) pe_int))) (pv 3)) pa_nil))) pa_nil))))))) pss_nil) (Evl.pss_cut (ps_if (pt_cmpR (op_eqA hr) (pe_op op_mod (pe_op op_fdiv (pv 2) pe_int) pe_int) pe_int (nomark _)) (pss_one (ps_set (i := 4) (sclaw).nd rfl (by first | exact Or.inl rfl | exact Or.inr rfl) (pe_cal c__law_parted (hr.mono (by omega)) (pa_cons (pv 1) (pa_cons (pe_callB (cr_min2 rfl) (by rfl) T.m_min (by decide +kernel) (pa_cons (pv 3) (pa_cons pe_int pa_nil))) pa_nil))))) pss_nil) (pss_cons (ps_setLc (i := 6) (own := [("_law_rule", 7)]) rfl (sclaw).nd rfl rfl (sw_true rfl rfl rfl (by decide +kernel)) (pi_seq (pv 4)) (blkOk_by (N := nlaw) (sc := defScope slaw) (by decide +kernel)) (fun _ _ _ _ _ => (pg_name (i := 7) (sclaw).nd rfl (by first | exact Or.inl rfl | exact Or.inr rfl))) (fun _ _ _ _ _ => pts_nil) (fun _ _ _ _ _ => (pe_cal c__law_named (hr.mono (by omega)) (pa_cons (pv 7) (pa_cons pe_str pa_nil))))) (pss_cons (ps_set (i := 8) (sclaw).nd rfl (by first | exact Or.inl rfl | exact Or.inr rfl) (pe_cal c__law_ring (hr.mono (by omega)) (pa_cons (pv 6) pa_nil))) (Evl.pss_cut (ps_if (pt_cmpR op_isNn (pv 8) pe_non (nomark _)) (pss_one (ps_set (i := 8) (sclaw).nd rfl (by first | exact Or.inl rfl | exact Or.inr rfl) (pe_lst pa_nil))) pss_nil) (pss_cons (ps_set (i := 9) (sclaw).nd rfl (by first | exact Or.inl rfl | exact Or.inr rfl) (pe_cal c_ring_of (hr.mono (by omega)) (pa_cons (pe_callTy cr_lstOf (by rfl) T.m_list (by decide +kernel) (pa_cons (pv 4) pa_nil)) pa_nil))) (pss_cons (ps_if (PW.pt (pw_or (pt_not (pt_tru (pe_callB call_isi (by rfl) T.m_isinstance (by decide +kernel) (pa_cons (pv 9) (pa_cons (pe_ty (n := "list") T.m_list (by decide +kernel)) pa_nil))))) (pw_or1 (pt_cmpR (op_neA hr) (pv 9) (pv 8) (nomark _))))) (pss_one (ps_ret pe_bl)) pss_nil) (pss_cons (ps_for PassesOwn.never rfl (pi_range1 (by rfl) T.m_range (pa_cons (pe_callB cr_lenA (by rfl) T.m_len (by decide +kernel) (pa_cons (pv 9) pa_nil)) pa_nil)) (pg_name (i := 5) (sclaw).nd rfl (by first | exact Or.inl rfl | exact Or.inr rfl)) (pss_one (ps_if (pt_cmpR op_notIn_seq (pe_ix ix_seq (pv 9) (pe_op op_mod (pe_op op_addA (pv 5) pe_int) (pe_callB cr_lenA (by rfl) T.m_len (by decide +kernel) (pa_cons (pv 9) pa_nil))) (fun _ _ => rfl)) (pe_ix ix_seq (pv 6) (pe_ix ix_seq (pv 9) (pv 5) (fun _ _ => rfl)) (fun _ _ => rfl)) (by rfl)) (pss_one (ps_ret pe_bl)) pss_nil))) (pss_cons (ps_set (i := 10) (sclaw).nd rfl (by first | exact Or.inl rfl | exact Or.inr rfl) (pe_cal c_ring_of (hr.mono (by omega)) (pa_cons (pe_callTy cr_lstOf (by rfl) T.m_list (by decide +kernel) (pa_cons (pv 4) pa_nil)) pa_nil))) (pss_cons (ps_expr (pe_bm PySem.F.plainAttrs_list PySem.F.slot_list_append PySem.F.type_list_append mt_append (pv 10) (pa_cons pe_int pa_nil))) (pss_one (ps_ret (pe_and (pe_cmpR (op_eqA hr) (pv 9) (pv 8) (nomark _)) (pe_one (pe_cmpR (op_eqA hr) (pe_cal c_ring_of (hr.mono (by omega)) (pa_cons (pv 4) pa_nil)) (pv 8) (nomark _))))))))))))))))))))), ?_⟩
  rw [tlaw]
  try dsimp only [cxOf, Cx.nox, Cx.wish]
  walk_at "rd"
  refine rd_sp2 ⟨l, ns, 0, rfl, rfl, hl, fun r1 => ?_⟩
  walk_at "rd"
  refine rd_sp2 ⟨_, _, rfl, rfl, fun r2 r20 r21 => ?_⟩
  walk_at "rd"
  refine new_lst fun st H1 hst E1 h1 => ?_
  walk_at "rd"
  refine rd_sp2 ⟨l, ns, 1, rfl, rfl, sql_ex hl E1, fun r3 => ?_⟩
  walk_at "rd"
  refine rd_sp2 ⟨_, _, rfl, rfl, fun c c0 c1 => ?_⟩
  walk_at "rd"
  refine rd_cut (fun σ H' => ∃ n : Nat, σ = [some (.ref l), some (.ref st), some (.int c), some (.int n), none, none, none, none, none, none, none] ∧ 1 ≤ n ∧ n ≤ 40 ∧ H1 = H') ?_ ?_
  · walk_at "rd"
    refine rd_ite (fun h => ?_) (fun h => ?_)
    · walk_at "rd"
      refine ⟨(7 + c / 24 % 34).toNat, ?_, by omega, by omega, rfl⟩
      rw [show (((7 + c / 24 % 34).toNat : Nat) : Int) = 7 + c / 24 % 34 by omega]
    · walk_at "rd"
      refine ⟨(1 + c % 6).toNat, ?_, by omega, by omega, rfl⟩
      rw [show (((1 + c % 6).toNat : Nat) : Int) = 1 + c % 6 by omega]
  rintro σ H2 ⟨n, rfl, n1, n40, rfl⟩
  have hs1 : ∃ s, H1 st = some (.lst [.int s]) := ⟨_, h1⟩
  walk_at "rd"
  refine lcW_R (fun D i H' => ∃ vs ts, H' D = some (.lst vs) ∧ TvA K H' vs ts ∧ ts.length = i ∧ (∀ t ∈ ts, isRule ⟨n, 0, 1⟩ 8 t = true) ∧ St1 st H1 H') ?_ ?_ ?_
  · exact fun D H' hD e h => ⟨[], [], h, .nil, rfl, (fun t h => by cases h), .ex hs1 e⟩
  · rintro D i H2 hD hi ⟨vs, ts, h2, tv2, lts, hru, S2⟩
    rw [Int.toNat_natCast] at hi
    walk_at "lcn"
    walk_at "rd"
    refine rd_sp2 ⟨st, n, rfl, rfl, S2.st, by omega, fun v t H3 tv3 hr3 S3 => ?_⟩
    have nD : D ≠ st := ne_st hs1 hD
    have h3 := lst_st h2 S3 nD
    refine ⟨vs, h3, by rw [tv2.len, sizeLine_eq]; omega, vs ++ [v], ts ++ [t], upd_same, (Tame.upd h3).tvA ((tva_st tv2 S3).append (.cons tv3 .nil)), by rw [List.length_append, lts]; rfl, fun t' ht' => ?_, (S2.trans S3).upd hD h3 nD⟩
    rcases List.mem_append.mp ht' with h | h
    · exact hru t' h
    · have e : t' = t := by simpa using h
      subst e
      exact isRule_mono hr3 (by omega)
  rintro la H2 hla ⟨vs, ts, h2, tv2, lts, hru, S2⟩
  rw [Int.toNat_natCast] at lts
  have L2 : LinesAt K H2 la vs ts := ⟨h2, tv2, by omega, by rw [lts]; exact hru⟩
  have hs2 := S2.st
  clear h2 tv2 hru S2 hla
  walk_at "rd"
  refine rd_cut (fun σ H' => ∃ la vs ts y, σ = [some (.ref l), some (.ref st), some (.int c), some (.int n), some (.ref la), y, none, none, none, none, none] ∧ LinesAt K H' la vs ts ∧ ts.length = n ∧ ∃ s, H' st = some (.lst [.int s])) ?_ ?_
  · walk_at "rd"
    refine rd_ite (fun h => ?_) (fun h => ?_)
    · walk_at "rd"
      refine lcW_R (fun D i H' => ∃ vs ts, H' D = some (.lst vs) ∧ TvA K H' vs ts ∧ ts.length = i ∧ (∀ t ∈ ts, isRule ⟨n, 0, 1⟩ 8 t = true) ∧ Ex H2 H') ?_ ?_ ?_
      · exact fun D H' hD e h => ⟨[], [], h, .nil, rfl, (fun t h => by cases h), e⟩
      · rintro D i H3 hD hi ⟨vs, ts, h3, tv3, lts, hru, E3⟩
        rw [Int.toNat_natCast] at hi
        walk_at "lcn"
        walk_at "rda"
        rename_i q1 G1 hq1 F1 g1 q2 G2 hq2 F2 g2 q3 G3 hq3 F3 g3
        have F13 := (F1.trans F2).trans F3
        have h4 := F13 _ _ h3
        have a0 := Int.emod_nonneg (0 + (i : Int) + 1 + c / 3264 % 2 * ((n : Int) - 2)) (show (n : Int) ≠ 0 by omega)
        have a1 := Int.emod_lt_of_pos (0 + (i : Int) + 1 + c / 3264 % 2 * ((n : Int) - 2)) (show 0 < (n : Int) by omega)
        generalize (0 + (i : Int) + 1 + c / 3264 % 2 * ((n : Int) - 2)) % (n : Int) = x at g2 a0 a1
        refine ⟨vs, h4, by rw [tv3.len, sizeLine_eq]; omega, vs ++ [.ref q3], ts ++ [.tup [.str "take", .tup [.str "number", .int 1], .tup [.str "line", .int x]]], upd_same, (Tame.upd h4).tvA ((tva_ex tv3 F13).append (.cons ?_ .nil)), by rw [List.length_append, lts]; rfl, fun t' ht' => ?_, ex_new hD (E3.trans F13)⟩
        · exact .tup (.of g3) (.cons (.str _ (by decide)) (.cons (.tup (sqt_ex (.of g1) (F2.trans F3)) (.cons (.str _ (by decide)) (.cons (.int _) .nil))) (.cons (.tup (sqt_ex (.of g2) F3) (.cons (.str _ (by decide)) (.cons (.int _) .nil))) .nil)))
        · rcases List.mem_append.mp ht' with h | h
          · exact hru t' h
          · rw [List.mem_singleton] at h
            subst h
            rw [(R_two _ _ _ _ (by decide)).2, List.all_cons, List.all_cons, List.all_nil, R_number, R_line, place_nat a0 a1]
            decide
      · rintro D H3 hD ⟨vs, ts, h3, tv3, lts, hru, E3⟩
        rw [Int.toNat_natCast] at lts
        walk_at "rd"
        exact ⟨D, vs, ts, _, rfl, ⟨h3, tv3, by omega, by rw [lts]; exact hru⟩, lts, sta_ex hs2 E3⟩
    · walk_at "rd"
      exact ⟨la, vs, ts, _, rfl, L2, lts, hs2⟩
  clear L2 hs2 lts la vs ts
  rintro σ H3 ⟨la, vs, ts, y, rfl, L3, lts, hs3⟩
  refine rd_cut (fun σ H' => ∃ la vs ts y, σ = [some (.ref l), some (.ref st), some (.int c), some (.int n), some (.ref la), y, none, none, none, none, none] ∧ LinesAt K H' la vs ts) ?_ ?_
  · walk_at "rd"
    refine rd_ite (fun h => ?_) (fun h => ?_)
    · walk_at "rd"
      obtain ⟨m, em, m1, m8⟩ : ∃ m : Nat, (if (8 : Int) < (n : Int) then (8 : Int) else (n : Int)) = ((m : Nat) : Int) ∧ 1 ≤ m ∧ m ≤ 8 := by
        by_cases h8 : (8 : Int) < (n : Int)
        · exact ⟨8, by rw [if_pos h8]; rfl, by omega, by omega⟩
        · exact ⟨n, by rw [if_neg h8], n1, by omega⟩
      rw [em]
      refine rd_sp2 ⟨st, m, rfl, rfl, hs3, m8, fun p vs ts H4 h4 tv4 l4 hru4 => ?_⟩
      walk_at "rd"
      exact ⟨p, vs, ts, _, rfl, h4, tv4, by omega, by rw [l4]; exact hru4⟩
    · walk_at "rd"
      exact ⟨la, vs, ts, _, rfl, L3⟩
  clear L3 hs3 lts la vs ts y
  rintro σ H4 ⟨la, vs, ts, y, rfl, L4⟩
  have lv : vs.length = ts.length := L4.tv.len
  have hla4 := L4.at_
  walk_at "rd"
  refine lcW_L vs (fun D i H' => ∃ as : List Addr, H' D = some (.lst (as.map V.ref)) ∧ as.length = i ∧ Ex H4 H' ∧ ∀ (j : Nat) (r : List Nat), j < i → (nmOf ts)[j]? = some r → ∃ a, as[j]? = some a ∧ a ≠ D ∧ H' a = some (.lst (r.map iv))) ?_ ?_ ?_ ?_
  · exact fun D H' hD e h => ⟨[], h, rfl, e, fun j r hj => absurd hj (Nat.not_lt_zero _)⟩
  · rintro D i H' hD hi ⟨as, _, _, e, _⟩
    exact .of (e _ _ L4.at_)
  · rintro D i v H' hD hv ⟨as, hD', la', e, hrows⟩
    obtain ⟨t, ht, vt⟩ := L4.tv.getV hv
    have hi : i < ts.length := (List.getElem?_eq_some_iff.mp ht).1
    have hrule := L4.rule t (List.mem_of_getElem? ht)
    walk_at "lcn"
    walk_at "rd"
    refine rd_sp2 ⟨t, _, "line", tv_ex vt e, rfl, five_line, hrule, by omega, fun p H1 ls hls _ hp E1 h1 => ?_⟩
    have hls' : ls = (rowK ts.length (beh "line" 8 t)).map ik := by
      refine places_all hls fun k hk => ?_
      obtain ⟨x, rfl, x0, x1⟩ := beh_place 8 t hrule k hk
      show (decide (0 ≤ x) && decide (x < (ts.length : Int))) = true
      have x1 : x < (ts.length : Int) := x1
      simp [x0, x1]
    rw [hls', iv_key] at h1
    have hD1 := E1 _ _ hD'
    have nD : p ≠ D := by rintro rfl; rw [hD'] at hp; cases hp
    have few := L4.few
    refine ⟨_, hD1, by rw [List.length_map, sizeLine_eq]; omega, as ++ [p], by rw [upd_same, List.map_append]; rfl, by rw [List.length_append, la']; rfl, ex_new hD (e.trans E1), fun j r hj hr => ?_⟩
    by_cases ej : j = i
    · subst ej
      refine ⟨p, by rw [List.getElem?_append_right (by omega), la', Nat.sub_self]; rfl, nD, ?_⟩
      rw [upd_ne nD, h1]
      rw [nmOf_get, ht] at hr
      cases hr
      rfl
    · obtain ⟨a, ha, hne, hh⟩ := hrows j r (by omega) hr
      refine ⟨a, by rw [List.getElem?_append_left (by omega)]; exact ha, hne, ?_⟩
      rw [upd_ne hne]
      exact E1 _ _ hh
  rintro nl H5 hnl ⟨as, h5, las, E5, hrows⟩
  have hnm : NmAt H5 nl (nmOf ts) := by
    refine ⟨as, h5, by rw [las, lv, nmOf_len], fun i r hr => ?_⟩
    have hi : i < (nmOf ts).length := (List.getElem?_eq_some_iff.mp hr).1
    rw [nmOf_len] at hi
    obtain ⟨a, ha, _, hh⟩ := hrows i r (by omega) hr
    exact ⟨a, ha, hh⟩
  have L5 := L4.ex E5
  have few := L5.few
  clear h5 las hrows L4
  walk_at "rd"
  refine rd_sp1 ⟨nl, nmOf ts, rfl, hnm, rows_nmOf ts, by rw [nmOf_len]; exact few.2, fun dv r H6 hb E6 hdv => ?_⟩
  rw [nmOf_len] at hb
  have hrl : r.length ≤ 40 := by have := best_len hb; rw [nmOf_len] at this; omega
  have hring : r = [] ∨ ∃ f, Ring (nmOf ts) f r := best_ring hb
  have L6 := L5.ex E6
  have hnm6 := hnm.ex E6
  walk_at "rd"
  refine rd_cut (fun σ H' => ∃ dp, σ = [some (.ref l), some (.ref st), some (.int c), some (.int n), some (.ref la), y, some (.ref nl), none, some (.ref dp), none, none] ∧ H' dp = some (.lst (r.map iv)) ∧ Ex H6 H') ?_ ?_
  · rcases hdv with ⟨rfl, rfl⟩ | ⟨hne, dp, rfl, hdp⟩
    · walk_at "rd"
      refine rd_isN0 rfl ?_
      walk_at "rd"
      refine new_lst fun dp H7 hdp E7 h7 => ?_
      walk_at "rd"
      exact ⟨dp, rfl, h7, E7⟩
    · walk_at "rd"
      refine rd_isN0 rfl ?_
      walk_at "rd"
      exact ⟨dp, rfl, hdp, Evl.Ex.refl _⟩
  rintro σ H7 ⟨dp, rfl, h7, E7⟩
  have L7 := L6.ex E7
  have hnm7 := hnm6.ex E7
  walk_at "rd"
  refine rd_lstOfL (.of L7.at_) fun l8 H8 hl8 E8 h8 => ?_
  walk_at "rd"
  have L8 := L7.ex E8
  refine rd_sp1 ⟨l8, vs, ts, _, rfl, .of h8, L8.tv, L8.rule, few.2, fun p9 r9 H9 hb9 hp9 E9 h9 => ?_⟩
  rw [best_uniq hb9 hb] at h9
  have L9 := L8.ex E9
  have E79 := E8.trans E9
  have hnm9 := hnm7.ex E79
  walk_at "rd"
  refine rd_isLst (t := .lst) (.lst (.of h9)) ?_
  walk_at "rd"
  have ok : ∀ k ∈ r.map ik, okK k = true := fun k hk => by
    obtain ⟨x, _, rfl⟩ := List.mem_map.mp hk
    rfl
  have cmp9 : SqL K H9 p9 ((r.map ik).map kV) := by rw [iv_key]; exact .of h9
  have cmpD : SqL K H9 dp ((r.map ik).map kV) := by rw [iv_key]; exact .of (E79 _ _ h7)
  refine rd_neSame ok cmp9 cmpD ?_
  walk_at "rd"
  refine rd_lenL (.of h9) ?_
  rw [List.length_map]
  walk_at "rd"
  refine forW_R (fun i σ H' => ∃ z, σ = [some (.ref l), some (.ref st), some (.int c), some (.int n), some (.ref la), z, some (.ref nl), none, some (.ref dp), some (.ref p9), none] ∧ H' = H9) ?_ ?_ ?_
  · exact ⟨_, rfl, rfl⟩
  · rintro i σ H' hi ⟨z, rfl, rfl⟩
    rw [Int.toNat_natCast] at hi
    have rpos : 0 < (r.length : Int) := by omega
    obtain ⟨f, hf⟩ := hring.resolve_left (by rintro rfl; exact absurd hi (Nat.not_lt_zero _))
    obtain ⟨x, y2, hx, hy, hyx⟩ := ring_next hf hi
    have hxn := row_lt hyx
    walk_at "rd"
    refine rd_lenL (.of h9) ?_
    rw [List.length_map]
    walk_at "rd"
    have e1 : (0 + (i : Int) + 1) % (r.length : Int) = (((i + 1) % r.length : Nat) : Int) := by
      rw [Int.natCast_emod]
      congr 1
      omega
    rw [e1]
    refine rd_ixL (.of h9) (atI_nat (j := (i + 1) % r.length) (v := iv y2) (by rw [List.getElem?_map, hy]; rfl)) ?_
    walk_at "rd"
    refine rd_ixL (.of h9) (i := 0 + (i : Int)) (v := iv x) (by rw [show (0 : Int) + (i : Int) = ((i : Nat) : Int) by omega]; exact atI_nat (by rw [List.getElem?_map, hx]; rfl)) ?_
    obtain ⟨rs, hn1, _, hn3⟩ := id hnm9
    obtain ⟨ra, hra, hrow⟩ := hn3 x _ (List.getElem?_eq_getElem hxn)
    have erow : (nmOf ts)[x] = row (nmOf ts) x := by unfold row; rw [List.getElem?_eq_getElem hxn]; rfl
    rw [erow] at hrow
    refine rd_ixL (.of hn1) (atI_nat (j := x) (v := .ref ra) (by rw [List.getElem?_map, hra]; rfl)) ?_
    refine rd_outN (.of hrow) ?_
    rw [decide_eq_true hyx]
    walk_at "rd"
    exact ⟨_, rfl, rfl⟩
  · rintro σ H' ⟨z, rfl, rfl⟩
    walk_at "rd"
    refine rd_lstOfL (.of L9.at_) fun l10 H10 hl10 E10 h10 => ?_
    walk_at "rd"
    have L10 := L9.ex E10
    refine rd_sp1 ⟨l10, vs, ts, _, rfl, .of h10, L10.tv, L10.rule, few.2, fun p11 r11 H11 hb11 hp11 E11 h11 => ?_⟩
    walk_at "rd"
    have E911 := E10.trans E11
    have n9 : p9 ≠ p11 := by rintro rfl; rw [E10 _ _ h9] at hp11; cases hp11
    have nd : dp ≠ p11 := by rintro rfl; rw [E10 _ _ (E79 _ _ h7)] at hp11; cases hp11
    have nla : la ≠ p11 := by rintro rfl; rw [L10.at_] at hp11; cases hp11
    have few11 : r11.length ≤ 40 := by have := best_len hb11; rw [nmOf_len] at this; omega
    refine rd_append h11 (by rw [List.length_map]; omega) ?_
    generalize eH : upd H11 p11 _ = H12
    have tm : Tame H11 H12 := by rw [← eH]; exact Tame.upd h11
    have h12 : H12 p9 = some (.lst (r.map iv)) := by rw [← eH, upd_ne n9]; exact E911 _ _ h9
    have d12 : H12 dp = some (.lst (r.map iv)) := by rw [← eH, upd_ne nd]; exact E911 _ _ (E79 _ _ h7)
    have la12 : H12 la = some (.lst vs) := by rw [← eH, upd_ne nla]; exact E911 _ _ L9.at_
    have tv12 : TvA K H12 vs ts := tm.tvA (tva_ex L9.tv E911)
    walk_at "rd"
    refine rd_eqSame ok (by rw [iv_key]; exact .of h12) (by rw [iv_key]; exact .of d12) ?_
    walk_at "rd"
    refine rd_sp1 ⟨la, vs, ts, _, rfl, .of la12, tv12, L9.rule, few.2, fun p13 r13 H13 hb13 hp13 E13 h13 => ?_⟩
    rw [best_uniq hb13 hb] at h13
    walk_at "rd"
    refine rd_eqSame ok (by rw [iv_key]; exact .of h13) (by rw [iv_key]; exact .of (E13 _ _ d12)) ?_
    exact q _
theorem all (T : Tx K w mg) : Cal P w K mg base "law" 30 plaw (spLaw K) := by
  have a1 := k_is_whole (P := P) (base := base) T
  have a2 := k_is_within T a1
  have a5 := k_is_place T a1 a2
  have a9 := k_named T (k_behn (P := P) (base := base) T 8)
  have b1 := k__law_next (P := P) (base := base) T
  have b2 := k_ring_of T (k__lines_named T a9 a5) (k__ring_from T)
  exact (k_law T (k__law_mixed T) (k__law_cell_at T) (k__law_line T b1) (k__law_parted T b1) (k_lnamedn T 8) (k__law_ring T (k__law_back T)) b2).mono (by omega)
end
end KF
open PySem PySem.Spec PyProof.Rows L2 Qa Qr


namespace KF

theorem tx_mk {K : PySem.W.Frag} {w : World} {mg : Str → Option Value} {h : Heap} (X : K.In h) (G : h.Ns mainGlobals mg) {f0 f1 f2 f3 f4 f5 f6 f7 f8 f9 f10 f11 f12 f13 f14 f15 f16 : Addr} {od0 an0 od1 an1 od2 an2 od3 an3 od4 an4 od5 an5 od6 an6 od7 an7 od8 an8 od9 an9 od10 an10 od11 an11 od12 an12 od13 an13 od14 an14 od15 an15 od16 an16 : Option Addr} {sl0 sl1 sl2 sl3 sl4 sl5 sl6 sl7 sl8 sl9 sl10 sl11 sl12 sl13 sl14 sl15 sl16 : Array (Option Value)} {oc0 kV0 dc0 pm0 cd0 ct0 oc1 kV1 dc1 pm1 cd1 ct1 oc2 kV2 dc2 pm2 cd2 ct2 oc3 kV3 dc3 pm3 cd3 ct3 oc4 kV4 dc4 pm4 cd4 ct4 oc5 kV5 dc5 pm5 cd5 ct5 oc6 kV6 dc6 pm6 cd6 ct6 oc7 kV7 dc7 pm7 cd7 ct7 oc8 kV8 dc8 pm8 cd8 ct8 oc9 kV9 dc9 pm9 cd9 ct9 oc10 kV10 dc10 pm10 cd10 ct10 oc11 kV11 dc11 pm11 cd11 ct11 oc12 kV12 dc12 pm12 cd12 ct12 oc13 kV13 dc13 pm13 cd13 ct13 oc14 kV14 dc14 pm14 cd14 ct14 oc15 kV15 dc15 pm15 cd15 ct15 oc16 kV16 dc16 pm16 cd16 ct16 : Value} {e0 : Addr} {es0 : Array DictEntry} {n0 : Nat}
    (z0 : PySem.W.nsIn K mainGlobals "sorted" = some none)
    (z1 : PySem.W.nsIn K mainGlobals "zip" = some none)
    (z2 : PySem.W.nsIn K mainGlobals "range" = some none)
    (z3 : PySem.W.nsIn K mainGlobals "isinstance" = some none)
    (z4 : PySem.W.nsIn K mainGlobals "int" = some none)
    (z5 : PySem.W.nsIn K mainGlobals "set" = some none)
    (z6 : PySem.W.nsIn K mainGlobals "len" = some none)
    (z7 : PySem.W.nsIn K mainGlobals "tuple" = some none)
    (z8 : PySem.W.nsIn K mainGlobals "list" = some none)
    (z9 : PySem.W.nsIn K mainGlobals "bool" = some none)
    (z10 : PySem.W.nsIn K mainGlobals "min" = some none)
    (z11 : PySem.W.nsIn K mainGlobals "any" = some none)
    (da0 : PySem.W.nsIn K mainGlobals "PARTS" = some (some (.ref e0))) (dl0 : K.lookup e0 = some ⟨.type "dict", none, .dict es0 n0, #[]⟩) (dm0 : (e0 == sysModules) = false) (dp0 : Paired (EntIs K w) es0.toList tPARTS)
    (a0 : PySem.W.nsIn K mainGlobals "is_whole" = some (some (.ref f0))) (l0 : K.lookup f0 = some ⟨oc0, od0, .func (PySem.W.fnOf "is_whole" "is_whole" (defArgs sis_whole) (defBody sis_whole) (defScope sis_whole) .none kV0 dc0 pm0 an0 cd0 ct0), sl0⟩) (c0 : PySem.W.codeIn K cd0 "is_whole" = true) (k0 : PySem.W.keepIn K (.ref f0) = true)
    (a1 : PySem.W.nsIn K mainGlobals "is_within" = some (some (.ref f1))) (l1 : K.lookup f1 = some ⟨oc1, od1, .func (PySem.W.fnOf "is_within" "is_within" (defArgs sis_within) (defBody sis_within) (defScope sis_within) .none kV1 dc1 pm1 an1 cd1 ct1), sl1⟩) (c1 : PySem.W.codeIn K cd1 "is_within" = true) (k1 : PySem.W.keepIn K (.ref f1) = true)
    (a2 : PySem.W.nsIn K mainGlobals "is_place" = some (some (.ref f2))) (l2 : K.lookup f2 = some ⟨oc2, od2, .func (PySem.W.fnOf "is_place" "is_place" (defArgs sis_place) (defBody sis_place) (defScope sis_place) .none kV2 dc2 pm2 an2 cd2 ct2), sl2⟩) (c2 : PySem.W.codeIn K cd2 "is_place" = true) (k2 : PySem.W.keepIn K (.ref f2) = true)
    (a3 : PySem.W.nsIn K mainGlobals "named" = some (some (.ref f3))) (l3 : K.lookup f3 = some ⟨oc3, od3, .func (PySem.W.fnOf "named" "named" (defArgs snamed) (defBody snamed) (defScope snamed) .none kV3 dc3 pm3 an3 cd3 ct3), sl3⟩) (c3 : PySem.W.codeIn K cd3 "named" = true) (k3 : PySem.W.keepIn K (.ref f3) = true)
    (a4 : PySem.W.nsIn K mainGlobals "_behind" = some (some (.ref f4))) (l4 : K.lookup f4 = some ⟨oc4, od4, .func (PySem.W.fnOf "_behind" "_behind" (defArgs s_behind) (defBody s_behind) (defScope s_behind) .none kV4 dc4 pm4 an4 cd4 ct4), sl4⟩) (c4 : PySem.W.codeIn K cd4 "_behind" = true) (k4 : PySem.W.keepIn K (.ref f4) = true)
    (a5 : PySem.W.nsIn K mainGlobals "ring_of" = some (some (.ref f5))) (l5 : K.lookup f5 = some ⟨oc5, od5, .func (PySem.W.fnOf "ring_of" "ring_of" (defArgs sring_of) (defBody sring_of) (defScope sring_of) .none kV5 dc5 pm5 an5 cd5 ct5), sl5⟩) (c5 : PySem.W.codeIn K cd5 "ring_of" = true) (k5 : PySem.W.keepIn K (.ref f5) = true)
    (a6 : PySem.W.nsIn K mainGlobals "_lines_named" = some (some (.ref f6))) (l6 : K.lookup f6 = some ⟨oc6, od6, .func (PySem.W.fnOf "_lines_named" "_lines_named" (defArgs s_lines_named) (defBody s_lines_named) (defScope s_lines_named) .none kV6 dc6 pm6 an6 cd6 ct6), sl6⟩) (c6 : PySem.W.codeIn K cd6 "_lines_named" = true) (k6 : PySem.W.keepIn K (.ref f6) = true)
    (a7 : PySem.W.nsIn K mainGlobals "_ring_from" = some (some (.ref f7))) (l7 : K.lookup f7 = some ⟨oc7, od7, .func (PySem.W.fnOf "_ring_from" "_ring_from" (defArgs s_ring_from) (defBody s_ring_from) (defScope s_ring_from) .none kV7 dc7 pm7 an7 cd7 ct7), sl7⟩) (c7 : PySem.W.codeIn K cd7 "_ring_from" = true) (k7 : PySem.W.keepIn K (.ref f7) = true)
    (a8 : PySem.W.nsIn K mainGlobals "_law_cell_at" = some (some (.ref f8))) (l8 : K.lookup f8 = some ⟨oc8, od8, .func (PySem.W.fnOf "_law_cell_at" "_law_cell_at" (defArgs s_law_cell_at) (defBody s_law_cell_at) (defScope s_law_cell_at) .none kV8 dc8 pm8 an8 cd8 ct8), sl8⟩) (c8 : PySem.W.codeIn K cd8 "_law_cell_at" = true) (k8 : PySem.W.keepIn K (.ref f8) = true)
    (a9 : PySem.W.nsIn K mainGlobals "_law_mixed" = some (some (.ref f9))) (l9 : K.lookup f9 = some ⟨oc9, od9, .func (PySem.W.fnOf "_law_mixed" "_law_mixed" (defArgs s_law_mixed) (defBody s_law_mixed) (defScope s_law_mixed) .none kV9 dc9 pm9 an9 cd9 ct9), sl9⟩) (c9 : PySem.W.codeIn K cd9 "_law_mixed" = true) (k9 : PySem.W.keepIn K (.ref f9) = true)
    (a10 : PySem.W.nsIn K mainGlobals "_law_next" = some (some (.ref f10))) (l10 : K.lookup f10 = some ⟨oc10, od10, .func (PySem.W.fnOf "_law_next" "_law_next" (defArgs s_law_next) (defBody s_law_next) (defScope s_law_next) .none kV10 dc10 pm10 an10 cd10 ct10), sl10⟩) (c10 : PySem.W.codeIn K cd10 "_law_next" = true) (k10 : PySem.W.keepIn K (.ref f10) = true)
    (a11 : PySem.W.nsIn K mainGlobals "_law_named" = some (some (.ref f11))) (l11 : K.lookup f11 = some ⟨oc11, od11, .func (PySem.W.fnOf "_law_named" "_law_named" (defArgs s_law_named) (defBody s_law_named) (defScope s_law_named) .none kV11 dc11 pm11 an11 cd11 ct11), sl11⟩) (c11 : PySem.W.codeIn K cd11 "_law_named" = true) (k11 : PySem.W.keepIn K (.ref f11) = true)
    (a12 : PySem.W.nsIn K mainGlobals "_law_line" = some (some (.ref f12))) (l12 : K.lookup f12 = some ⟨oc12, od12, .func (PySem.W.fnOf "_law_line" "_law_line" (defArgs s_law_line) (defBody s_law_line) (defScope s_law_line) .none kV12 dc12 pm12 an12 cd12 ct12), sl12⟩) (c12 : PySem.W.codeIn K cd12 "_law_line" = true) (k12 : PySem.W.keepIn K (.ref f12) = true)
    (a13 : PySem.W.nsIn K mainGlobals "_law_parted" = some (some (.ref f13))) (l13 : K.lookup f13 = some ⟨oc13, od13, .func (PySem.W.fnOf "_law_parted" "_law_parted" (defArgs s_law_parted) (defBody s_law_parted) (defScope s_law_parted) .none kV13 dc13 pm13 an13 cd13 ct13), sl13⟩) (c13 : PySem.W.codeIn K cd13 "_law_parted" = true) (k13 : PySem.W.keepIn K (.ref f13) = true)
    (a14 : PySem.W.nsIn K mainGlobals "_law_back" = some (some (.ref f14))) (l14 : K.lookup f14 = some ⟨oc14, od14, .func (PySem.W.fnOf "_law_back" "_law_back" (defArgs s_law_back) (defBody s_law_back) (defScope s_law_back) .none kV14 dc14 pm14 an14 cd14 ct14), sl14⟩) (c14 : PySem.W.codeIn K cd14 "_law_back" = true) (k14 : PySem.W.keepIn K (.ref f14) = true)
    (a15 : PySem.W.nsIn K mainGlobals "_law_ring" = some (some (.ref f15))) (l15 : K.lookup f15 = some ⟨oc15, od15, .func (PySem.W.fnOf "_law_ring" "_law_ring" (defArgs s_law_ring) (defBody s_law_ring) (defScope s_law_ring) .none kV15 dc15 pm15 an15 cd15 ct15), sl15⟩) (c15 : PySem.W.codeIn K cd15 "_law_ring" = true) (k15 : PySem.W.keepIn K (.ref f15) = true)
    (a16 : PySem.W.nsIn K mainGlobals "law" = some (some (.ref f16))) (l16 : K.lookup f16 = some ⟨oc16, od16, .func (PySem.W.fnOf "law" "law" (defArgs slaw) (defBody slaw) (defScope slaw) .none kV16 dc16 pm16 an16 cd16 ct16), sl16⟩) (c16 : PySem.W.codeIn K cd16 "law" = true) (k16 : PySem.W.keepIn K (.ref f16) = true) : Tx K w mg :=
  ⟨PySem.W.mg_none_of X G z0,
   PySem.W.mg_none_of X G z1,
   PySem.W.mg_none_of X G z2,
   PySem.W.mg_none_of X G z3,
   PySem.W.mg_none_of X G z4,
   PySem.W.mg_none_of X G z5,
   PySem.W.mg_none_of X G z6,
   PySem.W.mg_none_of X G z7,
   PySem.W.mg_none_of X G z8,
   PySem.W.mg_none_of X G z9,
   PySem.W.mg_none_of X G z10,
   PySem.W.mg_none_of X G z11,
   ⟨_, PySem.W.mg_of X G da0, _, _, dl0, dm0, dp0⟩,
   ⟨_, _, fun_mk (st := sis_whole) l0 c0 k0, PySem.W.mg_of X G a0⟩,
   ⟨_, _, fun_mk (st := sis_within) l1 c1 k1, PySem.W.mg_of X G a1⟩,
   ⟨_, _, fun_mk (st := sis_place) l2 c2 k2, PySem.W.mg_of X G a2⟩,
   ⟨_, _, fun_mk (st := snamed) l3 c3 k3, PySem.W.mg_of X G a3⟩,
   ⟨_, _, fun_mk (st := s_behind) l4 c4 k4, PySem.W.mg_of X G a4⟩,
   ⟨_, _, fun_mk (st := sring_of) l5 c5 k5, PySem.W.mg_of X G a5⟩,
   ⟨_, _, fun_mk (st := s_lines_named) l6 c6 k6, PySem.W.mg_of X G a6⟩,
   ⟨_, _, fun_mk (st := s_ring_from) l7 c7 k7, PySem.W.mg_of X G a7⟩,
   ⟨_, _, fun_mk (st := s_law_cell_at) l8 c8 k8, PySem.W.mg_of X G a8⟩,
   ⟨_, _, fun_mk (st := s_law_mixed) l9 c9 k9, PySem.W.mg_of X G a9⟩,
   ⟨_, _, fun_mk (st := s_law_next) l10 c10 k10, PySem.W.mg_of X G a10⟩,
   ⟨_, _, fun_mk (st := s_law_named) l11 c11 k11, PySem.W.mg_of X G a11⟩,
   ⟨_, _, fun_mk (st := s_law_line) l12 c12 k12, PySem.W.mg_of X G a12⟩,
   ⟨_, _, fun_mk (st := s_law_parted) l13 c13 k13, PySem.W.mg_of X G a13⟩,
   ⟨_, _, fun_mk (st := s_law_back) l14 c14 k14, PySem.W.mg_of X G a14⟩,
   ⟨_, _, fun_mk (st := s_law_ring) l15 c15 k15, PySem.W.mg_of X G a15⟩,
   ⟨_, _, fun_mk (st := slaw) l16 c16 k16, PySem.W.mg_of X G a16⟩⟩

theorem fin {P : Program} {w : World} {K : PySem.W.Frag} {mg : Str → Option Value} {fa : Addr} (hfa : mg "law" = some (.ref fa)) (T : Tx K w mg) :
    ∃ fd : FuncData, (∀ (s : Shared) (v : Value), BindsTo s fd ⟨[v], []⟩ [("_law_script", v)]) ∧ ∀ base : Heap, K.In base → base.Ns mainGlobals mg → FnOk P w K mg base CX0 30 fa fd ["_law_script"] (spLaw K) := by
  obtain ⟨fd, b, f⟩ := law_fd (P := P) (w := w) (good := fun _ => True) T.F_law blaw hfa fun base _ => all T
  exact ⟨fd, b, fun base _ _ => f base trivial⟩
end KF
open PySem PySem.W PyProof.Rows
set_option maxHeartbeats 0 in
theorem PySem.Challenge.cw_formlines_k04_rings_holds : PySem.Challenge.rw_formlines_k04_rings.Holds := by
  w_on; o_law; k_head; (case hw => w_witness2)
  k_fill
  refine L2.walk_of (l := PySem.Challenge.rw_formlines_k04_rings) (n := 63) (k := 30) (x := "_law_script") (CX := fun _ => L2.CX0) (sp := fun w => KF.spLaw _) rfl (by decide) rfl ⟨rfl, by decide, by decide⟩ (fun w h Y => PySem.W.kIn_of Y) ?F (fun _ _ a ns hl _ hS => ⟨_, rfl, a, ns, rfl, hS, fun _ => rfl⟩) (fun _ _ _ _ _ h => h)
  case F =>
    intro w mg fa h KX G hmg
    refine' KF.fin hmg (KF.tx_mk KX G ?z0 ?z1 ?z2 ?z3 ?z4 ?z5 ?z6 ?z7 ?z8 ?z9 ?z10 ?z11 ?da0 ?dl0 ?dm0 ?dp0 ?a0 ?l0 ?c0 ?k0 ?a1 ?l1 ?c1 ?k1 ?a2 ?l2 ?c2 ?k2 ?a3 ?l3 ?c3 ?k3 ?a4 ?l4 ?c4 ?k4 ?a5 ?l5 ?c5 ?k5 ?a6 ?l6 ?c6 ?k6 ?a7 ?l7 ?c7 ?k7 ?a8 ?l8 ?c8 ?k8 ?a9 ?l9 ?c9 ?k9 ?a10 ?l10 ?c10 ?k10 ?a11 ?l11 ?c11 ?k11 ?a12 ?l12 ?c12 ?k12 ?a13 ?l13 ?c13 ?k13 ?a14 ?l14 ?c14 ?k14 ?a15 ?l15 ?c15 ?k15 ?a16 ?l16 ?c16 ?k16)
    (case z0 => k_is)
    (case z1 => k_is)
    (case z2 => k_is)
    (case z3 => k_is)
    (case z4 => k_is)
    (case z5 => k_is)
    (case z6 => k_is)
    (case z7 => k_is)
    (case z8 => k_is)
    (case z9 => k_is)
    (case z10 => k_is)
    (case z11 => k_is)
    (case da0 => k_is)
    (case dl0 => k_is)
    (case dm0 => decide)
    (case dp0 => walk_at "tab")
    (case a0 => k_is)
    (case l0 => k_is)
    (case c0 => k_is)
    (case k0 => k_is)
    (case a1 => k_is)
    (case l1 => k_is)
    (case c1 => k_is)
    (case k1 => k_is)
    (case a2 => k_is)
    (case l2 => k_is)
    (case c2 => k_is)
    (case k2 => k_is)
    (case a3 => k_is)
    (case l3 => k_is)
    (case c3 => k_is)
    (case k3 => k_is)
    (case a4 => k_is)
    (case l4 => k_is)
    (case c4 => k_is)
    (case k4 => k_is)
    (case a5 => k_is)
    (case l5 => k_is)
    (case c5 => k_is)
    (case k5 => k_is)
    (case a6 => k_is)
    (case l6 => k_is)
    (case c6 => k_is)
    (case k6 => k_is)
    (case a7 => k_is)
    (case l7 => k_is)
    (case c7 => k_is)
    (case k7 => k_is)
    (case a8 => k_is)
    (case l8 => k_is)
    (case c8 => k_is)
    (case k8 => k_is)
    (case a9 => k_is)
    (case l9 => k_is)
    (case c9 => k_is)
    (case k9 => k_is)
    (case a10 => k_is)
    (case l10 => k_is)
    (case c10 => k_is)
    (case k10 => k_is)
    (case a11 => k_is)
    (case l11 => k_is)
    (case c11 => k_is)
    (case k11 => k_is)
    (case a12 => k_is)
    (case l12 => k_is)
    (case c12 => k_is)
    (case k12 => k_is)
    (case a13 => k_is)
    (case l13 => k_is)
    (case c13 => k_is)
    (case k13 => k_is)
    (case a14 => k_is)
    (case l14 => k_is)
    (case c14 => k_is)
    (case k14 => k_is)
    (case a15 => k_is)
    (case l15 => k_is)
    (case c15 => k_is)
    (case k15 => k_is)
    (case a16 => k_is)
    (case l16 => k_is)
    (case c16 => k_is)
    (case k16 => k_is)

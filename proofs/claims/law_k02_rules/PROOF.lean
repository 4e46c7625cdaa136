import PyProof.Rows.All
import Wide.All
import OpenK.AllK
import Wide.FinOn
import HandS.ForMost
import HandS.Evl
import HandS.IsInst
import HandS.Walk
import HandS.Zip
import HandS.TupAny
import HandS.More
import HandS.Set
import HandS.SetFor
import HandS.SetKeys
import HandS.SortInts
import PyProof.Rows.SortShellAny
import HandS.Conv
import PySem.Challenge.RW_formlines_k02_rules
set_option Elab.async false
set_option linter.all false
set_option maxRecDepth 100000
set_option maxHeartbeats 4000000
namespace Qa
open PySem PySem.Spec PyProof.Rows L2

/-- a def that can be called by its name -/
def Cal (P : Program) (w : World) (K : PySem.W.Frag) (mg : Str → Option Value) (base : Heap) (x : Str) (k : Nat) (ps : List Str) (sp : Sp) : Prop :=
  ∃ f fd, FnOk P w K mg base CX0 k f fd ps sp ∧ mg x = some (.ref f) ∧ PySem.W.keepIn K (.ref f) = true ∧ Binds K fd ps [] ∧ ∃ oc od osl, K.lookup f = some ⟨oc, od, .func fd, osl⟩
def tCal (sp : Sp) (t : TA) : TE := fun σ H Q => t σ H fun vs H1 => sp vs H1 Q E0
theorem pe_cal {X : Cx} {x : Str} {k : Nat} {ps : List Str} {sp : Sp} {e : Expr} {es : List Expr} {t : TA} {p pos : Pos} (c : Cal X.prog X.w X.K X.mg X.base x k ps sp) (hr : Room k X.A) (ha : PA X (e :: es) t) (hg : Gl X x := by rfl)
    (hdb : (x == ("__debug__" : Str)) = false := by decide) (he : starEach (e :: es) X.env = (false, eval e X.env) :: starEach es X.env := by rfl) (hpl : (backTo pos (starEach es X.env)).any (·.1) = false := by rfl) :
    PE X (.Call (.Name x p) (e :: es) [] pos) (tCal sp t) := by
  obtain ⟨f, fd, F, hm, hk, hb, _⟩ := c
  have h := pe_call (p := p) (pos := pos) F hr hg hm hk hb Paired.nil (pass0 (X := X)) ha hdb he hpl
  have e : tCall sp [] E0 t = tCal sp t := by
    funext σ H Q
    show (t σ H fun vs H1 => sp (vs ++ []) H1 Q E0) = t σ H fun vs H1 => sp vs H1 Q E0
    congr 1
    funext vs H1
    rw [List.append_nil]
  rw [e] at h
  exact h
theorem pe_cal0 {X : Cx} {x : Str} {k : Nat} {ps : List Str} {sp : Sp} {p pos : Pos} (c : Cal X.prog X.w X.K X.mg X.base x k ps sp) (hr : Room k X.A) (hg : Gl X x := by rfl)
    (hdb : (x == ("__debug__" : Str)) = false := by decide) : PE X (.Call (.Name x p) [] [] pos) (tCal sp tNil) := by
  obtain ⟨f, fd, F, hm, hk, hb, _⟩ := c
  exact pe_call0 (p := p) (pos := pos) F hr hg hm hk hb Paired.nil (pass0 (X := X)) hdb

/-! promises by the number of arguments -/
def sp1 (f : V → Hp → VK → Prop) : Sp := fun vs H Q _ => ∃ a, vs = [a] ∧ f a H Q
def sp2 (f : V → V → Hp → VK → Prop) : Sp := fun vs H Q _ => ∃ a b, vs = [a, b] ∧ f a b H Q
def sp3 (f : V → V → V → Hp → VK → Prop) : Sp := fun vs H Q _ => ∃ a b c, vs = [a, b, c] ∧ f a b c H Q
def sp4 (f : V → V → V → V → Hp → VK → Prop) : Sp := fun vs H Q _ => ∃ a b c d, vs = [a, b, c, d] ∧ f a b c d H Q
def sp5 (f : V → V → V → V → V → Hp → VK → Prop) : Sp := fun vs H Q _ => ∃ a b c d e, vs = [a, b, c, d, e] ∧ f a b c d e H Q
theorem rd_sp1 {f : V → Hp → VK → Prop} {a : V} {H : Hp} {Q : VK} {E : XK} (h : f a H Q) : sp1 f [a] H Q E := ⟨a, rfl, h⟩
theorem rd_sp2 {f : V → V → Hp → VK → Prop} {a b : V} {H : Hp} {Q : VK} {E : XK} (h : f a b H Q) : sp2 f [a, b] H Q E := ⟨a, b, rfl, h⟩
theorem rd_sp3 {f : V → V → V → Hp → VK → Prop} {a b c : V} {H : Hp} {Q : VK} {E : XK} (h : f a b c H Q) : sp3 f [a, b, c] H Q E := ⟨a, b, c, rfl, h⟩
theorem rd_sp4 {f : V → V → V → V → Hp → VK → Prop} {a b c d : V} {H : Hp} {Q : VK} {E : XK} (h : f a b c d H Q) : sp4 f [a, b, c, d] H Q E := ⟨a, b, c, d, rfl, h⟩
theorem rd_sp5 {f : V → V → V → V → V → Hp → VK → Prop} {a b c d e : V} {H : Hp} {Q : VK} {E : XK} (h : f a b c d e H Q) : sp5 f [a, b, c, d, e] H Q E := ⟨a, b, c, d, e, rfl, h⟩
section
variable {P : Program} {w : World} {K : PySem.W.Frag} {mg : Str → Option Value} {base : Heap} {x : Str} {st : Stmt} {N ps : List Str} {k : Nat}
def FunAt (K : PySem.W.Frag) (mg : Str → Option Value) (x : Str) (st : Stmt) : Prop := ∃ f fd, Fun K x x st f fd ∧ mg x = some (.ref f)
def BindOk (x : Str) (st : Stmt) (ps : List Str) : Prop := ∀ (kV doc pm : Value) (an : Option Addr) (cdv ct : Value) (us : List Value), us.length = ps.length → bindArgs (PySem.W.fnOf x x (defArgs st) (defBody st) (defScope st) .none kV doc pm an cdv ct) ⟨us, []⟩ = pure (ps.zip us)
theorem cal_mk {sp : Sp} (F : FunAt K mg x st) (S : FnScope N ps (defScope st)) (hb : BindOk x st ps) (len : ∀ vs H Q E, sp vs H Q E → vs.length = ps.length)
    (hbody : ∀ (f : Addr) (cdv : Value) (A : Around) (outer : List Env) (s : Shared) (H : Hp) (vs : List V) (Q : VK) (E : XK), Room k (A.deeper (envOfC x (defScope st) s.heap.objs.size f cdv)) → sp vs H Q E →
      ∃ t, PSs (cxOf CX0 P w K mg base N x (defScope st) f cdv A outer s H E).nox (defBody st) t ∧ t { nx := fun _ H' => Q .non H', rt := Q } (start N vs) H) : Cal P w K mg base x (k + 1) ps sp := by
  obtain ⟨f, fd, F, hm⟩ := F
  refine ⟨f, fd, F.ok S len (hbody f), hm, F.kp, F.binds hb, ?_⟩
  obtain ⟨oc, od, kV, doc, pm, an, cdv, ct, osl, _, l, _⟩ := F.ex
  exact ⟨oc, od, osl, l⟩
theorem cal1 {f : V → Hp → VK → Prop} (F : FunAt K mg x st) (S : FnScope N ps (defScope st)) (hb : BindOk x st ps) (hn : ps.length = 1)
    (hbody : ∀ (g : Addr) (cdv : Value) (A : Around) (outer : List Env) (s : Shared) (H : Hp) (a : V) (Q : VK) (E : XK), Room k (A.deeper (envOfC x (defScope st) s.heap.objs.size g cdv)) → f a H Q →
      ∃ t, PSs (cxOf CX0 P w K mg base N x (defScope st) g cdv A outer s H E).nox (defBody st) t ∧ t { nx := fun _ H' => Q .non H', rt := Q } (start N [a]) H) : Cal P w K mg base x (k + 1) ps (sp1 f) :=
  cal_mk F S hb (fun vs H Q E h => by obtain ⟨a, rfl, _⟩ := h; exact hn.symm) fun g cdv A outer s H vs Q E hr h => by obtain ⟨a, rfl, h⟩ := h; exact hbody g cdv A outer s H a Q E hr h
theorem cal2 {f : V → V → Hp → VK → Prop} (F : FunAt K mg x st) (S : FnScope N ps (defScope st)) (hb : BindOk x st ps) (hn : ps.length = 2)
    (hbody : ∀ (g : Addr) (cdv : Value) (A : Around) (outer : List Env) (s : Shared) (H : Hp) (a b : V) (Q : VK) (E : XK), Room k (A.deeper (envOfC x (defScope st) s.heap.objs.size g cdv)) → f a b H Q →
      ∃ t, PSs (cxOf CX0 P w K mg base N x (defScope st) g cdv A outer s H E).nox (defBody st) t ∧ t { nx := fun _ H' => Q .non H', rt := Q } (start N [a, b]) H) : Cal P w K mg base x (k + 1) ps (sp2 f) :=
  cal_mk F S hb (fun vs H Q E h => by obtain ⟨a, b, rfl, _⟩ := h; exact hn.symm) fun g cdv A outer s H vs Q E hr h => by obtain ⟨a, b, rfl, h⟩ := h; exact hbody g cdv A outer s H a b Q E hr h
theorem cal3 {f : V → V → V → Hp → VK → Prop} (F : FunAt K mg x st) (S : FnScope N ps (defScope st)) (hb : BindOk x st ps) (hn : ps.length = 3)
    (hbody : ∀ (g : Addr) (cdv : Value) (A : Around) (outer : List Env) (s : Shared) (H : Hp) (a b c : V) (Q : VK) (E : XK), Room k (A.deeper (envOfC x (defScope st) s.heap.objs.size g cdv)) → f a b c H Q →
      ∃ t, PSs (cxOf CX0 P w K mg base N x (defScope st) g cdv A outer s H E).nox (defBody st) t ∧ t { nx := fun _ H' => Q .non H', rt := Q } (start N [a, b, c]) H) : Cal P w K mg base x (k + 1) ps (sp3 f) :=
  cal_mk F S hb (fun vs H Q E h => by obtain ⟨a, b, c, rfl, _⟩ := h; exact hn.symm) fun g cdv A outer s H vs Q E hr h => by obtain ⟨a, b, c, rfl, h⟩ := h; exact hbody g cdv A outer s H a b c Q E hr h
theorem cal4 {f : V → V → V → V → Hp → VK → Prop} (F : FunAt K mg x st) (S : FnScope N ps (defScope st)) (hb : BindOk x st ps) (hn : ps.length = 4)
    (hbody : ∀ (g : Addr) (cdv : Value) (A : Around) (outer : List Env) (s : Shared) (H : Hp) (a b c d : V) (Q : VK) (E : XK), Room k (A.deeper (envOfC x (defScope st) s.heap.objs.size g cdv)) → f a b c d H Q →
      ∃ t, PSs (cxOf CX0 P w K mg base N x (defScope st) g cdv A outer s H E).nox (defBody st) t ∧ t { nx := fun _ H' => Q .non H', rt := Q } (start N [a, b, c, d]) H) : Cal P w K mg base x (k + 1) ps (sp4 f) :=
  cal_mk F S hb (fun vs H Q E h => by obtain ⟨a, b, c, d, rfl, _⟩ := h; exact hn.symm) fun g cdv A outer s H vs Q E hr h => by obtain ⟨a, b, c, d, rfl, h⟩ := h; exact hbody g cdv A outer s H a b c d Q E hr h
theorem cal5 {f : V → V → V → V → V → Hp → VK → Prop} (F : FunAt K mg x st) (S : FnScope N ps (defScope st)) (hb : BindOk x st ps) (hn : ps.length = 5)
    (hbody : ∀ (g : Addr) (cdv : Value) (A : Around) (outer : List Env) (s : Shared) (H : Hp) (a b c d e : V) (Q : VK) (E : XK), Room k (A.deeper (envOfC x (defScope st) s.heap.objs.size g cdv)) → f a b c d e H Q →
      ∃ t, PSs (cxOf CX0 P w K mg base N x (defScope st) g cdv A outer s H E).nox (defBody st) t ∧ t { nx := fun _ H' => Q .non H', rt := Q } (start N [a, b, c, d, e]) H) : Cal P w K mg base x (k + 1) ps (sp5 f) :=
  cal_mk F S hb (fun vs H Q E h => by obtain ⟨a, b, c, d, e, rfl, _⟩ := h; exact hn.symm) fun g cdv A outer s H vs Q E hr h => by obtain ⟨a, b, c, d, e, rfl, h⟩ := h; exact hbody g cdv A outer s H a b c d e Q E hr h
theorem Cal.mono {sp : Sp} {j : Nat} (c : Cal P w K mg base x k ps sp) (h : k ≤ j) : Cal P w K mg base x j ps sp := by
  obtain ⟨f, fd, F, r⟩ := c
  exact ⟨f, fd, F.mono h, r⟩
end

/-- the law's own def, for the end -/
theorem law_fd {P : Program} {w : World} {K : PySem.W.Frag} {mg : Str → Option Value} {x : Str} {st : Stmt} {p : Str} {k : Nat} {sp : Sp} {fa : Addr} {good : Heap → Prop} (F : FunAt K mg x st) (hb : BindOk x st [p]) (hfa : mg x = some (.ref fa))
    (h : ∀ base : Heap, good base → Cal P w K mg base x k [p] sp) :
    ∃ fd : FuncData, (∀ (s : Shared) (v : Value), BindsTo s fd ⟨[v], []⟩ [(p, v)]) ∧ ∀ base : Heap, good base → FnOk P w K mg base CX0 k fa fd [p] sp := by
  obtain ⟨f, fd, F, hm⟩ := F
  rw [hfa] at hm
  cases hm
  obtain ⟨oc, od, kV, doc, pm, an, cdv, ct, osl, rfl, l, _⟩ := F.ex
  refine ⟨_, fun s v => .of_eq (hb kV doc pm an cdv ct [v] rfl), fun base g => ?_⟩
  obtain ⟨f', fd', F', hm', _, _, oc', od', osl', l'⟩ := h base g
  rw [hfa] at hm'
  cases hm'
  rw [l] at l'
  cases l'
  exact F'

/-! names of the module -/
theorem pe_gint {X : Cx} {x : Str} {i : Int} {pos : Pos} (hm : ∃ t, X.mg x = some (.int i t)) (hg : Gl X x := by rfl) (hd : (x == ("__debug__" : Str)) = false := by decide) : PE X (.Name x pos) (tC (.int i)) := by
  obtain ⟨t, h⟩ := hm
  exact pe_glob hg h ⟨_, rfl⟩ hd
theorem pe_gstr {X : Cx} {x : Str} {i : Str} {pos : Pos} (hm : ∃ t, X.mg x = some (.str i t)) (hg : Gl X x := by rfl) (hd : (x == ("__debug__" : Str)) = false := by decide) : PE X (.Name x pos) (tC (.str i)) := by
  obtain ⟨t, h⟩ := hm
  exact pe_glob hg h ⟨_, rfl⟩ hd
theorem pe_ty {X : Cx} {x : Str} {n : String} {pos : Pos} (hm : X.mg x = none) (hv : bootBuiltins x = some (.type n)) (hg : Gl X x := by rfl) (hn : x ≠ "__name__" := by decide) (hd : (x == ("__debug__" : Str)) = false := by decide) : PE X (.Name x pos) (tC (.ty n)) :=
  pe_bltn hg hm hv rfl hn hd

/-! operators, all kinds -/
abbrev rAddS0 : R2 := fun x y H Q => ∃ i j, x = .str i ∧ y = .str j ∧ i.length + j.length ≤ sizeLine ∧ Q (.str (i ++ j)) H
def rAddA (K : PySem.W.Frag) : R2 := fun x y H Q => (rI0 (fun i j => .int (i + j)) x y H Q ∨ rAddS0 x y H Q) ∨ (rCatA K x y H Q ∨ rCat x y H Q)
theorem op_addA {X : Cx} : OpR X (binaryOp .Add) (rAddA X.K) := (op_add.or op_add_str).or (op_catA.or op_cat)
def rEqA (K : PySem.W.Frag) : R2 := fun x y H Q => rEq x y H Q ∨ rEqD K x y H Q
def rNeA (K : PySem.W.Frag) : R2 := fun x y H Q => rNe x y H Q ∨ rNeD K x y H Q
theorem op_eqA {X : Cx} {k : Nat} (hr : Room k X.A) : OpR X (compareOp .Eq) (rEqA X.K) := op_eq.or (op_eqD hr.units)
theorem op_neA {X : Cx} {k : Nat} (hr : Room k X.A) : OpR X (compareOp .NotEq) (rNeA X.K) := op_ne.or (op_neD hr.units)
def rLenA (K : PySem.W.Frag) : List V → Hp → VK → Prop := fun xs H Q => ∃ x n, xs = [x] ∧ LenV K x H n ∧ Q (.int n) H
theorem cr_lenA {X : Cx} : CallR X (.builtin "len") (rLenA X.K) := call_len
def rTupOf (K : PySem.W.Frag) : List V → Hp → VK → Prop := fun xs H Q => ∃ p ys, xs = [.ref p] ∧ ((SqL K H p ys ∧ ∀ l, H l = none → Q (.ref l) (upd H l (.tup ys))) ∨ (SqT K H p ys ∧ Q (.ref p) H))
theorem cr_tupOf {X : Cx} : CallR X (.type "tuple") (rTupOf X.K) := call_tuple_of
def rLstOf (K : PySem.W.Frag) : List V → Hp → VK → Prop := fun xs H Q => ∃ p ys, xs = [.ref p] ∧ (SqL K H p ys ∨ SqT K H p ys) ∧ ∀ l, H l = none → Q (.ref l) (upd H l (.lst ys))
theorem cr_lstOf {X : Cx} : CallR X (.type "list") (rLstOf X.K) := call_list_of
def rInt1 : List V → Hp → VK → Prop := fun xs H Q => (∃ i, xs = [.int i] ∧ Q (.int i) H) ∨ ∃ k, xs = [.bl k] ∧ Q (.int (if k then 1 else 0)) H
theorem cr_int1 {X : Cx} : CallR X (.type "int") rInt1 := call_int1
def rMin2 : List V → Hp → VK → Prop := fun xs H Q => ∃ i j, xs = [.int i, .int j] ∧ Q (.int (if j < i then j else i)) H
theorem cr_min2 {X : Cx} (hc : X.calm = true) : CallR X (.builtin "min") rMin2 := call_min2 hc
def rMax2 : List V → Hp → VK → Prop := fun xs H Q => ∃ i j, xs = [.int i, .int j] ∧ Q (.int (if j > i then j else i)) H
theorem cr_max2 {X : Cx} (hc : X.calm = true) : CallR X (.builtin "max") rMax2 := call_max2 hc

/-! walked things, all kinds -/
theorem pi_or {X : Cx} {tg e : Expr} {a b : TI} (h : PI X tg e a) (h' : PI X tg e b) : PI X tg e (fun σ H R => a σ H R ∨ b σ H R) :=
  ⟨fun pins s σ H R I hw => hw.elim (fun z => h.run pins s σ H R I z) fun z => h'.run pins s σ H R I z⟩
def iSeq (K : PySem.W.Frag) (t : TE) : TI := fun σ H R => t σ H fun x H1 => ((∃ a, x = .ref a ∧ (∃ xs, SqL K H1 a xs) ∧ R (Itl K a) H1) ∨ (∃ a, x = .ref a ∧ (∃ xs, SqT K H1 a xs) ∧ R (Itt K a) H1)) ∨ ∃ z, x = .str z ∧ R (Its z) H1
theorem pi_seq {X : Cx} {tg e : Expr} {te : TE} (he : PE X e te) : PI X tg e (iSeq X.K te) := by
  refine ⟨fun pins s σ H R I h => ?_⟩
  refine thn (he.run pins s σ H _ I h) fun v s1 ⟨x, H1, I1, r1, q1⟩ => ?_
  rcases q1 with (q | q) | q
  · obtain ⟨a, e, ⟨xs, hq⟩, q⟩ := q
    subst e
    cases r1
    obtain ⟨its, rv, p, hz⟩ := I1.list hq
    refine wpAny_pyIter_list p.isList ?_
    refine ⟨s1.heap.objs.size, [s1.heap.objs.size], _, _, H1, rfl, I1.kept (t' := s1.toks) fun b o e => Heap.get?_push_of_some _ e, turn_list a _, ⟨_, Heap.get?_push_size _ rfl, rfl, rfl⟩, fun b hb => ?_, q⟩
    have e : b = s1.heap.objs.size := by simpa using hb
    subst e
    exact I1.fpOk (Nat.le_refl _) (I1.hok.fresh (Nat.le_refl _))
  · obtain ⟨a, e, ⟨xs, hq⟩, q⟩ := q
    subst e
    cases r1
    obtain ⟨its, rv, p, hz⟩ := I1.tuple hq
    refine wpAny_pyIter_tuple (show s1.heap.IsTuple a its.toArray from p) ?_
    refine ⟨s1.heap.objs.size, [s1.heap.objs.size], _, _, H1, rfl, I1.kept (t' := s1.toks) fun b o e => Heap.get?_push_of_some _ e, turn_tuple a _, ⟨_, Heap.get?_push_size _ rfl, rfl, rfl⟩, fun b hb => ?_, q⟩
    have e : b = s1.heap.objs.size := by simpa using hb
    subst e
    exact I1.fpOk (Nat.le_refl _) (I1.hok.fresh (Nat.le_refl _))
  · obtain ⟨z, e, q⟩ := q
    subst e
    obtain ⟨t, rfl⟩ := r1
    cases ha : z.cps.all (· < 128)
    · exact wpAny_pyIter_wide ha (pi_one (tk := s1.toks) I1 _ (turn_str _ z t "str_iterator" (.inr rfl)) ⟨_, Heap.get?_push_size _ rfl, rfl, rfl⟩ q)
    · exact wpAny_pyIter_ascii ha (pi_one (tk := s1.toks) I1 _ (turn_str _ z t "str_ascii_iterator" (.inl rfl)) ⟨_, Heap.get?_push_size _ rfl, rfl, rfl⟩ q)

/-! slices, all kinds -/
def rSlX (K : PySem.W.Frag) : V → Option Int → Option Int → Hp → VK → Prop := fun x lo hi H Q => (rSlL K x lo hi H Q ∨ rSlA K x lo hi H Q) ∨ rSlS x lo hi H Q
theorem sl_any {X : Cx} : SlR X (rSlX X.K) := (sl_list.or sl_tupA).or sl_str

/-! ### data that stays: None, truths, ints, texts, tuples; of a list only that it is one -/
inductive T where
  | non | bl (b : Bool) | int (i : Int) | str (s : Str) | tup (ts : List T) | lst
mutual
inductive Tv (K : PySem.W.Frag) (H : Hp) : V → T → Prop
  | non : Tv K H .non .non
  | bl (b : Bool) : Tv K H (.bl b) (.bl b)
  | int (i : Int) : Tv K H (.int i) (.int i)
  | str (s : Str) (h : s.length ≤ 1000) : Tv K H (.str s) (.str s)
  | tup {a : Addr} {xs : List V} {ts : List T} : SqT K H a xs → TvA K H xs ts → Tv K H (.ref a) (.tup ts)
  | lst {a : Addr} {xs : List V} : SqL K H a xs → Tv K H (.ref a) .lst
inductive TvA (K : PySem.W.Frag) (H : Hp) : List V → List T → Prop
  | nil : TvA K H [] []
  | cons {v : V} {vs : List V} {t : T} {ts : List T} : Tv K H v t → TvA K H vs ts → TvA K H (v :: vs) (t :: ts)
end
/-- tuples stay, a list stays one -/
structure Tame (H H' : Hp) : Prop where
  tup : ∀ a xs, Rd H a (.tup xs) → Rd H' a (.tup xs)
  lst : ∀ a xs, Rd H a (.lst xs) → ∃ ys, Rd H' a (.lst ys)
theorem Tame.refl (H : Hp) : Tame H H := ⟨fun _ _ h => h, fun _ xs h => ⟨xs, h⟩⟩
theorem Tame.trans {H H1 H2 : Hp} (a : Tame H H1) (b : Tame H1 H2) : Tame H H2 :=
  ⟨fun x xs h => b.tup x xs (a.tup x xs h), fun x xs h => by obtain ⟨ys, h⟩ := a.lst x xs h; exact b.lst x ys h⟩
abbrev Ex := Evl.Ex
theorem Tame.ex {H H' : Hp} (e : Ex H H') : Tame H H' := ⟨fun _ _ h => Evl.ex_rd e h, fun _ xs h => ⟨xs, Evl.ex_rd e h⟩⟩
theorem Tame.sqT {K : PySem.W.Frag} {H H' : Hp} {a : Addr} {xs : List V} (e : Tame H H') (h : SqT K H a xs) : SqT K H' a xs := h.elim (fun z => .inl (e.tup _ _ z)) .inr
theorem Tame.sqL {K : PySem.W.Frag} {H H' : Hp} {a : Addr} {xs : List V} (e : Tame H H') (h : SqL K H a xs) : ∃ ys, SqL K H' a ys :=
  h.elim (fun z => by obtain ⟨ys, q⟩ := e.lst _ _ z; exact ⟨ys, .inl q⟩) fun z => ⟨xs, .inr z⟩
theorem Tame.upd {H : Hp} {a : Addr} {xs ys : List V} (h : H a = some (.lst xs)) : Tame H (upd H a (.lst ys)) := by
  refine ⟨fun b zs q => ?_, fun b zs q => ?_⟩
  · have ne : b ≠ a := by
      rintro rfl
      rcases q with q | ⟨o, q⟩
      · rw [h] at q; cases q
      · rw [h] at q; cases q
    rcases q with q | ⟨o, q⟩
    · exact .inl (by rw [upd_ne ne]; exact q)
    · exact .inr ⟨o, by rw [upd_ne ne]; exact q⟩
  · by_cases ne : b = a
    · subst ne
      exact ⟨ys, .inl upd_same⟩
    · rcases q with q | ⟨o, q⟩
      · exact ⟨zs, .inl (by rw [upd_ne ne]; exact q)⟩
      · exact ⟨zs, .inr ⟨o, by rw [upd_ne ne]; exact q⟩⟩
section
variable {K : PySem.W.Frag} {H H' : Hp}
mutual
theorem Tame.tv (e : Tame H H') : ∀ {v : V} {t : T}, Tv K H v t → Tv K H' v t
  | _, _, .non => .non
  | _, _, .bl b => .bl b
  | _, _, .int i => .int i
  | _, _, .str s h => .str s h
  | _, _, .tup h a => .tup (e.sqT h) (Tame.tvA e a)
  | _, _, .lst h => by obtain ⟨ys, q⟩ := e.sqL h; exact .lst q
theorem Tame.tvA (e : Tame H H') : ∀ {v : List V} {t : List T}, TvA K H v t → TvA K H' v t
  | _, _, .nil => .nil
  | _, _, .cons h a => .cons (Tame.tv e h) (Tame.tvA e a)
end
theorem TvA.len : ∀ {vs : List V} {ts : List T}, TvA K H vs ts → vs.length = ts.length
  | _, _, .nil => rfl
  | _, _, .cons _ a => congrArg (· + 1) a.len
theorem TvA.get : ∀ {vs : List V} {ts : List T} {i : Nat} {t : T}, TvA K H vs ts → ts[i]? = some t → ∃ v, vs[i]? = some v ∧ Tv K H v t
  | _, _, i, _, .nil, h => by simp at h
  | _, _, 0, _, .cons h _, e => by cases (Option.some.inj e); exact ⟨_, rfl, h⟩
  | _, _, i + 1, _, .cons _ a, e => a.get (i := i) e
theorem TvA.getV : ∀ {vs : List V} {ts : List T} {i : Nat} {v : V}, TvA K H vs ts → vs[i]? = some v → ∃ t, ts[i]? = some t ∧ Tv K H v t
  | _, _, i, _, .nil, h => by simp at h
  | _, _, 0, _, .cons h _, e => by cases (Option.some.inj e); exact ⟨_, rfl, h⟩
  | _, _, i + 1, _, .cons _ a, e => a.getV (i := i) e
theorem TvA.append : ∀ {xs ys : List V} {ts us : List T}, TvA K H xs ts → TvA K H ys us → TvA K H (xs ++ ys) (ts ++ us)
  | _, _, _, _, .nil, b => b
  | _, _, _, _, .cons h a, b => .cons h (a.append b)
theorem TvA.take : ∀ {xs : List V} {ts : List T} (n : Nat), TvA K H xs ts → TvA K H (xs.take n) (ts.take n)
  | _, _, 0, _ => .nil
  | _, _, n + 1, .nil => .nil
  | _, _, n + 1, .cons h a => .cons h (a.take n)
theorem TvA.drop : ∀ {xs : List V} {ts : List T} (n : Nat), TvA K H xs ts → TvA K H (xs.drop n) (ts.drop n)
  | _, _, 0, a => a
  | _, _, n + 1, .nil => .nil
  | _, _, n + 1, .cons _ a => a.drop n
def cutT (xs : List T) (lo hi : Option Int) : List T := (xs.drop (HT.sIx xs.length 0 lo)).take (HT.sIx xs.length xs.length hi - HT.sIx xs.length 0 lo)
theorem TvA.cut {xs : List V} {ts : List T} (h : TvA K H xs ts) (lo hi : Option Int) : TvA K H (cutV xs lo hi) (cutT ts lo hi) := by
  unfold cutV cutT
  rw [h.len]
  exact (h.drop _).take _
end
theorem TvA.one {K : PySem.W.Frag} {H : Hp} {v : V} {t : T} (h : Tv K H v t) : TvA K H [v] [t] := .cons h .nil
theorem Tv.tupE {K : PySem.W.Frag} {H : Hp} {v : V} {ts : List T} (h : Tv K H v (.tup ts)) : ∃ a xs, v = .ref a ∧ SqT K H a xs ∧ TvA K H xs ts := by
  cases h with | tup h a => exact ⟨_, _, rfl, h, a⟩
theorem TvA.consE {K : PySem.W.Frag} {H : Hp} {vs : List V} {t : T} {ts : List T} (h : TvA K H vs (t :: ts)) : ∃ x xs, vs = x :: xs ∧ Tv K H x t ∧ TvA K H xs ts := by
  cases h with | cons h a => exact ⟨_, _, rfl, h, a⟩
theorem TvA.nilE {K : PySem.W.Frag} {H : Hp} {vs : List V} (h : TvA K H vs []) : vs = [] := by cases h; rfl
theorem Tv.intE {K : PySem.W.Frag} {H : Hp} {v : V} {i : Int} (h : Tv K H v (.int i)) : v = .int i := by cases h; rfl
theorem Tv.strE {K : PySem.W.Frag} {H : Hp} {v : V} {i : Str} (h : Tv K H v (.str i)) : v = .str i := by cases h; rfl
theorem Tv.blE {K : PySem.W.Frag} {H : Hp} {v : V} {i : Bool} (h : Tv K H v (.bl i)) : v = .bl i := by cases h; rfl
theorem Tv.nonE {K : PySem.W.Frag} {H : Hp} {v : V} (h : Tv K H v .non) : v = .non := by cases h; rfl

theorem TvA.mem {K : PySem.W.Frag} {H : Hp} {vs : List V} {ts : List T} {v : V} (h : TvA K H vs ts) (m : v ∈ vs) : ∃ t, t ∈ ts ∧ Tv K H v t := by
  obtain ⟨i, e⟩ := List.getElem?_of_mem m
  obtain ⟨t, e2, hv⟩ := h.getV e
  exact ⟨t, List.mem_of_getElem? e2, hv⟩
/-! isinstance by kind -/
def tyT : T → String
  | .non => "NoneType" | .bl _ => "bool" | .int _ => "int" | .str _ => "str" | .tup _ => "tuple" | .lst => "list"
theorem Tv.ty {K : PySem.W.Frag} {H : Hp} {v : V} {t : T} (h : Tv K H v t) : TyX K H v (.type (tyT t)) := by
  cases h with
  | non => exact .base .non
  | bl b => exact .base (.bl b)
  | int i => exact .base (.int i)
  | str i _ => exact .base (.str i)
  | tup h _ =>
    rcases h with (h | ⟨o, h⟩) | ⟨o, its, n, h, c, _⟩
    · exact .base (.tup h)
    · exact .fTuple h
    · exact .kTuple h c
  | lst h =>
    rcases h with (h | ⟨o, h⟩) | ⟨o, its, n, h, c, _⟩
    · exact .base (.lst h)
    · exact .base (.frz h)
    · exact .kList h c
def isS (s n : String) : Bool := n == s || (s == "bool" && n == "int")
def isT (t : T) (n : String) : Bool := isS (tyT t) n
theorem kitS : ∀ s ∈ ["NoneType", "bool", "int", "str", "tuple", "list"], ∀ n ∈ ["int", "bool", "str", "tuple", "list"], kitB s n = some (isS s n) := by decide +kernel
theorem isT_kit {K : PySem.W.Frag} (t : T) {n : String} (hn : n ∈ ["int", "bool", "str", "tuple", "list"]) : PySem.W.kitOne K (.type (tyT t)) (.type n) = some (isT t n) := by
  refine kit_ty (kitS _ ?_ n hn)
  cases t <;> simp [tyT]
def isInt : T → Bool | .int _ => true | .bl _ => true | _ => false
def isBool : T → Bool | .bl _ => true | _ => false
def isStr : T → Bool | .str _ => true | _ => false
def isTup : T → Bool | .tup _ => true | _ => false
def isLst : T → Bool | .lst => true | _ => false
section
variable {K : PySem.W.Frag} {H : Hp} {Q : VK} {v : V} {t : T}
theorem rd_isi {n : String} {b : Bool} (h : Tv K H v t) (hn : n ∈ ["int", "bool", "str", "tuple", "list"]) (e : isT t n = b) (q : Q (.bl b) H) : rIsi K [v, .ty n] H Q :=
  ⟨v, .ty n, _, _, _, rfl, .ty n, h.ty, isT_kit t hn, by rw [e]; exact q⟩
theorem rd_isInt (h : Tv K H v t) (q : Q (.bl (isInt t)) H) : rIsi K [v, .ty "int"] H Q := rd_isi h (by decide) (by cases t <;> rfl) q
theorem rd_isBool (h : Tv K H v t) (q : Q (.bl (isBool t)) H) : rIsi K [v, .ty "bool"] H Q := rd_isi h (by decide) (by cases t <;> rfl) q
theorem rd_isStr (h : Tv K H v t) (q : Q (.bl (isStr t)) H) : rIsi K [v, .ty "str"] H Q := rd_isi h (by decide) (by cases t <;> rfl) q
theorem rd_isTup (h : Tv K H v t) (q : Q (.bl (isTup t)) H) : rIsi K [v, .ty "tuple"] H Q := rd_isi h (by decide) (by cases t <;> rfl) q
theorem rd_isLst (h : Tv K H v t) (q : Q (.bl (isLst t)) H) : rIsi K [v, .ty "list"] H Q := rd_isi h (by decide) (by cases t <;> rfl) q
end

/-! ### reading step by step -/
section
variable {K : PySem.W.Frag} {σ : L2.St} {H : Hp} {Q : VK} {ta tb tc te : TE} {tt tu : TT} {x y v : V} {D : Ends} {s1 s2 : TS}
theorem rd_var {i : Nat} (h : σ[i]? = some (some v)) (q : Q v H) : tVar i σ H Q := ⟨v, h, q⟩
theorem rd_c (q : Q v H) : tC v σ H Q := q
theorem rd_op {r : R2} (q : ta σ H fun x H1 => tb σ H1 fun y H2 => r x y H2 Q) : tOp r ta tb σ H Q := q
theorem rd_un {r : V → Hp → VK → Prop} (q : ta σ H fun x H1 => r x H1 Q) : tUn r ta σ H Q := q
theorem rd_cb {r : List V → Hp → VK → Prop} {t : TA} (q : t σ H fun vs H1 => r vs H1 Q) : tCB r t σ H Q := q
theorem rd_cal {sp : Sp} {t : TA} (q : t σ H fun vs H1 => sp vs H1 Q E0) : tCal sp t σ H Q := q
theorem rd_cons {t : TA} {R : List V → Hp → Prop} (q : ta σ H fun x H1 => t σ H1 fun xs H2 => R (x :: xs) H2) : tCons ta t σ H R := q
theorem rd_nil {R : List V → Hp → Prop} (q : R [] H) : tNil σ H R := q
def NewL (xs : List V) (H : Hp) (Q : VK) : Prop := xs.length ≤ sizeLine ∧ ∀ p, H p = none → Q (.ref p) (upd H p (.lst xs))
def NewT (xs : List V) (H : Hp) (Q : VK) : Prop := xs.length ≤ sizeLine ∧ ∀ p, H p = none → Q (.ref p) (upd H p (.tup xs))
theorem rd_tup {t : TA} (q : t σ H fun xs H1 => NewT xs H1 Q) : tTup t σ H Q := q
theorem rd_lst {t : TA} (q : t σ H fun xs H1 => NewL xs H1 Q) : tLst t σ H Q := q
theorem new_tup {xs : List V} (q : ∀ p H', H p = none → Ex H H' → H' p = some (.tup xs) → Q (.ref p) H') (hl : xs.length ≤ 1000 := by first | decide | assumption | simp) : NewT xs H Q :=
  ⟨Nat.le_of_lt (small1000 hl), fun p hp => q p _ hp (Evl.Ex.new hp) upd_same⟩
theorem new_lst {xs : List V} (q : ∀ p H', H p = none → Ex H H' → H' p = some (.lst xs) → Q (.ref p) H') (hl : xs.length ≤ 1000 := by first | decide | assumption | simp) : NewL xs H Q :=
  ⟨Nat.le_of_lt (small1000 hl), fun p hp => q p _ hp (Evl.Ex.new hp) upd_same⟩
theorem rd_test {R : Bool → Hp → Prop} (q : te σ H fun x H' => ∃ k, x = .bl k ∧ R k H') : tTest te σ H R := q
theorem rd_tB {R : Bool → Hp → Prop} (q : te σ H fun x H' => ∃ k, x = .bl k ∧ R k H') : tB te σ H R := q
theorem rd_bl {b : Bool} {R : Bool → Hp → Prop} (q : R b H) : ∃ k, V.bl b = .bl k ∧ R k H := ⟨b, rfl, q⟩
theorem rd_blP {b : Bool} {P : Bool → Prop} (q : P b) : ∃ k, V.bl b = .bl k ∧ P k := ⟨b, rfl, q⟩
def tTru (K : PySem.W.Frag) (ta : TE) : TT := fun σ H Q => ta σ H fun x H' => ∃ k, TruV K x H' k ∧ Q k H'
theorem pt_tru {X : Cx} {a : Expr} {ta : TE} (ha : PE X a ta) (he : ∀ whole, isTrue a X.env whole = (do let v ← whole; standAt a.pos; holding [v] (truthy v)) := by intro _; rfl) : PT X a (tTru X.K ta) := pt_truth ha he
theorem rd_tru {R : Bool → Hp → Prop} (q : ta σ H fun x H' => ∃ k, TruV K x H' k ∧ R k H') : tTru K ta σ H R := q
theorem rd_trub {b : Bool} {R : Bool → Prop} (q : R b) : ∃ k, TruV K (.bl b) H k ∧ R k := ⟨b, rfl, q⟩
theorem rd_trui {i : Int} {R : Bool → Prop} (q : R (i != 0)) : ∃ k, TruV K (.int i) H k ∧ R k := ⟨_, rfl, q⟩
theorem rd_trun {R : Bool → Prop} (q : R false) : ∃ k, TruV K .non H k ∧ R k := ⟨_, rfl, q⟩
theorem rd_truT {ts : List T} (h : Tv K H v (.tup ts)) {R : Bool → Prop} (q : R (!ts.isEmpty)) : ∃ k, TruV K v H k ∧ R k := by
  obtain ⟨a, xs, rfl, hs, ha⟩ := h.tupE
  refine ⟨_, .inr (.inl ⟨xs, hs, rfl⟩), ?_⟩
  have e : xs.isEmpty = ts.isEmpty := by cases ha <;> rfl
  rw [e]; exact q
theorem rd_truL {a : Addr} {xs : List V} (h : SqL K H a xs) {R : Bool → Prop} (q : R (!xs.isEmpty)) : ∃ k, TruV K (.ref a) H k ∧ R k := ⟨_, .inl ⟨xs, h, rfl⟩, q⟩
theorem rd_not {R : Bool → Hp → Prop} (q : tt σ H fun c H1 => R (!c) H1) : tNot tt σ H R := q
theorem rd_and {R : Bool → Hp → Prop} (q : tt σ H fun c H1 => if c = true then tu σ H1 R else R false H1) : tAnd tt tu σ H R := q
theorem rd_or {R : Bool → Hp → Prop} (q : tt σ H fun c H1 => if c = true then R true H1 else tu σ H1 R) : tOr tt tu σ H R := q
theorem rd_andV (q : ta σ H fun x H1 => ∃ c, x = .bl c ∧ if c = true then tb σ H1 Q else Q (.bl false) H1) : tAndV ta tb σ H Q := q
theorem rd_orV (q : ta σ H fun x H1 => ∃ c, x = .bl c ∧ if c = true then Q (.bl true) H1 else tb σ H1 Q) : tOrV ta tb σ H Q := q
theorem rd_notV (q : ta σ H fun x H1 => ∃ c, x = .bl c ∧ Q (.bl (!c)) H1) : tNotV ta σ H Q := q
theorem rd_ifE (q : tt σ H fun c H1 => if c = true then ta σ H1 Q else tb σ H1 Q) : tIf tt ta tb σ H Q := q
theorem rd_chain {r r' : R2} (q : ta σ H fun x H1 => tb σ H1 fun y H2 => r x y H2 fun z H3 => ∃ k, z = .bl k ∧ if k = true then tc σ H3 fun w H4 => r' y w H4 Q else Q (.bl false) H3) : tChain r r' ta tb tc σ H Q := q
theorem rd_seq (q : s1 { D with nx := s2 D } σ H) : tSeq s1 s2 D σ H := q
theorem rd_cut (M : L2.St → Hp → Prop) (h : s1 { D with nx := M } σ H) (k : ∀ σ' H', M σ' H' → s2 D σ' H') : Evl.tCut s1 s2 D σ H := ⟨M, h, k⟩
theorem rd_asg {g : TG} (q : te σ H fun x H1 => g x σ H1 D.nx) : tAsg te g D σ H := q
theorem rd_name {i : Nat} {σ' : L2.St} {R : L2.St → Hp → Prop} (e : σ.set i (some v) = σ') (q : R σ' H) : gName i v σ H R := by subst e; exact q
theorem rd_ifS (q : tt σ H fun b H1 => if b = true then s1 D σ H1 else s2 D σ H1) : tIfS tt s1 s2 D σ H := q
theorem rd_ret (q : te σ H D.rt) : tRet te D σ H := q
theorem rd_retN (q : D.rt .non H) : tRetN D σ H := q
theorem rd_drop (q : te σ H fun _ H1 => D.nx σ H1) : tDrop te D σ H := q
theorem rd_next (q : D.nx σ H) : tNext D σ H := q
theorem rd_brk (q : D.bk σ H) : tBreak D σ H := q
theorem rd_cont (q : D.ct σ H) : tCont D σ H := q
theorem rd_aug {i : Nat} {ti : TIp} {σ' : L2.St → L2.V → L2.St} (h : σ[i]? = some (some x)) (q : te σ H fun y H1 => ti x y H1 fun z H2 => gName i z σ H2 D.nx) : tAug i te ti D σ H := ⟨x, h, q⟩
theorem rd_par {i j : Nat} {t : TA} (q : t σ H fun vs H1 => ∃ v w, vs = [v, w] ∧ D.nx ((σ.set i (some v)).set j (some w)) H1) : tPar i j t D σ H := q
theorem rd_par2 {i j : Nat} {a b : V} {σ' : L2.St} {R : L2.St → Hp → Prop} (e : (σ.set i (some a)).set j (some b) = σ') (q : R σ' H) : ∃ v w, [a, b] = [v, w] ∧ R ((σ.set i (some v)).set j (some w)) H := ⟨a, b, rfl, by rw [e]; exact q⟩
theorem rd_gtup {n : Nat} {t : TGs} {a : Addr} {xs : List V} {R : L2.St → Hp → Prop} (h : SqT K H a xs) (hl : xs.length = n) (q : t xs σ H R) : gTup K n t (.ref a) σ H R := ⟨a, xs, rfl, h, hl, q⟩
theorem rd_gcons {g : TG} {t : TGs} {xs : List V} {R : L2.St → Hp → Prop} (q : g x σ H fun σ' H' => t xs σ' H' R) : gCons g t (x :: xs) σ H R := ⟨x, xs, rfl, q⟩
theorem rd_gnil {R : L2.St → Hp → Prop} (q : R σ H) : gNil [] σ H R := ⟨rfl, q⟩
theorem rd_gsub {to ti : TE} {t : TSet} {R : L2.St → Hp → Prop} (q : to σ H fun o H1 => ti σ H1 fun i H2 => t o i v H2 fun H3 => R σ H3) : gSub to ti t v σ H R := q
theorem rd_setL {p : Addr} {xs : List V} {k : Int} {j : Nat} {R : Hp → Prop} (h : H p = some (.lst xs)) (hk : ixN xs.length k = some j) (q : R (upd H p (.lst (xs.set j v)))) : rSetL (.ref p) (.int k) v H R := ⟨p, xs, k, j, rfl, rfl, h, hk, q⟩
theorem rd_bm {T' : String} {r : V → List V → Hp → VK → Prop} {to : TE} {t : TA} (q : to σ H fun x H1 => tyV K T' x H1 ∧ t σ H1 fun xs H2 => r x xs H2 Q) : tBM K T' r to t σ H Q := q
theorem rd_tyL {a : Addr} {xs : List V} {B : Prop} (h : SqL K H a xs) (q : B) : tyV K "list" (.ref a) H ∧ B := ⟨.inl ⟨rfl, _, h⟩, q⟩
theorem rd_append {l : Addr} {xs : List V} {y : V} (h : H l = some (.lst xs)) (hl : xs.length < 1000) (q : Q .non (upd H l (.lst (xs ++ [y])))) : rAppend (.ref l) [y] H Q := ⟨l, xs, y, rfl, rfl, h, small1000 (Nat.le_of_lt hl), q⟩
theorem rd_sl {r : V → Option Int → Option Int → Hp → VK → Prop} {tl th : TO} (q : te σ H fun x H1 => tl σ H1 fun l H2 => th σ H2 fun u H3 => r x l u H3 Q) : tSl r te tl th σ H Q := q
theorem rd_part {R : Option Int → Hp → Prop} (q : te σ H fun x H1 => ∃ i, x = .int i ∧ R (some i) H1) : tPart te σ H R := q
theorem rd_partI {i : Int} {R : Int → Prop} (q : R i) : ∃ j, V.int i = .int j ∧ R j := ⟨i, rfl, q⟩
theorem rd_nopart {R : Option Int → Hp → Prop} (q : R none H) : tNoPart σ H R := q
/-! values -/
theorem rd_addI {i j : Int} (q : Q (.int (i + j)) H) : rAddA K (.int i) (.int j) H Q := .inl (.inl ⟨i, j, rfl, rfl, q⟩)
theorem rd_addS {i j : Str} (hl : i.length + j.length ≤ 1000) (q : Q (.str (i ++ j)) H) : rAddA K (.str i) (.str j) H Q := .inl (.inr ⟨i, j, rfl, rfl, Nat.le_of_lt (small1000 hl), q⟩)
theorem rd_addT {a b : Addr} {xs ys : List V} (ha : SqT K H a xs) (hb : SqT K H b ys) (hl : xs.length + ys.length ≤ 1000) (q : ∀ p H', Ex H H' → SqT K H' p (xs ++ ys) → Q (.ref p) H') : rAddA K (.ref a) (.ref b) H Q := by
  refine .inr (.inl ⟨a, b, xs, ys, rfl, rfl, ha, hb, Nat.le_of_lt (small1000 hl), fun e => ?_, fun e e' => ?_, fun _ _ p hp => q p _ (Evl.Ex.new hp) (.inl (.inl upd_same))⟩)
  · subst e
    exact q b H (Evl.Ex.refl H) hb
  · subst e'
    exact q a H (Evl.Ex.refl H) (by rw [List.append_nil]; exact ha)
theorem rd_addL {a b : Addr} {xs ys : List V} (ha : H a = some (.lst xs)) (hb : H b = some (.lst ys)) (hl : xs.length + ys.length ≤ 1000) (q : ∀ p H', H p = none → Ex H H' → H' p = some (.lst (xs ++ ys)) → Q (.ref p) H') : rAddA K (.ref a) (.ref b) H Q :=
  .inr (.inr ⟨a, b, xs, ys, rfl, rfl, ha, hb, Nat.le_of_lt (small1000 hl), fun p hp => q p _ hp (Evl.Ex.new hp) upd_same⟩)
theorem rd_I0 {i j : Int} {g : Int → Int → V} (q : Q (g i j) H) : rI0 g (.int i) (.int j) H Q := ⟨i, j, rfl, rfl, q⟩
theorem rd_I {i j : Int} {C : Int → Int → Prop} {g : Int → Int → V} (h : C i j) (q : Q (g i j) H) : rI C g (.int i) (.int j) H Q := ⟨i, j, rfl, rfl, h, q⟩
theorem rd_pow9 (q : Q (.int 1000000000) H) : rI CPow (fun i j => .int (i ^ j.toNat)) (.int 10) (.int 9) H Q := ⟨10, 9, rfl, rfl, ⟨by decide, by decide, by decide⟩, q⟩
theorem rd_pow12 (q : Q (.int 1000000000000) H) : rI CPow (fun i j => .int (i ^ j.toNat)) (.int 10) (.int 12) H Q := ⟨10, 12, rfl, rfl, ⟨by decide, by decide, by decide⟩, q⟩
theorem rd_U {i : Int} {g : Int → V} (q : Q (g i) H) : rU g (.int i) H Q := ⟨i, rfl, q⟩
theorem rd_eqI {i j : Int} (q : Q (.bl (decide (i = j))) H) : rEqA K (.int i) (.int j) H Q := .inl ⟨rfl, by rw [show decide (V.int i = V.int j) = decide (i = j) from by rw [Bool.eq_iff_iff]; simp]; exact q⟩
theorem rd_eqS {i j : Str} (q : Q (.bl (decide (i = j))) H) : rEqA K (.str i) (.str j) H Q := .inl ⟨rfl, by rw [show decide (V.str i = V.str j) = decide (i = j) from by rw [Bool.eq_iff_iff]; simp]; exact q⟩
theorem rd_eqB {i j : Bool} (q : Q (.bl (decide (i = j))) H) : rEqA K (.bl i) (.bl j) H Q := .inl ⟨rfl, by rw [show decide (V.bl i = V.bl j) = decide (i = j) from by rw [Bool.eq_iff_iff]; simp]; exact q⟩
theorem rd_neI {i j : Int} (q : Q (.bl (!decide (i = j))) H) : rNeA K (.int i) (.int j) H Q := .inl ⟨rfl, by rw [show decide (V.int i = V.int j) = decide (i = j) from by rw [Bool.eq_iff_iff]; simp]; exact q⟩
theorem rd_neS {i j : Str} (q : Q (.bl (!decide (i = j))) H) : rNeA K (.str i) (.str j) H Q := .inl ⟨rfl, by rw [show decide (V.str i = V.str j) = decide (i = j) from by rw [Bool.eq_iff_iff]; simp]; exact q⟩
theorem rd_neB {i j : Bool} (q : Q (.bl (!decide (i = j))) H) : rNeA K (.bl i) (.bl j) H Q := .inl ⟨rfl, by rw [show decide (V.bl i = V.bl j) = decide (i = j) from by rw [Bool.eq_iff_iff]; simp]; exact q⟩
theorem rd_lenL {a : Addr} {xs : List V} (h : SqL K H a xs) (q : Q (.int (xs.length : Nat)) H) : rLenA K [.ref a] H Q := ⟨_, xs.length, rfl, .inl ⟨xs, h, rfl⟩, q⟩
theorem rd_lenT {a : Addr} {xs : List V} (h : SqT K H a xs) (q : Q (.int (xs.length : Nat)) H) : rLenA K [.ref a] H Q := ⟨_, xs.length, rfl, .inr ⟨xs, h, rfl⟩, q⟩
theorem rd_lenS {s : Str} (h : s.length ≤ 1000) (q : Q (.int (s.length : Nat)) H) : rLenA K [.str s] H Q := ⟨_, s.length, rfl, ⟨Nat.le_of_lt (small1000 h), rfl⟩, q⟩
theorem rd_ixL {a : Addr} {xs : List V} {i : Int} {v : V} (h : SqL K H a xs) (e : atI xs i = some v) (q : Q v H) : rIx K (.ref a) (.int i) H Q := .inl ⟨a, xs, i, v, rfl, rfl, h, e, q⟩
theorem rd_ixT {a : Addr} {xs : List V} {i : Int} {v : V} (h : SqT K H a xs) (e : atI xs i = some v) (q : Q v H) : rIx K (.ref a) (.int i) H Q := .inr (.inl ⟨a, xs, i, v, rfl, rfl, h, e, q⟩)
theorem rd_ixS {z : Str} {i : Int} {c : Nat} (h : z.length ≤ 1000) (e : atI z.cps.toList i = some c) (q : Q (.str ⟨#[c]⟩) H) : rIx K (.str z) (.int i) H Q := .inr (.inr ⟨z, i, c, rfl, rfl, Nat.le_of_lt (small1000 h), e, q⟩)
theorem rd_tupOfL {a : Addr} {xs : List V} (h : SqL K H a xs) (q : ∀ p H', H p = none → Ex H H' → H' p = some (.tup xs) → Q (.ref p) H') : rTupOf K [.ref a] H Q := ⟨a, xs, rfl, .inl ⟨h, fun p hp => q p _ hp (Evl.Ex.new hp) upd_same⟩⟩
theorem rd_lstOfT {a : Addr} {xs : List V} (h : SqT K H a xs) (q : ∀ p H', H p = none → Ex H H' → H' p = some (.lst xs) → Q (.ref p) H') : rLstOf K [.ref a] H Q := ⟨a, xs, rfl, .inr h, fun p hp => q p _ hp (Evl.Ex.new hp) upd_same⟩
theorem rd_lstOfL {a : Addr} {xs : List V} (h : SqL K H a xs) (q : ∀ p H', H p = none → Ex H H' → H' p = some (.lst xs) → Q (.ref p) H') : rLstOf K [.ref a] H Q := ⟨a, xs, rfl, .inl h, fun p hp => q p _ hp (Evl.Ex.new hp) upd_same⟩
theorem rd_intB {b : Bool} (q : Q (.int (if b then 1 else 0)) H) : rInt1 [.bl b] H Q := .inr ⟨b, rfl, q⟩
theorem rd_intI {i : Int} (q : Q (.int i) H) : rInt1 [.int i] H Q := .inl ⟨i, rfl, q⟩
theorem rd_min2 {i j : Int} (q : Q (.int (if j < i then j else i)) H) : rMin2 [.int i, .int j] H Q := ⟨i, j, rfl, q⟩
theorem rd_max2 {i j : Int} (q : Q (.int (if j > i then j else i)) H) : rMax2 [.int i, .int j] H Q := ⟨i, j, rfl, q⟩
theorem rd_slT {a : Addr} {xs : List V} {lo hi : Option Int} (h : SqT K H a xs) (q : ∀ p H', Ex H H' → SqT K H' p (cutV xs lo hi) → Q (.ref p) H') : rSlX K (.ref a) lo hi H Q := by
  refine .inl (.inr ⟨a, xs, rfl, h, fun e => ?_, fun _ p hp => q p _ (Evl.Ex.new hp) (.inl (.inl upd_same))⟩)
  have ec : cutV xs lo hi = xs := by
    unfold cutV
    rw [e.1, e.2, List.drop_zero, Nat.sub_zero, List.take_length]
  exact q a H (Evl.Ex.refl H) (by rw [ec]; exact h)
theorem rd_slL {a : Addr} {xs : List V} {lo hi : Option Int} (h : SqL K H a xs) (q : ∀ p H', H p = none → Ex H H' → H' p = some (.lst (cutV xs lo hi)) → Q (.ref p) H') : rSlX K (.ref a) lo hi H Q :=
  .inl (.inl ⟨a, xs, rfl, h, fun p hp => q p _ hp (Evl.Ex.new hp) upd_same⟩)
theorem rd_slS {z : Str} {lo hi : Option Int} (h : z.length ≤ 1000) (q : Q (.str (cutS z lo hi)) H) : rSlX K (.str z) lo hi H Q := .inr ⟨z, rfl, Nat.le_of_lt (small1000 h), q⟩
def rSignIn : R2 := fun x y H Q => ∃ (c : Nat) (z : Str), x = .str ⟨#[c]⟩ ∧ y = .str z ∧ Q (.bl (decide (c ∈ z.cps.toList))) H
def rSignOut : R2 := fun x y H Q => ∃ (c : Nat) (z : Str), x = .str ⟨#[c]⟩ ∧ y = .str z ∧ Q (.bl (!decide (c ∈ z.cps.toList))) H
theorem op_signIn {X : Cx} : OpR X (compareOp .In) rSignIn := op_in_sign
theorem op_signOut {X : Cx} : OpR X (compareOp .NotIn) rSignOut := op_notIn_sign
theorem rd_signIn {c : Nat} {z : Str} (q : Q (.bl (decide (c ∈ z.cps.toList))) H) : rSignIn (.str ⟨#[c]⟩) (.str z) H Q := ⟨c, z, rfl, rfl, q⟩
theorem rd_signOut {c : Nat} {z : Str} (q : Q (.bl (!decide (c ∈ z.cps.toList))) H) : rSignOut (.str ⟨#[c]⟩) (.str z) H Q := ⟨c, z, rfl, rfl, q⟩
theorem rd_inL {v : V} {a : Addr} {xs : List V} (h : SqL K H a xs) (f : flatV v = true) (g : xs.all flatV = true) (q : Q (.bl (inV v xs)) H) : rIn K false v (.ref a) H Q := ⟨a, xs, rfl, .inl h, f, g, q⟩
theorem rd_outL {v : V} {a : Addr} {xs : List V} (h : SqL K H a xs) (f : flatV v = true) (g : xs.all flatV = true) (q : Q (.bl (!inV v xs)) H) : rIn K true v (.ref a) H Q := ⟨a, xs, rfl, .inl h, f, g, q⟩
theorem rd_ite {p A B : Prop} [Decidable p] (h1 : p → A) (h2 : ¬ p → B) : if decide p = true then A else B := by
  by_cases h : p
  · rw [if_pos (decide_eq_true h)]; exact h1 h
  · rw [if_neg (by rw [decide_eq_false h]; exact Bool.false_ne_true)]; exact h2 h
theorem rd_iteN {p A B : Prop} [Decidable p] (h1 : ¬ p → A) (h2 : p → B) : if (!decide p) = true then A else B := by
  by_cases h : p
  · rw [decide_eq_true h]; exact iteF (h2 h)
  · rw [decide_eq_false h]; exact iteT (h1 h)
theorem rd_iteB {b : Bool} {A B : Prop} (h1 : b = true → A) (h2 : b = false → B) : if b = true then A else B := by
  cases b
  · exact iteF (h2 rfl)
  · exact iteT (h1 rfl)
theorem rd_iteK {b c : Bool} {A B : Prop} (e : b = c) (q : if c = true then A else B) : if b = true then A else B := by rw [e]; exact q
end

theorem cutV_tail (xs : List V) : cutV xs (some 1) none = xs.drop 1 := by
  unfold cutV
  rw [show HT.sIx xs.length 0 (some 1) = min 1 xs.length from HT.sIx_nat xs.length 0 1, HT.sIx_none]
  cases xs with
  | nil => rfl
  | cons x r =>
    rw [show min 1 (x :: r).length = 1 by rw [List.length_cons]; omega]
    show (List.take ((x :: r).length - 1) r) = r
    rw [List.length_cons, Nat.add_sub_cancel]
    exact List.take_length
theorem cutV_from (xs : List V) (n : Nat) : cutV xs (some (n : Int)) none = xs.drop n := by
  unfold cutV
  rw [HT.sIx_nat xs.length 0 n, HT.sIx_none]
  by_cases h : n ≤ xs.length
  · rw [Nat.min_eq_left h]
    exact List.take_of_length_le (by rw [List.length_drop]; exact Nat.le_refl _)
  · rw [Nat.min_eq_right (by omega), Nat.sub_self, List.take_zero, List.drop_eq_nil_of_le (by omega)]
theorem cutV_to (xs : List V) (n : Nat) : cutV xs none (some (n : Int)) = xs.take n := by
  unfold cutV
  rw [HT.sIx_nat xs.length xs.length n, HT.sIx_none, List.drop_zero, Nat.sub_zero]
  by_cases h : n ≤ xs.length
  · rw [Nat.min_eq_left h]
  · rw [Nat.min_eq_right (by omega), List.take_length, List.take_of_length_le (by omega)]
/-! ### loops -/
def ForW (J : It) (g : TG) (tb : TS) (D : Ends) (σ : L2.St) (H : Hp) : Prop :=
  ∃ W : Nat → Nat → L2.St → Hp → Prop, (∃ m, W 0 m σ H) ∧ ∀ i m σ H, W i m σ H →
    (J.stop i H ∧ D.nx σ H) ∨ (J.go i H ∧ ∃ N : L2.St → Hp → Prop, (∀ σ' H', N σ' H' → ∃ m', m' < m ∧ W (i + 1) m' σ' H') ∧ ∀ x H', J.yld i H x H' → g x σ H' fun σ2 H2 => tb { D with nx := N, ct := N, bk := D.nx } σ2 H2)
section
variable {K : PySem.W.Frag} {σ : L2.St} {H : Hp} {g : TG} {tb : TS} {D : Ends} {te : TE} {ta : TA} {J : It}
theorem rd_forS (q : te σ H fun x H1 => ((∃ a, x = .ref a ∧ (∃ xs, SqL K H1 a xs) ∧ ForW (Itl K a) g tb D σ H1) ∨ (∃ a, x = .ref a ∧ (∃ xs, SqT K H1 a xs) ∧ ForW (Itt K a) g tb D σ H1)) ∨ ∃ z, x = .str z ∧ ForW (Its z) g tb D σ H1) : tFor (iSeq K te) g tb D σ H := q
theorem rd_fsT {a : Addr} {xs : List V} {R : Addr → Prop} {A B : Prop} (h : SqT K H a xs) (q : R a) : (A ∨ (∃ b, V.ref a = .ref b ∧ (∃ xs, SqT K H b xs) ∧ R b)) ∨ B := .inl (.inr ⟨a, rfl, ⟨xs, h⟩, q⟩)
theorem rd_fsL {a : Addr} {xs : List V} {R : Addr → Prop} {A B : Prop} (h : SqL K H a xs) (q : R a) : ((∃ b, V.ref a = .ref b ∧ (∃ xs, SqL K H b xs) ∧ R b) ∨ A) ∨ B := .inl (.inl ⟨a, rfl, ⟨xs, h⟩, q⟩)
theorem rd_fsS {z : Str} {R : Str → Prop} {A : Prop} (q : R z) : A ∨ ∃ y, V.str z = .str y ∧ R y := .inr ⟨z, rfl, q⟩
theorem rd_forR1 (q : ta σ H fun vs H1 => ∃ j : Int, vs = [.int j] ∧ -(2 ^ 62) ≤ j ∧ j < 2 ^ 62 ∧ ForW (Itr 0 j.toNat) g tb D σ H1) : tFor (iRng1 ta) g tb D σ H := q
theorem rd_fr1 {j : Int} {R : Int → Prop} (h : 0 ≤ j) (h' : j < 2 ^ 62) (q : R j) : ∃ k : Int, [V.int j] = [.int k] ∧ -(2 ^ 62) ≤ k ∧ k < 2 ^ 62 ∧ R k := ⟨j, rfl, by omega, h', q⟩
theorem rd_forR2 (q : ta σ H fun vs H1 => ∃ i j : Int, vs = [.int i, .int j] ∧ (-(2 ^ 62) ≤ i ∧ i < 2 ^ 62 ∧ -(2 ^ 62) ≤ j ∧ j < 2 ^ 62) ∧ ForW (Itr i (j - i).toNat) g tb D σ H1) : tFor (iRng2 ta) g tb D σ H := q
theorem rd_fr2 {i j : Int} {R : Int → Int → Prop} (h : -(2 ^ 62) ≤ i ∧ i < 2 ^ 62 ∧ -(2 ^ 62) ≤ j ∧ j < 2 ^ 62) (q : R i j) : ∃ k l : Int, [V.int i, V.int j] = [.int k, .int l] ∧ (-(2 ^ 62) ≤ k ∧ k < 2 ^ 62 ∧ -(2 ^ 62) ≤ l ∧ l < 2 ^ 62) ∧ R k l := ⟨i, j, rfl, h, q⟩
theorem rd_forZ (q : ta σ H fun vs H1 => ∃ a b xs ys, vs = [.ref a, .ref b] ∧ ((SqL K H1 a xs ∧ SqL K H1 b ys ∧ ForW (Itz K a b) g tb D σ H1) ∨ (SqT K H1 a xs ∧ SqT K H1 b ys ∧ ForW (RZ.ItzT K a b) g tb D σ H1))) : tFor (RZ.iZipA K ta) g tb D σ H := q
theorem rd_fzT {a b : Addr} {xs ys : List V} {R R' : Addr → Addr → Prop} (h1 : SqT K H a xs) (h2 : SqT K H b ys) (q : R' a b) : ∃ c d xs ys, [V.ref a, V.ref b] = [.ref c, .ref d] ∧ ((SqL K H c xs ∧ SqL K H d ys ∧ R c d) ∨ (SqT K H c xs ∧ SqT K H d ys ∧ R' c d)) := ⟨a, b, xs, ys, rfl, .inr ⟨h1, h2, q⟩⟩
theorem rd_fzL {a b : Addr} {xs ys : List V} {R R' : Addr → Addr → Prop} (h1 : SqL K H a xs) (h2 : SqL K H b ys) (q : R a b) : ∃ c d xs ys, [V.ref a, V.ref b] = [.ref c, .ref d] ∧ ((SqL K H c xs ∧ SqL K H d ys ∧ R c d) ∨ (SqT K H c xs ∧ SqT K H d ys ∧ R' c d)) := ⟨a, b, xs, ys, rfl, .inl ⟨h1, h2, q⟩⟩
/-- the loop by its invariant: over a tuple, a list, a range, zip of two tuples -/
theorem forW_T {a : Addr} (xs : List V) (Pv : Nat → L2.St → Hp → Prop) (h0 : Pv 0 σ H) (hl : ∀ i σ H, i ≤ xs.length → Pv i σ H → SqT K H a xs)
    (hs : ∀ i x σ H, xs[i]? = some x → Pv i σ H → g x σ H fun σ2 H2 => tb { D with nx := Pv (i + 1), ct := Pv (i + 1), bk := D.nx } σ2 H2) (hd : ∀ σ H, Pv xs.length σ H → D.nx σ H) : ForW (Itt K a) g tb D σ H := for_tup Pv h0 hl hs hd
theorem forW_L {a : Addr} (xs : List V) (Pv : Nat → L2.St → Hp → Prop) (h0 : Pv 0 σ H) (hl : ∀ i σ H, i ≤ xs.length → Pv i σ H → SqL K H a xs)
    (hs : ∀ i x σ H, xs[i]? = some x → Pv i σ H → g x σ H fun σ2 H2 => tb { D with nx := Pv (i + 1), ct := Pv (i + 1), bk := D.nx } σ2 H2) (hd : ∀ σ H, Pv xs.length σ H → D.nx σ H) : ForW (Itl K a) g tb D σ H := for_list Pv h0 hl hs hd
theorem forW_S {z : Str} (Pv : Nat → L2.St → Hp → Prop) (h0 : Pv 0 σ H)
    (hs : ∀ i c σ H, z.cps.toList[i]? = some c → Pv i σ H → g (.str ⟨#[c]⟩) σ H fun σ2 H2 => tb { D with nx := Pv (i + 1), ct := Pv (i + 1), bk := D.nx } σ2 H2) (hd : ∀ σ H, Pv z.length σ H → D.nx σ H) : ForW (Its z) g tb D σ H :=
  for_it walk_str Pv h0 (fun _ _ _ _ _ => trivial) (fun i x σ H H' _ hp y => by
    obtain ⟨rfl, c, e, rfl⟩ := y
    exact hs i c σ H' (by rw [Array.getElem?_toList]; exact e) hp) hd
theorem forW_Lx {a : Addr} {xs : List V} (_ : SqL K H a xs) (Pv : Nat → L2.St → Hp → Prop) (h0 : Pv 0 σ H) (hl : ∀ i σ H, i ≤ xs.length → Pv i σ H → SqL K H a xs)
    (hs : ∀ i x σ H, xs[i]? = some x → Pv i σ H → g x σ H fun σ2 H2 => tb { D with nx := Pv (i + 1), ct := Pv (i + 1), bk := D.nx } σ2 H2) (hd : ∀ σ H, Pv xs.length σ H → D.nx σ H) : ForW (Itl K a) g tb D σ H := for_list Pv h0 hl hs hd
theorem forW_R {lo : Int} {n : Nat} (Pv : Nat → L2.St → Hp → Prop) (h0 : Pv 0 σ H)
    (hs : ∀ i σ H, i < n → Pv i σ H → g (.int (lo + i)) σ H fun σ2 H2 => tb { D with nx := Pv (i + 1), ct := Pv (i + 1), bk := D.nx } σ2 H2) (hd : ∀ σ H, Pv n σ H → D.nx σ H) : ForW (Itr lo n) g tb D σ H := for_range Pv h0 hs hd
theorem forW_it {n : Nat} {G : Hp → Prop} {Y : Nat → Hp → V → Hp → Prop} (w : Walk J n G Y) (Pv : Nat → L2.St → Hp → Prop) (h0 : Pv 0 σ H) (hG : ∀ i σ H, i ≤ n → Pv i σ H → G H)
    (hs : ∀ i x σ H H', i < n → Pv i σ H → Y i H x H' → g x σ H' fun σ2 H2 => tb { D with nx := Pv (i + 1), ct := Pv (i + 1), bk := D.nx } σ2 H2) (hd : ∀ σ H, Pv n σ H → D.nx σ H) : ForW J g tb D σ H := for_it w Pv h0 hG hs hd
end
/-- over zip of two tuples, of any lengths -/
theorem walk_zipT {K : PySem.W.Frag} {a b : Addr} {xs ys : List V} {n : Nat} (hn : n = min xs.length ys.length) : Walk (RZ.ItzT K a b) n (fun H => SqT K H a xs ∧ SqT K H b ys) (YPair (fun i => xs[i]?) (fun i => ys[i]?)) := by
  subst hn
  refine ⟨fun i _ hi q => ?_, fun _ q => ⟨xs, ys, q.1, q.2, by omega⟩, fun i H v H' _ q y => ?_⟩
  · have h1 : i < xs.length := by omega
    have h2 : i < ys.length := by omega
    exact ⟨xs, ys, xs[i], ys[i], q.1, q.2, by simp [h1], by simp [h2]⟩
  · obtain ⟨T, x, z, h1, h2, h3, h4, h5⟩ := y
    exact ⟨T, x, z, h1, h2, h3, h4 xs q.1, h5 ys q.2⟩
theorem forW_Z {K : PySem.W.Frag} {σ : L2.St} {H : Hp} {g : TG} {tb : TS} {D : Ends} {a b : Addr} (xs ys : List V) {n : Nat} (hn : n = min xs.length ys.length) (Pv : Nat → L2.St → Hp → Prop) (h0 : Pv 0 σ H) (hG : ∀ i σ H, i ≤ n → Pv i σ H → SqT K H a xs ∧ SqT K H b ys)
    (hs : ∀ i x y T σ H H', i < n → Pv i σ H → xs[i]? = some x → ys[i]? = some y → H T = none → Ex H H' → H' T = some (.tup [x, y]) → g (.ref T) σ H' fun σ2 H2 => tb { D with nx := Pv (i + 1), ct := Pv (i + 1), bk := D.nx } σ2 H2) (hd : ∀ σ H, Pv n σ H → D.nx σ H) : ForW (RZ.ItzT K a b) g tb D σ H :=
  forW_it (walk_zipT hn) Pv h0 hG (fun i x σ H H' hi hp y => by
    obtain ⟨T, x, z, rfl, hT, rfl, h4, h5⟩ := y
    exact hs i x z T σ H _ hi hp h4 h5 hT (Evl.Ex.new hT) upd_same) hd

/-! comprehensions -/
def LcW (J : It) (g : TG) (tt : TT) (te : TE) (vs : List Nat) (σ : L2.St) (H1 : Hp) (Q : VK) : Prop :=
  ∀ D, H1 D = none → ∃ W : Nat → Nat → Hp → Prop, (∃ m, W 0 m (upd H1 D (.lst []))) ∧ ∀ i m H, W i m H →
  (J.stop i H ∧ Q (.ref D) H) ∨ (J.go i H ∧ ∃ Nx : Hp → Prop, (∀ H', Nx H' → ∃ m', m' < m ∧ W (i + 1) m' H') ∧ ∀ x H', J.yld i H x H' → g x (wipe σ vs) H' fun σ2 H2 => wipe σ2 vs = wipe σ vs ∧ tt σ2 H2 fun b H3 =>
    if b = true then te σ2 H3 fun y H4 => ∃ acc, H4 D = some (.lst acc) ∧ acc.length < sizeLine ∧ Nx (upd H4 D (.lst (acc ++ [y]))) else Nx H3)
section
variable {K : PySem.W.Frag} {σ : L2.St} {H : Hp} {Q : VK} {g : TG} {tt : TT} {te tl : TE} {ta : TA} {vs : List Nat}
theorem rd_lcS (q : tl σ H fun x H1 => ((∃ a, x = .ref a ∧ (∃ xs, SqL K H1 a xs) ∧ LcW (Itl K a) g tt te vs σ H1 Q) ∨ (∃ a, x = .ref a ∧ (∃ xs, SqT K H1 a xs) ∧ LcW (Itt K a) g tt te vs σ H1 Q)) ∨ ∃ z, x = .str z ∧ LcW (Its z) g tt te vs σ H1 Q) : tLc (iSeq K tl) g tt te vs σ H Q := q
theorem rd_lcR1 (q : ta σ H fun us H1 => ∃ j : Int, us = [.int j] ∧ -(2 ^ 62) ≤ j ∧ j < 2 ^ 62 ∧ LcW (Itr 0 j.toNat) g tt te vs σ H1 Q) : tLc (iRng1 ta) g tt te vs σ H Q := q
theorem rd_lcR2 (q : ta σ H fun us H1 => ∃ i j : Int, us = [.int i, .int j] ∧ (-(2 ^ 62) ≤ i ∧ i < 2 ^ 62 ∧ -(2 ^ 62) ≤ j ∧ j < 2 ^ 62) ∧ LcW (Itr i (j - i).toNat) g tt te vs σ H1 Q) : tLc (iRng2 ta) g tt te vs σ H Q := q
/-- the step of a comprehension's turn: the new item -/
def LcIt (D : Addr) (N : Hp → Prop) : VK := fun y H4 => ∃ acc, H4 D = some (.lst acc) ∧ acc.length < sizeLine ∧ N (upd H4 D (.lst (acc ++ [y])))
theorem lc_item {D : Addr} {N : Hp → Prop} {y : V} {H4 : Hp} {acc : List V} (h : H4 D = some (.lst acc)) (hl : acc.length < 1000) (q : N (upd H4 D (.lst (acc ++ [y])))) : ∃ acc, H4 D = some (.lst acc) ∧ acc.length < sizeLine ∧ N (upd H4 D (.lst (acc ++ [y]))) := ⟨acc, h, small1000 (Nat.le_of_lt hl), q⟩
theorem lcW_R {lo : Int} {n : Nat} (Pv : Addr → Nat → Hp → Prop) (h0 : ∀ D H', H D = none → Ex H H' → H' D = some (.lst []) → Pv D 0 H')
    (hs : ∀ D i H', H D = none → i < n → Pv D i H' → g (.int (lo + i)) (wipe σ vs) H' fun σ2 H2 => wipe σ2 vs = wipe σ vs ∧ tt σ2 H2 fun b H3 =>
      if b = true then te σ2 H3 fun y H4 => ∃ acc, H4 D = some (.lst acc) ∧ acc.length < sizeLine ∧ Pv D (i + 1) (upd H4 D (.lst (acc ++ [y]))) else Pv D (i + 1) H3)
    (hd : ∀ D H', H D = none → Pv D n H' → Q (.ref D) H') : LcW (Itr lo n) g tt te vs σ H Q := fun D hD =>
  lc_range (Pv D) (h0 D _ hD (Evl.Ex.new hD) upd_same) (fun i H' hi hp => hs D i H' hD hi hp) fun H' hp => hd D H' hD hp
theorem lcW_L {a : Addr} (xs : List V) (Pv : Addr → Nat → Hp → Prop) (h0 : ∀ D H', H D = none → Ex H H' → H' D = some (.lst []) → Pv D 0 H') (hl : ∀ D i H', H D = none → i ≤ xs.length → Pv D i H' → SqL K H' a xs)
    (hs : ∀ D i x H', H D = none → xs[i]? = some x → Pv D i H' → g x (wipe σ vs) H' fun σ2 H2 => wipe σ2 vs = wipe σ vs ∧ tt σ2 H2 fun b H3 =>
      if b = true then te σ2 H3 fun y H4 => ∃ acc, H4 D = some (.lst acc) ∧ acc.length < sizeLine ∧ Pv D (i + 1) (upd H4 D (.lst (acc ++ [y]))) else Pv D (i + 1) H3)
    (hd : ∀ D H', H D = none → Pv D xs.length H' → Q (.ref D) H') : LcW (Itl K a) g tt te vs σ H Q := fun D hD =>
  lc_list (Pv D) (h0 D _ hD (Evl.Ex.new hD) upd_same) (fun i H' hi hp => hl D i H' hD hi hp) (fun i x H' hx hp => hs D i x H' hD hx hp) fun H' hp => hd D H' hD hp
theorem lcW_T {a : Addr} (xs : List V) (Pv : Addr → Nat → Hp → Prop) (h0 : ∀ D H', H D = none → Ex H H' → H' D = some (.lst []) → Pv D 0 H') (hl : ∀ D i H', H D = none → i ≤ xs.length → Pv D i H' → SqT K H' a xs)
    (hs : ∀ D i x H', H D = none → xs[i]? = some x → Pv D i H' → g x (wipe σ vs) H' fun σ2 H2 => wipe σ2 vs = wipe σ vs ∧ tt σ2 H2 fun b H3 =>
      if b = true then te σ2 H3 fun y H4 => ∃ acc, H4 D = some (.lst acc) ∧ acc.length < sizeLine ∧ Pv D (i + 1) (upd H4 D (.lst (acc ++ [y]))) else Pv D (i + 1) H3)
    (hd : ∀ D H', H D = none → Pv D xs.length H' → Q (.ref D) H') : LcW (Itt K a) g tt te vs σ H Q := fun D hD =>
  lc_tup (Pv D) (h0 D _ hD (Evl.Ex.new hD) upd_same) (fun i H' hi hp => hl D i H' hD hi hp) (fun i x H' hx hp => hs D i x H' hD hx hp) fun H' hp => hd D H' hD hp
theorem rd_yes {R : Bool → Hp → Prop} (q : R true H) : tYes σ H R := q
theorem ex_new {H H1 : Hp} {D : Addr} {o : HO} (hn : H D = none) (e : Ex H H1) : Ex H (upd H1 D o) := fun b u q => by
  rw [upd_ne (ne_of_none q hn)]
  exact e b u q
end

/-! ### what a state list's def leaves: all but the list, its one int another -/
structure St1 (a : Addr) (H H' : Hp) : Prop where
  fr : ∀ b o, b ≠ a → H b = some o → H' b = some o
  st : ∃ s, H' a = some (.lst [.int s])
  tame : Tame H H'
theorem St1.trans {a : Addr} {H H1 H2 : Hp} (x : St1 a H H1) (y : St1 a H1 H2) : St1 a H H2 := ⟨fun b o n h => y.fr b o n (x.fr b o n h), y.st, x.tame.trans y.tame⟩
theorem St1.ex {a : Addr} {H H1 : Hp} (h : ∃ s, H a = some (.lst [.int s])) (e : Ex H H1) : St1 a H H1 := by
  obtain ⟨s, h⟩ := h
  exact ⟨fun b o _ q => e b o q, ⟨s, e a _ h⟩, .ex e⟩
theorem St1.free {a o : Addr} {H H1 : Hp} (S : St1 a H H1) (h : H1 o = none) : H o = none := by
  cases e : H o with
  | none => rfl
  | some x =>
    by_cases n : o = a
    · subst n
      obtain ⟨s, q⟩ := S.st
      rw [h] at q; cases q
    · rw [S.fr o x n e] at h; cases h
/-- a list that was not there at the start has grown -/
theorem St1.upd {a o : Addr} {H H1 : Hp} {xs ys : List V} (S : St1 a H H1) (hn : H o = none) (ho : H1 o = some (.lst xs)) (ne : o ≠ a) : St1 a H (upd H1 o (.lst ys)) := by
  refine ⟨fun b u nb e => ?_, ?_, S.tame.trans (Tame.upd ho)⟩
  · rw [upd_ne (by rintro rfl; rw [hn] at e; cases e)]
    exact S.fr b u nb e
  · obtain ⟨s, q⟩ := S.st
    exact ⟨s, by rw [upd_ne (Ne.symm ne)]; exact q⟩
theorem St1.refl {a : Addr} {H : Hp} (h : ∃ s, H a = some (.lst [.int s])) : St1 a H H := ⟨fun _ _ _ h => h, h, .refl H⟩
/-! what St1 and Ex keep -/
section
variable {K : PySem.W.Frag} {H H' : Hp} {a b : Addr} {v : V} {t : T} {vs : List V} {ts : List T} {xs : List V}
theorem tv_st (h : Tv K H v t) (e : St1 a H H') : Tv K H' v t := e.tame.tv h
theorem tv_ex (h : Tv K H v t) (e : Ex H H') : Tv K H' v t := (Tame.ex e).tv h
theorem tva_st (h : TvA K H vs ts) (e : St1 a H H') : TvA K H' vs ts := e.tame.tvA h
theorem tva_ex (h : TvA K H vs ts) (e : Ex H H') : TvA K H' vs ts := (Tame.ex e).tvA h
theorem sqt_st (h : SqT K H b xs) (e : St1 a H H') : SqT K H' b xs := e.tame.sqT h
theorem sqt_ex (h : SqT K H b xs) (e : Ex H H') : SqT K H' b xs := Evl.ex_t e h
theorem lst_st (h : H b = some (.lst xs)) (e : St1 a H H') (n : b ≠ a) : H' b = some (.lst xs) := e.fr b _ n h
theorem lst_ex (h : H b = some (.lst xs)) (e : Ex H H') : H' b = some (.lst xs) := e b _ h
theorem sql_ex (h : SqL K H b xs) (e : Ex H H') : SqL K H' b xs := Evl.ex_l e h
theorem sql_st {l st : Addr} {H0 : Hp} (h : SqL K H0 l xs) (hn : H0 st = none) (e0 : Ex H0 H) (e : St1 st H H') : SqL K H' l xs := by
  rcases h with (h | ⟨o, h⟩) | h
  · exact .inl (.inl (e.fr _ _ (by rintro rfl; rw [hn] at h; cases h) (e0 _ _ h)))
  · exact .inl (.inr ⟨o, e.fr _ _ (by rintro rfl; rw [hn] at h; cases h) (e0 _ _ h)⟩)
  · exact .inr h
theorem sta_st (e : St1 a H H') : ∃ s, H' a = some (.lst [.int s]) := e.st
theorem sta_ex (h : ∃ s, H a = some (.lst [.int s])) (e : Ex H H') : ∃ s, H' a = some (.lst [.int s]) := by obtain ⟨s, h⟩ := h; exact ⟨s, e a _ h⟩
theorem ne_st (h : ∃ s, H a = some (.lst [.int s])) (hp : H b = none) : b ≠ a := by
  obtain ⟨s, h⟩ := h
  rintro rfl
  rw [h] at hp; cases hp
end
section
variable {K : PySem.W.Frag} {H : Hp} {Q : VK}
/-- an item, whichever it is -/
theorem mem_at {xs : List V} {i : Int} (h0 : 0 ≤ i) (h1 : i < xs.length) : ∃ v, atI xs i = some v ∧ v ∈ xs := by
  have hk : i.toNat < xs.length := by omega
  refine ⟨xs[i.toNat], ?_, List.getElem_mem hk⟩
  have e : ((i.toNat : Nat) : Int) = i := by omega
  have q := atI_nat (List.getElem?_eq_getElem hk)
  rw [e] at q
  exact q
theorem rd_ixLm {a : Addr} {xs : List V} {i : Int} (h : SqL K H a xs) (h0 : 0 ≤ i) (h1 : i < xs.length) (q : ∀ v, v ∈ xs → Q v H) : rIx K (.ref a) (.int i) H Q := by
  obtain ⟨v, e, m⟩ := mem_at h0 h1
  exact rd_ixL h e (q v m)
theorem rd_ixTm {a : Addr} {xs : List V} {i : Int} (h : SqT K H a xs) (h0 : 0 ≤ i) (h1 : i < xs.length) (q : ∀ v, v ∈ xs → Q v H) : rIx K (.ref a) (.int i) H Q := by
  obtain ⟨v, e, m⟩ := mem_at h0 h1
  exact rd_ixT h e (q v m)
/-- the k-th of a tuple of data -/
theorem rd_ixD {v : V} {ts : List T} {i : Int} {n : Nat} {t : T} (h : Tv K H v (.tup ts)) (hi : i = (n : Nat)) (e : ts[n]? = some t) (q : ∀ x, Tv K H x t → Q x H) : rIx K v (.int i) H Q := by
  obtain ⟨a, xs, rfl, hs, ha⟩ := h.tupE
  obtain ⟨x, e1, hx⟩ := ha.get e
  subst hi
  exact rd_ixT hs (atI_nat e1) (q x hx)
theorem rd_lenD {v : V} {ts : List T} (h : Tv K H v (.tup ts)) (q : Q (.int (ts.length : Nat)) H) : rLenA K [v] H Q := by
  obtain ⟨a, xs, rfl, hs, ha⟩ := h.tupE
  refine rd_lenT hs ?_
  rw [ha.len]
  exact q
end
/-! ### a written dict: texts to tuples of texts -/
def TupIn (K : PySem.W.Frag) (a : Addr) (ws : List Str) : Prop :=
  ∃ (dd : Option Addr) (its : Array Value) (n : Nat) (sl : Array (Option Value)), K.lookup a = some ⟨.type "tuple", dd, .seq its n, sl⟩ ∧ its.size ≤ sizeLine ∧ Vals (ws.map V.str) its.toList
theorem TupIn.sq {K : PySem.W.Frag} {a : Addr} {ws : List Str} (h : TupIn K a ws) (H : Hp) : SqT K H a (ws.map V.str) := by
  obtain ⟨dd, its, n, sl, h, hz, hv⟩ := h
  exact .inr ⟨_, its, n, h, rfl, rfl, hz, hv⟩
def EntIs (K : PySem.W.Frag) (w : World) (e : DictEntry) (p : Str × List Str) : Prop :=
  ∃ t a, e.key = .str p.1 t ∧ e.hash = PyData.keyHash w.params p.1 ∧ e.val = .ref a ∧ TupIn K a p.2
/-- one entry after another -/
theorem ent_cons {K : PySem.W.Frag} {w : World} {a : Addr} {x : Str} {t : Tok} {ws : List Str} {l : List DictEntry} {ps : List (Str × List Str)} {dd : Option Addr} {its : Array Value} {n : Nat} {sl : Array (Option Value)}
    (k : K.lookup a = some ⟨.type "tuple", dd, .seq its n, sl⟩) (s : its.size ≤ sizeLine) (v : Vals (ws.map V.str) its.toList) (b : Paired (EntIs K w) l ps) :
    Paired (EntIs K w) (⟨PyData.keyHash w.params x, .str x t, .ref a⟩ :: l) ((x, ws) :: ps) := .cons ⟨t, a, rfl, rfl, rfl, dd, its, n, sl, k, s, v⟩ b
def TabAt (K : PySem.W.Frag) (w : World) (d : Addr) (ps : List (Str × List Str)) : Prop :=
  ∃ es n, K.lookup d = some ⟨.type "dict", none, .dict es n, #[]⟩ ∧ (d == sysModules) = false ∧ Paired (EntIs K w) es.toList ps
section
variable {K : PySem.W.Frag} {w : World} {d : Addr} {ps : List (Str × List Str)}
theorem ent_lit : ∀ {l : List DictEntry} {ps : List (Str × List Str)}, Paired (EntIs K w) l ps → PySem.W.KeysLit w.params l
  | _, _, .nil => trivial
  | _, _, .cons h t => by
    obtain ⟨t', a, h1, h2, _⟩ := h
    exact ⟨⟨_, t', h1, h2⟩, ent_lit t⟩
theorem ent_find (z : Str) : ∀ {l : List DictEntry} {ps : List (Str × List Str)}, Paired (EntIs K w) l ps →
    (match ps.lookup z with | some ws => ∃ e a, l.find? (·.key.isStr z) = some e ∧ e.val = .ref a ∧ TupIn K a ws | none => l.find? (·.key.isStr z) = none) ∧ l.any (·.refKey) = false
  | _, _, .nil => ⟨rfl, rfl⟩
  | e :: l, p :: ps, .cons h t => by
    have ih := ent_find z t
    obtain ⟨t', a, h1, h2, h3, h4⟩ := h
    have hr : e.refKey = false := by
      unfold DictEntry.refKey
      rw [h1]
    have hk : e.key.isStr z = (z == p.1) := by
      rw [h1, PySem.W.isStr_of]
      show (p.1 == z) = (z == p.1)
      rw [Bool.eq_iff_iff, beq_iff_eq, beq_iff_eq]
      exact eq_comm
    refine ⟨?_, by rw [List.any_cons, hr, ih.2]; rfl⟩
    rw [List.find?_cons, hk, List.lookup_cons]
    cases hz : z == p.1 with
    | true => exact ⟨e, a, rfl, h3, h4⟩
    | false => exact ih.1
theorem tab_ns (T : TabAt K w d ps) (z : Str) : match ps.lookup z with | some ws => ∃ a, PySem.W.nsIn K d z = some (some (.ref a)) ∧ TupIn K a ws | none => PySem.W.nsIn K d z = some none := by
  obtain ⟨es, n, hl, _, pr⟩ := T
  have f := ent_find z pr
  cases e : ps.lookup z with
  | some ws =>
    rw [e] at f
    obtain ⟨⟨en, a, f1, f2, f3⟩, _⟩ := f
    refine ⟨a, ?_, f3⟩
    unfold PySem.W.nsIn
    rw [hl]
    dsimp only
    rw [f1]
    dsimp only
    rw [f2]
  | none =>
    rw [e] at f
    unfold PySem.W.nsIn
    rw [hl]
    dsimp only
    rw [f.1]
    dsimp only
    rw [f.2]
    rfl
end
def rInTab (K : PySem.W.Frag) (w : World) (neg : Bool) : R2 := fun x y H Q => ∃ z d ps, x = .str z ∧ y = .ref d ∧ TabAt K w d ps ∧ Q (.bl (if neg then !(ps.lookup z).isSome else (ps.lookup z).isSome)) H
theorem tab_kd {K : PySem.W.Frag} {w : World} {d : Addr} {ps : List (Str × List Str)} (T : TabAt K w d ps) : ∃ es n, KDict K w d es n := by
  obtain ⟨es, n, hl, low, pr⟩ := T
  exact ⟨es, n, hl, ent_lit pr, low⟩
theorem tab_some {K : PySem.W.Frag} {w : World} {d : Addr} {ps : List (Str × List Str)} (T : TabAt K w d ps) (z : Str) : ∃ r, PySem.W.nsIn K d z = some r ∧ r.isSome = (ps.lookup z).isSome := by
  have f := tab_ns T z
  cases e : ps.lookup z with
  | some ws =>
    rw [e] at f
    obtain ⟨a, f1, _⟩ := f
    exact ⟨_, f1, rfl⟩
  | none =>
    rw [e] at f
    exact ⟨_, f, rfl⟩
theorem op_inTab {X : Cx} : OpR X (compareOp .In) (rInTab X.K X.w false) := by
  intro pins s σ H x y v u Q I rx ry h
  obtain ⟨z, d, ps, rfl, rfl, T, q⟩ := h
  obtain ⟨es, n, D⟩ := tab_kd T
  obtain ⟨r, hr, e⟩ := tab_some T z
  refine op_in_kd D pins s σ H _ _ v u Q I rx ry ⟨z, r, rfl, rfl, hr, ?_⟩
  rw [e]
  exact q
theorem op_notinTab {X : Cx} : OpR X (compareOp .NotIn) (rInTab X.K X.w true) := by
  intro pins s σ H x y v u Q I rx ry h
  obtain ⟨z, d, ps, rfl, rfl, T, q⟩ := h
  obtain ⟨es, n, D⟩ := tab_kd T
  obtain ⟨r, hr, e⟩ := tab_some T z
  refine op_notIn_kd D pins s σ H _ _ v u Q I rx ry ⟨z, r, rfl, rfl, hr, ?_⟩
  rw [e]
  exact q
theorem pe_gtab {X : Cx} {x : Str} {d : Addr} {pos : Pos} (hm : X.mg x = some (.ref d)) (hg : Gl X x := by rfl) (hd : (x == ("__debug__" : Str)) = false := by decide) : PE X (.Name x pos) (tC (.ref d)) := pe_glob hg hm rfl hd
theorem rd_inTab {K : PySem.W.Frag} {w : World} {d : Addr} {ps : List (Str × List Str)} {H : Hp} {Q : VK} {z : Str} (T : TabAt K w d ps) (q : Q (.bl (ps.lookup z).isSome) H) : rInTab K w false (.str z) (.ref d) H Q := ⟨z, d, ps, rfl, rfl, T, q⟩
theorem rd_outTab {K : PySem.W.Frag} {w : World} {d : Addr} {ps : List (Str × List Str)} {H : Hp} {Q : VK} {z : Str} (T : TabAt K w d ps) (q : Q (.bl (!(ps.lookup z).isSome)) H) : rInTab K w true (.str z) (.ref d) H Q := ⟨z, d, ps, rfl, rfl, T, q⟩
theorem rd_dgetT {σ : L2.St} {H : Hp} {Q : VK} {td ty : TE} (q : td σ H fun x H1 => ty σ H1 fun y H2 => ∃ a v, x = .ref a ∧ DGet H2 a y (some v) ∧ Q v H2) : tDGet td ty σ H Q := q
theorem rd_dgetK {H : Hp} {d : Addr} {kvs : List (Key × V)} {z : Str} {v : V} {R : V → Prop} (h : H d = some (.dK kvs)) (e : valV kvs (.inr z) = some v) (q : R v) : ∃ a u, V.ref d = .ref a ∧ DGet H a (.str z) (some u) ∧ R u := ⟨d, v, rfl, by rw [← e]; exact DGet.k (k := .inr z) h, q⟩
theorem rd_dgetI {H : Hp} {d : Addr} {kvs : List (Key × V)} {z : Int} {v : V} {R : V → Prop} (h : H d = some (.dK kvs)) (e : valV kvs (.inl z) = some v) (q : R v) : ∃ a u, V.ref d = .ref a ∧ DGet H a (.int z) (some u) ∧ R u := ⟨d, v, rfl, by rw [← e]; exact DGet.k (k := .inl z) h, q⟩
/-- d[z], z there -/
theorem rd_ixTab {K : PySem.W.Frag} {w : World} {d : Addr} {ps : List (Str × List Str)} {H : Hp} {Q : VK} {z : Str} {ws : List Str} (T : TabAt K w d ps) (e : ps.lookup z = some ws) (q : ∀ a, SqT K H a (ws.map V.str) → Q (.ref a) H) : rIxD K w (.ref d) (.str z) H Q := by
  have f := tab_ns T z
  rw [e] at f
  obtain ⟨a, f1, f2⟩ := f
  obtain ⟨es, n, hl, _, pr⟩ := T
  exact ⟨d, z, .ref a, rfl, rfl, ⟨es, n, _, hl, ent_lit pr, f1, rfl⟩, q a (f2.sq H)⟩
/-- a dict that stands in the heap stays -/
theorem dK_ex {H H' : Hp} {d : Addr} {kvs : List (Key × V)} (h : H d = some (.dK kvs)) (e : Ex H H') : H' d = some (.dK kvs) := e _ _ h
end Qa
namespace Qa
open PySem PySem.Spec PyProof.Rows L2
/-! within a comprehension: the fragment named -/
section
variable {X : Cx} {K : PySem.W.Frag}
theorem pt_truK {a : Expr} {ta : TE} (hK : X.K = K) (ha : PE X a ta) (he : ∀ whole, isTrue a X.env whole = (do let v ← whole; standAt a.pos; holding [v] (truthy v)) := by intro _; rfl) : PT X a (tTru K ta) := by
  subst hK
  exact pt_tru ha he
theorem isiK (hK : X.K = K) : CallR X (.builtin "isinstance") (rIsi K) := by
  subst hK
  exact call_isi
theorem notInK (hK : X.K = K) : OpR X (compareOp .NotIn) (rIn K true) := by
  subst hK
  exact op_notIn_seq
theorem inK (hK : X.K = K) : OpR X (compareOp .In) (rIn K false) := by
  subst hK
  exact op_in_seq
theorem ixK (hK : X.K = K) : IxR X (rIx K) := by
  subst hK
  exact ix_seq
theorem addK' (hK : X.K = K) : OpR X (binaryOp .Add) (rAddA K) := by
  subst hK
  exact op_addA
theorem lenK (hK : X.K = K) : CallR X (.builtin "len") (rLenA K) := by
  subst hK
  exact cr_lenA
end
/-! lists of whole numbers and texts, compared -/
def flatD : PyData → Bool
  | .int _ => true
  | .str x => PyData.strOk x
  | _ => false
theorem lay_flat : ∀ ds : List PyData, (∀ d ∈ ds, flatD d = true) → PyData.canLayAll0 ds = true ∧ PyData.depthAll ds = 0 ∧ PyData.eqvAll ds ds = true
  | [], _ => ⟨by simp [PyData.canLayAll0], by simp [PyData.depthAll], by simp [PyData.eqvAll]⟩
  | d :: ds, h => by
    obtain ⟨h1, h2, h3⟩ := lay_flat ds fun x hx => h x (List.mem_cons_of_mem _ hx)
    have hd := h d List.mem_cons_self
    cases d with
    | int i => exact ⟨by simp [PyData.canLayAll0, PyData.canLay0, h1], by simp [PyData.depthAll, PyData.depth, h2], by simp [PyData.eqvAll, PyData.eqv, h3]⟩
    | str i => exact ⟨by simp [PyData.canLayAll0, PyData.canLay0, h1]; exact hd, by simp [PyData.depthAll, PyData.depth, h2], by simp [PyData.eqvAll, PyData.eqv, h3]⟩
    | _ => cases hd
theorem shaped_flat (ds : List PyData) (h : ∀ d ∈ ds, flatD d = true) : SeqAt.shaped (.list ds) = true := by
  obtain ⟨h1, h2, h3⟩ := lay_flat ds h
  unfold SeqAt.shaped
  simp [PyData.canLay0, PyData.depth, h1, h2]
theorem eqv_flat (ds : List PyData) (h : ∀ d ∈ ds, flatD d = true) : PyData.eqv (.list ds) (.list ds) = true := by
  rw [PyData.eqv]
  exact (lay_flat ds h).2.2
section
variable {K : PySem.W.Frag} {H : Hp} {Q : VK}
def kD : Key → PyData
  | .inl i => .int i
  | .inr x => .str x
def okK : Key → Bool
  | .inl _ => true
  | .inr x => PyData.strOk x
theorem flat_kD (ks : List Key) (h : ∀ k ∈ ks, okK k = true) : ∀ d ∈ ks.map kD, flatD d = true := by
  intro d hd
  obtain ⟨k, hk, rfl⟩ := List.mem_map.mp hd
  have := h k hk
  cases k with
  | inl i => rfl
  | inr x => exact this
theorem dp_keys : ∀ (ks : List Key), DpAll K H (ks.map kV) (ks.map kD)
  | [] => .nil
  | .inl n :: ns => .cons (.int n) (dp_keys ns)
  | .inr n :: ns => .cons (.str n) (dp_keys ns)
theorem rd_eqNil {a b : Addr} {ns : List Key} (ok : ∀ k ∈ ns, okK k = true) (ha : SqL K H a (ns.map kV)) (hb : SqL K H b []) (q : Q (.bl ns.isEmpty) H) : rEqA K (.ref a) (.ref b) H Q := by
  refine .inr ⟨_, _, .lst ha (dp_keys ns), .lst hb .nil, shaped_flat _ (flat_kD ns ok), shaped_flat [] (by simp), ?_⟩
  cases ns with
  | nil => exact q
  | cons n ns => exact q
/-- two lists of the same keys -/
theorem rd_neSame {a b : Addr} {ns : List Key} (ok : ∀ k ∈ ns, okK k = true) (ha : SqL K H a (ns.map kV)) (hb : SqL K H b (ns.map kV)) (q : Q (.bl false) H) : rNeA K (.ref a) (.ref b) H Q := by
  refine .inr ⟨_, _, .lst ha (dp_keys ns), .lst hb (dp_keys ns), shaped_flat _ (flat_kD ns ok), shaped_flat _ (flat_kD ns ok), ?_⟩
  rw [eqv_flat _ (flat_kD ns ok)]
  exact q
theorem rd_eqSame {a b : Addr} {ns : List Key} (ok : ∀ k ∈ ns, okK k = true) (ha : SqL K H a (ns.map kV)) (hb : SqL K H b (ns.map kV)) (q : Q (.bl true) H) : rEqA K (.ref a) (.ref b) H Q := by
  refine .inr ⟨_, _, .lst ha (dp_keys ns), .lst hb (dp_keys ns), shaped_flat _ (flat_kD ns ok), shaped_flat _ (flat_kD ns ok), ?_⟩
  rw [eqv_flat _ (flat_kD ns ok)]
  exact q
theorem rd_ixTk {a : Addr} {xs : List V} {i : Int} {n : Nat} {v : V} (h : SqT K H a xs) (hi : i = (n : Nat)) (e : xs[n]? = some v) (q : Q v H) : rIx K (.ref a) (.int i) H Q := by
  subst hi
  exact rd_ixT h (atI_nat e) q
end
end Qa
namespace Qs
open PySem PySem.Spec PyProof.Rows L2
/-! sets of ints and texts, made of a list, sorted -/
def keyK (e : Int × Value) : Key := match e.2 with | .int k _ => .inl k | .str x _ => .inr x | _ => .inl 0
def GoodK (w : World) (e : Int × Value) : Prop := ∃ k, keyIs k e.2 = true ∧ e.1 = keyH w k
theorem keyK_is {e : Int × Value} {k : Key} (h : keyIs k e.2 = true) : keyK e = k := by
  obtain ⟨a, v⟩ := e
  rcases keyIs_shape h with ⟨i, t, rfl, e1⟩ | ⟨x, t, rfl, e1⟩
  · cases (show v = Value.int i t from e1); rfl
  · cases (show v = Value.str x t from e1); rfl
theorem goodK_is {w : World} {P : Program} {e : Int × Value} (g : GoodK w e) (k : Key) : (mixKind P w).is k e.2 = true ↔ keyK e = k := by
  obtain ⟨k0, h1, _⟩ := g
  constructor
  · intro h
    exact keyK_is h
  · intro h
    rw [keyK_is h1] at h
    rw [← h]
    exact h1
theorem goodK_scan {w : World} {e : Int × Value} (g : GoodK w e) : e.2.scannable = true := by
  obtain ⟨k, h1, _⟩ := g
  obtain ⟨a, v⟩ := e
  rcases keyIs_shape h1 with ⟨i, t, rfl, e1⟩ | ⟨x, t, rfl, e1⟩
  · cases (show v = Value.int i t from e1); rfl
  · cases (show v = Value.str x t from e1); rfl
/-- the set at a: its keys, none twice -/
def SetG (w : World) (h : Heap) (a : Addr) (ks : List Key) : Prop :=
  ∃ o es ep t, h.get? a = some o ∧ o.ExactSet ∧ o.data = .set es ep t ∧ (∀ e ∈ es.toList, GoodK w e) ∧ (es.toList.map keyK).Perm ks ∧ ks.Nodup ∧
    es.size < scanBound ∧ t.fits es.size = true ∧ Ris t.place.toList ∧ (w.params.followText "set-order" = true ∨ t.led = true)
section
variable {P : Program} {w : World} {A : Around} {E : Value → Shared → Prop} {s : Shared} {a : Addr} {ks : List Key}
theorem SetG.at {h h' : Heap} (R : SetG w h a ks) (k : ∀ o, h.get? a = some o → h'.get? a = some o) : SetG w h' a ks := by
  obtain ⟨o, es, ep, t, ho, r⟩ := R
  exact ⟨o, es, ep, t, k o ho, r⟩
theorem goodK_elems {l : List (Int × Value)} (g : ∀ e ∈ l, GoodK w e) : ElemsOf (mixKind P w) l := fun e he => by
  obtain ⟨k, h1, h2⟩ := g e he
  exact ⟨⟨k, h1, h2⟩, goodK_scan (g e he)⟩
theorem setG_tail {g : Bool → Sem Unit} (hg : ∀ (b : Bool) (s₁ : Shared) (Q' : Unit → Shared → Prop), Q' () s₁ → wpAny (model P w) A (g b) Q' E s₁)
    {o : Obj} {es : Array (Int × Value)} {ep : Nat} {t : SetTable} (ho : s.heap.get? a = some o) (hex : o.ExactSet) (hd : o.data = .set es ep t)
    {es1 : Array (Int × Value)} {t2 : SetTable} (g1 : ∀ e ∈ es1.toList, GoodK w e) (p1 : (es1.toList.map keyK).Perm ks) (n1 : ks.Nodup)
    (hb1 : es1.size < scanBound) (hf2 : t2.fits es1.size = true) (hr : Ris t2.place.toList) (hl : w.params.followText "set-order" = true ∨ t2.led = true) {wasDummy : Bool} {R : Option Bool → Shared → Prop}
    (hR : ∀ h', Heap.SameBut a s.heap h' → SetG w h' a ks → R (some true) { s with heap := h' }) :
    wpAny (model P w) A (do
        storeSet a es1 t2
        if (!wasDummy && t2.tooFull) = true then do
            g (relayAll t2 es1 (SetTable.grown es1.size)).2.2
            storeSet a (relayAll t2 es1 (SetTable.grown es1.size)).1 (relayAll t2 es1 (SetTable.grown es1.size)).2.1
            pure (some true)
          else pure (some true)) R E s := by
  have sb1 := Heap.SameBut.update s.heap a (Obj.putSet es1 t2)
  have at1 := store_at (es' := es1) (t' := t2) ho hd
  refine wpAny_bind (wpAny_storeSet_of ho hd ?_ (fits_of_scanBound hb1))
  by_cases full : (!wasDummy && t2.tooFull) = true
  · rw [if_pos full]
    have pm := relayAll_perm t2 es1 (SetTable.grown es1.size)
    have f3 := relayAll_fits t2 es1 (SetTable.grown es1.size)
    have r3 := relayAll_ris t2 es1 (SetTable.grown es1.size)
    have l3 := relayAll_led t2 es1 (SetTable.grown es1.size)
    revert pm f3 r3 l3
    generalize relayAll t2 es1 (SetTable.grown es1.size) = Z
    obtain ⟨es2, t3, gave⟩ := Z
    intro pm f3 r3 l3
    have sz : es2.size = es1.size := by
      have := pm.length_eq
      simpa using this
    refine wpAny_bind (hg _ _ _ (wpAny_bind (wpAny_storeSet_of at1 rfl ?_ (fits_of_scanBound (show es2.size < scanBound by rw [sz]; exact hb1)))))
    refine wpAny_pure (hR _ (sb1.trans (Heap.SameBut.update _ a _)) ⟨_, es2, _, t3, store_at (es' := es2) (t' := t3) at1 rfl, hex, rfl, fun e he => g1 e (pm.mem_iff.mp he), (pm.map keyK).trans p1, n1, by rw [sz]; exact hb1, f3, r3, ?_⟩)
    rcases hl with hl | hl
    · exact .inl hl
    · exact .inr (l3.trans hl)
  · rw [if_neg full]
    exact wpAny_pure (hR _ sb1 ⟨_, es1, _, t2, at1, hex, rfl, g1, p1, n1, hb1, hf2, hr, hl⟩)
def addK (ks : List Key) (k : Key) : List Key := if (ks.any fun j => decide (j = k)) = true then ks else k :: ks
theorem any_mem {ks : List Key} {k : Key} : (ks.any fun j => decide (j = k)) = true ↔ k ∈ ks := by
  rw [List.any_eq_true]
  exact ⟨fun ⟨j, h, e⟩ => of_decide_eq_true e ▸ h, fun h => ⟨k, h, decide_eq_true rfl⟩⟩
theorem setG_add {k : Key} {v : Value} {Q : Bool → Shared → Prop} (R : SetG w s.heap a ks) (hkey : keyIs k v = true) (room : ks.length + 1 < scanBound)
    (hQ : ∀ h' b, Heap.SameBut a s.heap h' → SetG w h' a (addK ks k) → Q b { s with heap := h' }) :
    wpAny (model P w) A (setAddHashed a v ((mixKind P w).hash k)) Q E s := by
  obtain ⟨o, es, ep, t, ho, hex, hd, g, pk, nd, hb, hf, hr, hl⟩ := R
  have hkey' : (mixKind P w).is k v = true := hkey
  have hsc : v.scannable = true := by
    rcases keyIs_shape hkey with ⟨i, t, rfl, rfl⟩ | ⟨x, t, rfl, rfl⟩ <;> rfl
  have hel : ElemsOf (mixKind P w) es.toList := goodK_elems g
  have mem : k ∈ ks ↔ ∃ e ∈ es.toList, (mixKind P w).is k e.2 = true := by
    rw [← pk.mem_iff, List.mem_map]
    exact ⟨fun ⟨e, he, q⟩ => ⟨e, he, (goodK_is (g e he) k).2 q⟩, fun ⟨e, he, q⟩ => ⟨e, he, (goodK_is (g e he) k).1 q⟩⟩
  unfold setAddHashed setAddHashedIn
  refine wpAny_holding (wpAny_bind (wpAny_setState_of ho hd hf ?_))
  dsimp only
  rw [byScan_of hsc hb hel]
  simp only [↓reduceIte]
  unfold setAddByScan
  refine wpAny_bind (wpAny_bind (wpAny_rule (wpAny_bind (wpAny_setScan_of hkey' ho hd hf hel ?_))))
  cases hfi : List.findIdx? (fun e => (mixKind P w).is k e.2) es.toList with
  | some j =>
    obtain ⟨hj, pj, _⟩ := List.findIdx?_eq_some_iff_getElem.mp hfi
    have inK : k ∈ ks := mem.2 ⟨es.toList[j], List.getElem_mem hj, pj⟩
    have eK : addK ks k = ks := if_pos (any_mem.2 inK)
    refine wpAny_pure (wpAny_pure (hQ s.heap _ (Heap.SameBut.refl a s.heap) ?_))
    rw [eK]
    exact ⟨o, es, ep, t, ho, hex, hd, g, pk, nd, hb, hf, hr, hl⟩
  | none =>
    have outK : k ∉ ks := fun z => by
      obtain ⟨e, he, q⟩ := mem.1 z
      have c := List.findIdx?_eq_none_iff.mp hfi e he
      rw [q] at c
      cases c
    have eK : addK ks k = k :: ks := if_neg fun z => outK (any_mem.1 z)
    dsimp only
    have pm := layNew_perm t es ((mixKind P w).hash k) v
    have f1 := layNew_fits t es ((mixKind P w).hash k) v
    have r1 := layNew_ris t es ((mixKind P w).hash k) v hr
    have l1 := layNew_led t es ((mixKind P w).hash k) v
    revert pm f1 r1 l1
    generalize layNew t es ((mixKind P w).hash k) v = Z
    obtain ⟨es1, t1, wasDummy, gave⟩ := Z
    intro pm f1 r1 l1
    dsimp only at pm f1 r1 l1 ⊢
    rw [Array.toList_push] at pm
    have pc : es1.toList.Perm (((mixKind P w).hash k, v) :: es.toList) := pm.trans (List.perm_append_singleton _ _)
    have pk1 : (es1.toList.map keyK).Perm (k :: ks) := by
      have q := pc.map keyK
      rw [List.map_cons, keyK_is (e := ((mixKind P w).hash k, v)) hkey] at q
      exact q.trans (pk.cons k)
    have g1 : ∀ e ∈ es1.toList, GoodK w e := fun e he => by
      rcases List.mem_cons.mp (pc.mem_iff.mp he) with z | z
      · rw [z]; exact ⟨k, hkey, rfl⟩
      · exact g e z
    have nd1 : (k :: ks).Nodup := List.nodup_cons.mpr ⟨outK, nd⟩
    have hb1 : es1.size < scanBound := by
      have q := pk1.length_eq
      rw [List.length_map, Array.length_toList, List.length_cons] at q
      omega
    have led1 : w.params.followText "set-order" = true ∨ t1.led = true := by
      rcases hl with z | z
      · exact .inl z
      · exact .inr (l1.trans z)
    have gw : ∀ (b : Bool) (s₁ : Shared) (Q' : Unit → Shared → Prop), Q' () s₁ → wpAny (model P w) A (match b with | true => rule "set.scan.the-table-gave-way" | false => pure ()) Q' E s₁ := fun b s₁ Q' q => by
      cases b
      · exact wpAny_pure q
      · exact wpAny_rule q
    have fin : ∀ h', Heap.SameBut a s.heap h' → SetG w h' a (k :: ks) → Q true { s with heap := h' } := fun h' sb r => hQ h' true sb (by rw [eK]; exact r)
    refine wpAny_bind (gw _ _ _ ?_)
    split
    · refine wpAny_bind ?_
      rw [hashByValue_scannable 8 hsc]
      refine wpAny_pure (setG_tail gw ho hex hd g1 pk1 nd1 hb1 ?_ ?_ ?_ fun h' sb r => ?_)
      · first
          | exact f1
          | (split <;> first | exact f1 | exact SetTable.fits_plain_off f1)
      · first
          | exact r1
          | (split <;> exact r1)
      · first
          | exact led1
          | (split <;> exact led1)
      · dsimp only
        exact wpAny_pure (fin h' sb r)
    · refine wpAny_bind (wpAny_pure ?_)
      simp only [↓reduceIte]
      refine setG_tail gw ho hex hd g1 pk1 nd1 hb1 f1 r1 led1 fun h' sb r => ?_
      dsimp only
      exact wpAny_pure (fin h' sb r)
/-- the keys of a list, none twice -/
def foldK (xs : List Key) : List Key := xs.foldl addK []
theorem foldK_snoc (xs : List Key) (k : Key) : foldK (xs ++ [k]) = addK (foldK xs) k := by
  unfold foldK
  rw [List.foldl_append]
  rfl
theorem addK_len (ks : List Key) (k : Key) : (addK ks k).length ≤ ks.length + 1 := by
  unfold addK
  split
  · omega
  · exact Nat.le_refl _
theorem mem_addK {ks : List Key} {k j : Key} : j ∈ addK ks k ↔ j ∈ ks ∨ j = k := by
  unfold addK
  split
  · rename_i h
    have := any_mem.1 h
    exact ⟨.inl, fun z => z.elim id fun e => e ▸ this⟩
  · rw [List.mem_cons]
    exact Or.comm
theorem foldK_facts : ∀ (xs ks : List Key), (xs.foldl addK ks).length ≤ ks.length + xs.length ∧ ∀ j, j ∈ xs.foldl addK ks ↔ j ∈ ks ∨ j ∈ xs
  | [], ks => ⟨Nat.le_refl _, fun j => by simp⟩
  | x :: xs, ks => by
    have ih := foldK_facts xs (addK ks x)
    have l := addK_len ks x
    refine ⟨by show (xs.foldl addK (addK ks x)).length ≤ _; have := ih.1; rw [List.length_cons]; omega, fun j => ?_⟩
    show j ∈ xs.foldl addK (addK ks x) ↔ _
    rw [ih.2 j, mem_addK, List.mem_cons]
    exact or_assoc
theorem foldK_len (xs : List Key) : (foldK xs).length ≤ xs.length := by
  have := (foldK_facts xs []).1
  simpa [foldK] using this
theorem mem_foldK {xs : List Key} {j : Key} : j ∈ foldK xs ↔ j ∈ xs := by
  have := (foldK_facts xs []).2 j
  simpa [foldK] using this
theorem setG_new {h : Heap} {a : Addr} (ho : h.get? a = some { cls := .type "set", dict := none, data := .set #[] 0 (.fresh 0 0 (!w.params.followText "set-order")) }) : SetG w h a [] := by
  refine ⟨_, #[], 0, _, ho, ⟨rfl, rfl, rfl⟩, rfl, fun e he => absurd he (by simp), by simp, List.nodup_nil, by decide, rfl, List.Pairwise.nil, ?_⟩
  cases hx : w.params.followText "set-order" with
  | true => exact .inl rfl
  | false => exact .inr rfl
theorem setG_update {I : Addr} {fp wr : List Addr} {G : Array GenState → Array GenState → Prop} {n : Nat} {Pv : Nat → Value → Prop} {St : Nat → Shared → Prop} {R : Result → Shared → Prop}
    (W : WalksS P w A.in1 I fp wr G n Pv St) (S : Addr) (hSf : S ∉ fp) (xs : List Key) (hn : n = xs.length) (hb : xs.length + 1 < scanBound) (hval : ∀ i v, Pv i v → ∃ k, xs[i]? = some k ∧ keyIs k v = true) :
    ∀ (m i : Nat) (s : Shared), n - i = m → i ≤ n → St i s → SetG w s.heap S (foldK (xs.take i)) →
      (∀ s', Moved (S :: wr) G s s' → SetG w s'.heap S (foldK xs) → R (.ok (.ret .none)) s') →
      codeAny (model P w) A (.builtin "set.update.loop" ⟨[.ref S, .ref I], []⟩) R s := by
  have notW : S ∉ wr := fun z => hSf (W.sub _ z)
  intro m
  induction m with
  | zero =>
    intro i s hm hi hst hS hR
    obtain rfl : i = n := by omega
    rw [show xs.take i = xs from List.take_of_length_le (by omega)] at hS
    refine codeAny_builtin F.entry_set_update_loop ?_
    rw [Around.under_plainId F.plain_set_update_loop _]
    show wpAny _ A.in1 (pyNext (.ref I) >>= _) _ _ s
    exact wpAny_bind (W.done s _ _ hst fun s' mv => wpAny_pure (hR s' (mv.mono fun b hb => List.mem_cons_of_mem _ hb) (hS.at fun o e => mv.heap S o notW e)))
  | succ m ih =>
    intro i s hm hi hst hS hR
    have lt : i < n := by omega
    refine codeAny_builtin F.entry_set_update_loop ?_
    rw [Around.under_plainId F.plain_set_update_loop _]
    show wpAny _ A.in1 (pyNext (.ref I) >>= _) _ _ s
    refine wpAny_bind (W.item i s _ _ lt hst fun v s' hP hst' mv => ?_)
    obtain ⟨k, hk, hkey⟩ := hval i v hP
    have sc : v.scannable = true := by
      rcases keyIs_shape hkey with ⟨i, t, rfl, rfl⟩ | ⟨x, t, rfl, rfl⟩ <;> rfl
    have hS' : SetG w s'.heap S (foldK (xs.take i)) := hS.at fun o e => mv.heap S o notW e
    have len := foldK_len (xs.take i)
    rw [List.length_take] at len
    show wpAny _ A.in1 (holding [v] (setAdd S v) >>= _) _ _ s'
    refine wpAny_bind (wpAny_holding ?_)
    unfold setAdd
    refine wpAny_holding (wpAny_bind ((mixKind P w).pyHash (k := k) hkey ?_))
    refine setG_add (s := { s' with toks := s'.toks + 1 }) hS' hkey (by omega) fun h' b sb hS2 => ?_
    have e3 : addK (foldK (xs.take i)) k = foldK (xs.take (i + 1)) := by
      rw [List.take_add_one, hk]
      exact (foldK_snoc _ _).symm
    rw [e3] at hS2
    refine wpAny_pure ⟨plainId_quiet F.plain_set_update_loop _, ih (i + 1) _ (by omega) lt (W.frame _ s' _ _ hst' (Nat.le_succ _) fun c hc o e => ?_) hS2 fun s'' mv2 r => ?_⟩
    · rw [sb.2 c (by rintro rfl; exact hSf hc)]
      exact e
    · refine hR s'' (Moved.trans W.gtrans ((mv.mono fun b hb => List.mem_cons_of_mem _ hb).then_heap (Nat.le_succ _) fun c o hc e => ?_) mv2) r
      rw [sb.2 c (by rintro rfl; exact hc List.mem_cons_self)]
      exact e
/-- the new set, its table as the setting says -/
abbrev set0 (w : World) : Obj := { cls := .type "set", dict := none, data := .set #[] 0 (.fresh 0 0 (!w.params.followText "set-order")) }
set_option maxHeartbeats 8000000 in
/-- set(xs), a list of ints and texts -/
theorem call_setG {l : Addr} {items : Array Value} (xs : List Key) {Q : Value → Shared → Prop} (hh : A.handled = none) (hl : s.heap.IsList l items) (hn : items.size = xs.length) (hv : ∀ (i : Nat) (v : Value), items[i]? = some v → ∃ k, xs[i]? = some k ∧ keyIs k v = true) (hb : xs.length + 1 < scanBound)
    (h : ∀ (h' : Heap) (tk : Nat), SetG w h' s.heap.objs.size (foldK xs) → (∀ b o, s.heap.get? b = some o → h'.get? b = some o) → Q (.ref s.heap.objs.size) { s with heap := h', toks := tk }) :
    wpAny (model P w) A (call (.type "set") [.ref l]) Q E s := by
  obtain ⟨c, tl, hmro⟩ := F.called_set.mro
  have made := F.called_set.made
  have sub := F.called_set.sub
  have ct := F.typeCall_set_1 (.ref l)
  have nt := F.called_set.notType
  have cc := F.called_set.canCreate
  refine wpAny_call (codeAny_of_tree ?_)
  show wpAny _ _ (callAny (.type "set") _) _ _ _
  refine wpAny_pure ⟨Code.quiet_builtin _ (by decide +kernel), codeAny_builtin F.entry_type_call ?_⟩
  rw [Around.under_plain (weight_type_call_type "set" [.ref l] []) rfl]
  repeat (any_goals (first | assumption | wp_step))
  refine codeAny_mono (code_set_led1 (.ref l) (E := E) (Q₁ := fun obj s₁ => obj = .ref s.heap.objs.size ∧ s₁ = { s with heap := s.heap.push (set0 w) }) ⟨rfl, rfl⟩) fun r s₁ hr => ?_
  cases r with
  | error e => exact hr
  | ok fl =>
    cases fl with
    | ret obj =>
      obtain ⟨rfl, rfl⟩ := hr
      have new : (s.heap.push (set0 w)).get? s.heap.objs.size = some (set0 w) := Heap.get?_push_size _ rfl
      have ty : Shared.TypeIs { s with heap := s.heap.push (set0 w) } (.ref s.heap.objs.size) "set" := ⟨_, new, rfl⟩
      have il := F.called_set.init.lookup
      have ib := F.called_set.init.bind (.ref s.heap.objs.size)
      repeat (any_goals (first | assumption | wp_step))
      refine codeAny_mono (codeAny_call_builtin (R := wants (fun r s₂ => r = .none ∧ ∃ h' tk, s₂ = { s with heap := h', toks := tk } ∧ SetG w h' s.heap.objs.size (foldK xs) ∧ (∀ b o, s.heap.get? b = some o → h'.get? b = some o)) E)
        F.called_set.init.plain F.entry_set_init (check_set_init_1 ty ?_)) fun r₂ s₂ hr₂ => ?_
      · obtain ⟨ol, hol, hcl, nl, hdl⟩ := hl
        obtain ⟨ocls, odict, odata, oslots⟩ := ol
        simp only at hcl hdl
        subst hcl
        subst hdl
        have there : (s.heap.push (set0 w)).get? l = some { cls := .type "list", dict := odict, data := .seq items nl, slots := oslots } := Heap.get?_push_of_some _ hol
        have nos := F.sub_list_set
        have nof := F.sub_list_frozenset
        have nod : (Value.type "list" == Value.type "dict") = false := by decide
        have is1 : (s.heap.push (set0 w)).IsList l items := ⟨_, there, rfl, nl, rfl⟩
        unfold Builtin.«set.__init__» noKeywords Builtin.Frozenset.updateFrom
        generalize hPI : pyIter = PI
        wp_walk
        subst hPI
        refine wpAny_pyIter_list is1 (wpAny_bind (wpAny_runValue ?_))
        have lt : l < s.heap.objs.size := Heap.lt_size hol
        have hh3 : A.in1.in1.in1.handled = none := by simp [hh]
        have z1 : (s.heap.push (set0 w)).objs.size = s.heap.objs.size + 1 := Heap.size_push ..
        have ne : l ≠ (s.heap.push (set0 w)).objs.size := by
          rw [z1]
          exact Nat.ne_of_lt (Nat.lt_succ_of_lt lt)
        have out : s.heap.objs.size ∉ [(s.heap.push (set0 w)).objs.size, l] := by
          rw [z1]
          intro hm
          rcases List.mem_cons.mp hm with e | hm
          · exact absurd e (Nat.ne_of_lt (Nat.lt_succ_self _))
          · exact absurd (List.mem_singleton.mp hm) (Nat.ne_of_gt lt)
        refine setG_update ((Walks.list hh3 _ l ne items).toS) s.heap.objs.size out xs hn hb (fun i v hiv => hv i v hiv) (items.size - 0) 0 _ (by omega) (Nat.zero_le _)
          ⟨⟨_, Heap.get?_push_size _ rfl, rfl, rfl⟩, is1.push _⟩ ?hS0 ?hR
        case hS0 => exact setG_new (Heap.get?_push_of_some _ new)
        case hR =>
          intro s' mv hS'
          obtain ⟨h', g2, d', tk', os'⟩ := s'
          cases (show g2 = s.gens from mv.gens)
          cases (show d' = s.drawn from mv.drawn)
          cases (show os' = s.os from mv.os)
          show wpAny _ _ _ _ _ _
          refine wpAny_pure ?_
          show wpAny _ _ (ret Value.none) _ _ _
          refine wpAny_pure ⟨rfl, h', tk', rfl, hS', fun b o e => ?_⟩
          have b0 : b < s.heap.objs.size := Heap.lt_size e
          refine mv.heap b o (fun hm => ?_) (Heap.get?_push_of_some _ (Heap.get?_push_of_some _ e))
          rcases List.mem_cons.mp hm with q | hm
          · exact absurd q (Nat.ne_of_lt b0)
          · have q := List.mem_singleton.mp hm
            rw [q, z1] at b0
            exact absurd b0 (Nat.not_lt.mpr (Nat.le_succ _))
      · cases r₂ with
        | error e => exact hr₂
        | ok fl₂ =>
          cases fl₂ with
          | ret r =>
            obtain ⟨rfl, h', tk, rfl, hS', hk'⟩ := hr₂
            repeat (any_goals (first | assumption | wp_step))
            exact h _ _ hS' hk'
          | _ => exact hr₂.elim
    | _ => exact hr.elim
end
end Qs
namespace Qs
open PySem PySem.Spec PyProof.Rows L2
section
variable {P : Program} {w : World} {A : Around} {E : Value → Shared → Prop} {s : Shared} {a : Addr} {ks : List Key}
def keyN : Key → Int | .inl i => i | .inr _ => 0
def keyT : Key → Str | .inr x => x | .inl _ => ⟨#[]⟩
theorem keyN_of (e : Int × Value) : keyN (keyK e) = SrtO.iv e.2 := by
  obtain ⟨a, v⟩ := e
  cases v <;> rfl
theorem keyT_of (e : Int × Value) : keyT (keyK e) = strOf e.2 := by
  obtain ⟨a, v⟩ := e
  cases v <;> rfl
theorem perm_map {β : Type} {f : Key → β} {g : Value → β} (h : ∀ e : Int × Value, f (keyK e) = g e.2) {l : List (Int × Value)} {vs : List Value} (p : (l.map keyK).Perm ks) (pm : vs.Perm (l.map (·.2))) : (vs.map g).Perm (ks.map f) := by
  have e : (l.map (·.2)).map g = (l.map keyK).map f := by
    rw [List.map_map, List.map_map]
    exact List.map_congr_left fun x _ => (h x).symm
  have q := pm.map g
  rw [e] at q
  exact q.trans (p.map f)
theorem good_int {l : List (Int × Value)} (g : ∀ e ∈ l, GoodK w e) {ns : List Int} (p : (l.map keyK).Perm (ns.map Sum.inl)) {vs : List Value} (pm : vs.Perm (l.map (·.2))) : ∀ v ∈ vs, ∃ i t, v = Value.int i t := by
  intro v hv
  obtain ⟨e, he, rfl⟩ := List.mem_map.mp (pm.mem_iff.mp hv)
  obtain ⟨k, hk, _⟩ := g e he
  have m : k ∈ ns.map Sum.inl := p.mem_iff.mp (List.mem_map.mpr ⟨e, he, keyK_is hk⟩)
  obtain ⟨n, _, rfl⟩ := List.mem_map.mp m
  rcases keyIs_shape hk with ⟨i, t, _, e2⟩ | ⟨x, t, e1, _⟩
  · exact ⟨i, t, e2⟩
  · cases e1
theorem good_str {l : List (Int × Value)} (g : ∀ e ∈ l, GoodK w e) {ns : List Str} (p : (l.map keyK).Perm (ns.map Sum.inr)) {vs : List Value} (pm : vs.Perm (l.map (·.2))) : ∀ v ∈ vs, ∃ i t, v = Value.str i t := by
  intro v hv
  obtain ⟨e, he, rfl⟩ := List.mem_map.mp (pm.mem_iff.mp hv)
  obtain ⟨k, hk, _⟩ := g e he
  have m : k ∈ ns.map Sum.inr := p.mem_iff.mp (List.mem_map.mpr ⟨e, he, keyK_is hk⟩)
  obtain ⟨n, _, rfl⟩ := List.mem_map.mp m
  rcases keyIs_shape hk with ⟨i, t, e1, _⟩ | ⟨x, t, _, e2⟩
  · cases e1
  · exact ⟨x, t, e2⟩
theorem ofBound {n : Nat} (h : n < scanBound) : n ≤ sizeLine := fits_of_scanBound h
theorem sorted_setI {ns : List Int} {Q : Value → Shared → Prop} (R : SetG w s.heap a (ns.map Sum.inl)) (hh : A.handled = none)
    (hQ : ∀ s' p (out : Array Value) (c : Nat) (ns' : List Int), (∀ b o, s.heap.get? b = some o → s'.heap.get? b = some o) → s'.gens = s.gens → s'.os = s.os → s.heap.objs.size ≤ p →
      s'.heap.get? p = some (seqObj "list" out c) → IntsAre out.toList ns' → ns'.Perm ns → ns'.Pairwise (· ≤ ·) → Q (.ref p) s') :
    wpAny (model P w) A (call (.builtin "sorted") [.ref a]) Q E s := by
  obtain ⟨o, es, ep, t, ho, hex, hd, g, pk, nd, hb, hf, hr, hl⟩ := R
  refine Calls.call_function_entry kind_sorted plain_sorted entry_sorted (args_sorted1 _) ?_
  unfold Builtin.«sorted»
  refine wpAny_bind (m := checkCount "sorted" 1 1 _) (wpAny_pure (wpAny_bind (collect_set (A := A.in1) hh ⟨o, ho, hex.1, hd⟩ hf hb hr hl fun s1 vs k1 hz g1 o1 pm => ?_)))
  have lvs : vs.length ≤ sizeLine := by
    rw [pm.length_eq, List.length_map, Array.length_toList]
    exact ofBound hb
  have isI : IntsAre vs (vs.map SrtO.iv) := SrtO.ints_iv (good_int g pk pm)
  have pI : (vs.map SrtO.iv).Perm ns := by
    have q := perm_map keyN_of pk pm
    rw [List.map_map, show (keyN ∘ Sum.inl : Int → Int) = id from rfl, List.map_id] at q
    exact q
  refine wpAny_bind (wpAny_newList ?_ lvs)
  have hoL : (s1.heap.push (seqObj "list" vs.toArray 0)).get? s1.heap.objs.size = some (seqObj "list" vs.toArray 0) := Heap.get?_push_size _ rfl
  refine wpAny_bind (wpAny_holding (wpAny_call_entry slot_list_sort ⟨_, hoL, rfl⟩ entry_list_sort (list_sort_treeAny hoL isI lvs fun out ns' a1 a2 a3 => ⟨_, rfl, ?_⟩) (args_list_sort _)))
  obtain ⟨c, hc⟩ := sortedHeap_at (vs := vs) (out := out) hoL
  refine wpAny_pure ⟨_, rfl, hQ _ s1.heap.objs.size out c ns' (fun b u e => ?_) g1 o1 hz hc a1 (a2.trans pI) a3⟩
  have q := k1 b u e
  have lt := Heap.lt_size q
  show (sortedHeap (s1.heap.push (seqObj "list" vs.toArray 0)) s1.heap.objs.size vs out).get? b = some u
  rw [sortedHeap_old (Nat.ne_of_lt lt) (by rw [size_push']; exact Nat.lt_succ_of_lt lt)]
  exact Heap.get?_push_of_some _ q
theorem sorted_setS {ns : List Str} {Q : Value → Shared → Prop} (R : SetG w s.heap a (ns.map Sum.inr)) (hh : A.handled = none)
    (hQ : ∀ s' p (out : Array Value) (c : Nat) (ns' : List Str), (∀ b o, s.heap.get? b = some o → s'.heap.get? b = some o) → s'.gens = s.gens → s'.os = s.os → s.heap.objs.size ≤ p →
      s'.heap.get? p = some (seqObj "list" out c) → StrsAre out.toList ns' → ns'.Perm ns → sortedS ns' = true → Q (.ref p) s') :
    wpAny (model P w) A (call (.builtin "sorted") [.ref a]) Q E s := by
  obtain ⟨o, es, ep, t, ho, hex, hd, g, pk, nd, hb, hf, hr, hl⟩ := R
  refine Calls.call_function_entry kind_sorted plain_sorted entry_sorted (args_sorted1 _) ?_
  unfold Builtin.«sorted»
  refine wpAny_bind (m := checkCount "sorted" 1 1 _) (wpAny_pure (wpAny_bind (collect_set (A := A.in1) hh ⟨o, ho, hex.1, hd⟩ hf hb hr hl fun s1 vs k1 hz g1 o1 pm => ?_)))
  have lvs : vs.length ≤ sizeLine := by
    rw [pm.length_eq, List.length_map, Array.length_toList]
    exact ofBound hb
  have isS : StrsAre vs (vs.map strOf) := strsAre_map vs (good_str g pk pm)
  have pS : (vs.map strOf).Perm ns := by
    have q := perm_map keyT_of pk pm
    rw [List.map_map, show (keyT ∘ Sum.inr : Str → Str) = id from rfl, List.map_id] at q
    exact q
  refine wpAny_bind (wpAny_newList ?_ lvs)
  have hoL : (s1.heap.push (seqObj "list" vs.toArray 0)).get? s1.heap.objs.size = some (seqObj "list" vs.toArray 0) := Heap.get?_push_size _ rfl
  refine wpAny_bind (wpAny_holding (wpAny_call_entry slot_list_sort ⟨_, hoL, rfl⟩ entry_list_sort (list_sort_treeKAny strKind_oneLt hoL isS.keysOf (fun v₁ v₂ rest e => keyKind_strs (by rw [← e]; exact isS)) lvs fun st' hp hs => ?_) (args_list_sort _)))
  obtain ⟨ns', a1, a2, a3⟩ := sorted_out_str isS hp hs
  refine ⟨_, rfl, ?_⟩
  obtain ⟨c, hc⟩ := sortedHeap_at (vs := vs) (out := (arrOf st').map (·.2)) hoL
  refine wpAny_pure ⟨_, rfl, hQ _ s1.heap.objs.size _ c ns' (fun b u e => ?_) g1 o1 hz hc a1 (a2.trans pS) a3⟩
  have q := k1 b u e
  have lt := Heap.lt_size q
  show (sortedHeap (s1.heap.push (seqObj "list" vs.toArray 0)) s1.heap.objs.size vs _).get? b = some u
  rw [sortedHeap_old (Nat.ne_of_lt lt) (by rw [size_push']; exact Nat.lt_succ_of_lt lt)]
  exact Heap.get?_push_of_some _ q
end
/-! over the layer: the set at a -/
def SetV (w : World) (a : Addr) (ks : List Key) : HO := .ext fun h => SetG w h a ks
theorem setV_ok {w : World} {P : Program} {H : Hp} {h : Heap} {a : Addr} {ks : List Key} (R : SetG w h a ks) : ObjOk P w H h a (SetV w a ks) := by
  have at' := R
  obtain ⟨o, es, ep, t, ho, r⟩ := R
  exact ⟨at', ⟨o, ho⟩, fun h1 h2 (p : SetG w h1 a ks) k => p.at fun o e => k o e⟩
section
variable {X : Cx}
def rSetL (K : PySem.W.Frag) (w : World) : List V → Hp → VK → Prop := fun vs H Q => ∃ (a : Addr) (xs : List Key), vs = [.ref a] ∧ SqL K H a (xs.map kV) ∧ xs.length < 4000 ∧ ∀ p H', H p = none → H' = upd H p (SetV w p (foldK xs)) → Q (.ref p) H'
theorem keyIs_kV {k : Key} {v : Value} (r : RelV (kV k) v) : keyIs k v = true := by
  cases k with
  | inl i => obtain ⟨t, rfl⟩ := r; exact keyIs_int i t
  | inr x => obtain ⟨t, rfl⟩ := r; exact keyIs_str x t
theorem cr_setL (hc : X.calm = true) : CallR X (.type "set") (rSetL X.K X.w) := by
  intro pins s σ H vs us Q I r h
  obtain ⟨a, xs, rfl, hs, hb, q⟩ := h
  obtain ⟨its, rv, hl, hz⟩ := I.list hs
  rw [Vals.ref1 r]
  have ln := rv.length
  rw [List.length_map] at ln
  refine call_setG xs (I.ok.hd hc) hl.isList (by rw [List.size_toArray]; exact ln.symm) (fun i v hv => ?_) (by unfold scanBound; omega) fun h' tk R k => ?_
  · have hv' : its[i]? = some v := by simpa using hv
    cases e : xs[i]? with
    | none =>
      have q1 := List.getElem?_eq_none_iff.mp e
      have q2 := (List.getElem?_eq_some_iff.mp hv').1
      omega
    | some x =>
      obtain ⟨u, e2, ru⟩ := rv.get (i := i) (x := kV x) (by rw [List.getElem?_map, e]; rfl)
      rw [hv'] at e2
      cases e2
      exact ⟨x, rfl, keyIs_kV ru⟩
  · have fresh := I.hok.fresh (Nat.le_refl s.heap.objs.size)
    exact ⟨.ref _, _, I.laid (t' := tk) k (Nat.le_refl _) (setV_ok R), rfl, q _ _ fresh rfl⟩
def rSortSet (w : World) : List V → Hp → VK → Prop := fun vs H Q => ∃ (a : Addr), vs = [.ref a] ∧
  ((∃ ns : List Int, H a = some (SetV w a (ns.map Sum.inl)) ∧ ∀ (ns' : List Int) p, ns'.Perm ns → ns'.Pairwise (· ≤ ·) → H p = none → Q (.ref p) (upd H p (.lst (ns'.map V.int)))) ∨
   (∃ ns : List Str, H a = some (SetV w a (ns.map Sum.inr)) ∧ ∀ (ns' : List Str) p, ns'.Perm ns → sortedS ns' = true → H p = none → Q (.ref p) (upd H p (.lst (ns'.map V.str)))))
theorem new_at {pins : List (Addr × Obj)} {σ : L2.St} {H : Hp} {s s' : Shared} {p : Addr} {o : HO} {Q : VK} (I : Inv X pins σ H s) (hp : s.heap.objs.size ≤ p) (k : ∀ b u, s.heap.get? b = some u → s'.heap.get? b = some u) (g : s'.gens = s.gens) (os : s'.os = s.os)
    (ok : ObjOk X.prog X.w (upd H p o) s'.heap p o) (q : H p = none → Q (.ref p) (upd H p o)) : EP X pins σ Q (.ref p) s' := by
  have fr : H p = none := I.hok.fresh hp
  have J := I.call (g' := s'.gens) (t' := s'.toks) (d' := s'.drawn) (ch := []) (Un.laid k hp fr) (I.hok.laid k hp ok) (by rw [g]; exact I.bare) (fun _ z => nomatch z)
  have e : { s with heap := s'.heap, gens := s'.gens, drawn := s'.drawn, toks := s'.toks } = s' := by
    obtain ⟨h1, g1, d1, t1, o1⟩ := s'
    obtain ⟨h2, g2, d2, t2, o2⟩ := s
    cases (show o1 = o2 from os)
    rfl
  rw [e] at J
  exact ⟨.ref p, _, J, rfl, q fr⟩
theorem cr_sortSet (hc : X.calm = true) : CallR X (.builtin "sorted") (rSortSet X.w) := by
  intro pins s σ H vs us Q I r h
  obtain ⟨a, rfl, h⟩ := h
  rw [Vals.ref1 r]
  rcases h with ⟨ns, ha, q⟩ | ⟨ns, ha, q⟩
  · have R : SetG X.w s.heap a (ns.map Sum.inl) := (I.hok a _ ha).1
    refine sorted_setI R (I.ok.hd hc) fun s' p out c ns' k g o1 hp at' h1 h2 h3 => ?_
    have len : (ns'.map V.int).length ≤ sizeLine := by
      rw [List.length_map, h2.length_eq]
      obtain ⟨o, es, ep, t, _, _, _, _, pk, _, hb, _⟩ := R
      have e := pk.length_eq
      rw [List.length_map, List.length_map, Array.length_toList] at e
      rw [← e]
      exact ofBound hb
    exact new_at (o := .lst (ns'.map V.int)) I hp k g o1 ⟨len, out.toList, c, vals_of_ints h1, at'⟩ (q ns' p h2 h3)
  · have R : SetG X.w s.heap a (ns.map Sum.inr) := (I.hok a _ ha).1
    refine sorted_setS R (I.ok.hd hc) fun s' p out c ns' k g o1 hp at' h1 h2 h3 => ?_
    have len : (ns'.map V.str).length ≤ sizeLine := by
      rw [List.length_map, h2.length_eq]
      obtain ⟨o, es, ep, t, _, _, _, _, pk, _, hb, _⟩ := R
      have e := pk.length_eq
      rw [List.length_map, List.length_map, Array.length_toList] at e
      rw [← e]
      exact ofBound hb
    exact new_at (o := .lst (ns'.map V.str)) I hp k g o1 ⟨len, out.toList, c, vals_of_strs h1, at'⟩ (q ns' p h2 h3)
end
end Qs
namespace Qa
open PySem PySem.Spec PyProof.Rows L2
/-! sorted, of lists and sets of keys -/
def leS (a b : Str) : Prop := ltCps b.cps.toList a.cps.toList = false
theorem leS_iff {a b : Str} : leS a b ↔ ¬ b.cps.toList < a.cps.toList := by
  unfold leS
  rw [ltCps_eq, decide_eq_false_iff_not]
theorem leS_trans {a b c : Str} (h : leS a b) (h' : leS b c) : leS a c := by
  rw [leS_iff] at *
  exact List.not_lt.mpr (List.le_trans (List.not_lt.mp h) (List.not_lt.mp h'))
theorem leS_anti {a b : Str} (h : leS a b) (h' : leS b a) : a = b := by
  rw [leS_iff] at *
  have e : a.cps.toList = b.cps.toList := List.le_antisymm (List.not_lt.mp h) (List.not_lt.mp h')
  obtain ⟨x⟩ := a
  obtain ⟨y⟩ := b
  exact congrArg Str.mk (Array.toList_inj.mp e)
theorem pw_rising : ∀ (l : List Str) (p : Str), risingS p l = true → (p :: l).Pairwise leS
  | [], p, _ => by simp
  | x :: r, p, h => by
    have h' : leS p x ∧ risingS x r = true := by
      have : (!ltCps x.cps.toList p.cps.toList && risingS x r) = true := h
      simpa [leS] using this
    have ih := pw_rising r x h'.2
    refine List.pairwise_cons.mpr ⟨fun y hy => ?_, ih⟩
    rcases List.mem_cons.mp hy with rfl | hy
    · exact h'.1
    · exact leS_trans h'.1 ((List.pairwise_cons.mp ih).1 y hy)
theorem pw_sorted {l : List Str} (h : sortedS l = true) : l.Pairwise leS := by
  cases l with
  | nil => exact .nil
  | cons x r => exact pw_rising r x h
def srt (ks : List Key) : Prop := (∃ ns : List Int, ks = ns.map Sum.inl ∧ ns.Pairwise (· ≤ ·)) ∨ (∃ xs : List Str, ks = xs.map Sum.inr ∧ sortedS xs = true)
def hom (ks : List Key) : Prop := (∃ ns : List Int, ks = ns.map Sum.inl) ∨ (∃ xs : List Str, ks = xs.map Sum.inr)
theorem leK : ∀ {ks : List Key}, srt ks → ks.Pairwise (fun a b => match a, b with | .inl i, .inl j => i ≤ j | .inr x, .inr y => leS x y | _, _ => False) := by
  intro ks h
  rcases h with ⟨ns, rfl, h⟩ | ⟨xs, rfl, h⟩
  · exact List.pairwise_map.mpr h
  · exact List.pairwise_map.mpr (pw_sorted h)
theorem srt_uniq {ks ls : List Key} (p : ks.Perm ls) (a : srt ks) (b : srt ls) : ks = ls := by
  refine p.eq_of_pairwise (fun x y _ _ h h' => ?_) (leK a) (leK b)
  cases x with
  | inl i =>
    cases y with
    | inl j => exact congrArg Sum.inl (Int.le_antisymm h h')
    | inr y => exact h.elim
  | inr x =>
    cases y with
    | inl j => exact h.elim
    | inr y => exact congrArg Sum.inr (leS_anti h h')
def rSortedSA (K : PySem.W.Frag) : List V → Hp → VK → Prop := fun vs H Q => ∃ (a : Addr) (xs : List Str), vs = [V.ref a] ∧ SqL K H a (xs.map V.str) ∧
  ∀ (ys : List Str) (p : Addr), ys.Perm xs → sortedS ys = true → H p = none → Q (.ref p) (upd H p (.lst (ys.map V.str)))
section
variable {X : Cx}
theorem cr_sortedSA : CallR X (.builtin "sorted") (rSortedSA X.K) := by
  intro pins s σ H vs us Q I r h
  obtain ⟨a, xs, rfl, hs, q⟩ := h
  obtain ⟨its, rv, hl, hz⟩ := I.list hs
  rw [Vals.ref1 r]
  have hlen0 := rv.length
  have hz' : xs.length ≤ sizeLine := by rw [List.length_map] at hz; exact hz
  refine PyProof.Rows.sorted_strsAny hl.isList rv.strs (by rw [← hlen0]; exact hz) fun out ys h1 h2 h3 => ?_
  obtain ⟨ep, he'⟩ := PyProof.Rows.sortedAll_at s.heap its out
  have hlen : (ys.map V.str).length ≤ sizeLine := by rw [List.length_map, h2.length_eq]; exact hz'
  exact ⟨.ref _, upd H (s.heap.objs.size + 1) (.lst (ys.map V.str)), I.laid (t' := s.toks) (fun _ _ => PyProof.Rows.sortedAll_old) (Nat.le_succ _) ⟨hlen, out.toList, ep, vals_of_strs h1, he'⟩, rfl, q ys _ h2 h3 (I.hok.fresh (Nat.le_succ _))⟩
def rSortedX (K : PySem.W.Frag) (w : World) : List V → Hp → VK → Prop := fun vs H Q => (rSortedI K vs H Q ∨ rSortedSA K vs H Q) ∨ Qs.rSortSet w vs H Q
theorem cr_sortedA (hc : X.calm = true) : CallR X (.builtin "sorted") (rSortedX X.K X.w) := (cr_sortedI.or cr_sortedSA).or (Qs.cr_sortSet hc)
end
section
variable {K : PySem.W.Frag} {w : World} {H : Hp} {Q : VK} {a : Addr} {ks : List Key}
theorem rd_sortK (h : SqL K H a (ks.map kV)) (hm : hom ks) (q : ∀ ks' p H', ks'.Perm ks → srt ks' → H p = none → Ex H H' → H' p = some (.lst (ks'.map kV)) → Q (.ref p) H') : rSortedX K w [.ref a] H Q := by
  rcases hm with ⟨ns, rfl⟩ | ⟨xs, rfl⟩
  · rw [List.map_map] at h
    refine .inl (.inl ⟨a, ns, rfl, h, fun ns' p h1 h2 hp => q (ns'.map Sum.inl) p _ (h1.map _) (.inl ⟨ns', rfl, h2⟩) hp (Evl.Ex.new hp) ?_⟩)
    rw [upd_same, List.map_map]
    rfl
  · rw [List.map_map] at h
    refine .inl (.inr ⟨a, xs, rfl, h, fun ns' p h1 h2 hp => q (ns'.map Sum.inr) p _ (h1.map _) (.inr ⟨ns', rfl, h2⟩) hp (Evl.Ex.new hp) ?_⟩)
    rw [upd_same, List.map_map]
    rfl
theorem rd_sortSetK (h : H a = some (Qs.SetV w a ks)) (hm : hom ks) (q : ∀ ks' p H', ks'.Perm ks → srt ks' → H p = none → Ex H H' → H' p = some (.lst (ks'.map kV)) → Q (.ref p) H') : rSortedX K w [.ref a] H Q := by
  rcases hm with ⟨ns, rfl⟩ | ⟨xs, rfl⟩
  · refine .inr ⟨a, rfl, .inl ⟨ns, h, fun ns' p h1 h2 hp => q (ns'.map Sum.inl) p _ (h1.map _) (.inl ⟨ns', rfl, h2⟩) hp (Evl.Ex.new hp) ?_⟩⟩
    rw [upd_same, List.map_map]
    rfl
  · refine .inr ⟨a, rfl, .inr ⟨xs, h, fun ns' p h1 h2 hp => q (ns'.map Sum.inr) p _ (h1.map _) (.inr ⟨ns', rfl, h2⟩) hp (Evl.Ex.new hp) ?_⟩⟩
    rw [upd_same, List.map_map]
    rfl
/-- a key in a list of keys -/
def memK (k : Key) (ks : List Key) : Bool := ks.any fun j => decide (j = k)
theorem memK_iff {k : Key} {ks : List Key} : memK k ks = true ↔ k ∈ ks := Qs.any_mem
theorem inV_key (k : Key) : ∀ ks : List Key, inV (kV k) (ks.map kV) = memK k ks
  | [] => rfl
  | j :: ks => by
    have ih := inV_key k ks
    unfold inV at ih ⊢
    rw [List.map_cons, List.any_cons, ih]
    have e : eqV (kV j) (kV k) = decide (j = k) := by
      cases j with
      | inl a =>
        cases k with
        | inl b =>
          show (a == b) = _
          rw [Bool.eq_iff_iff]; simp
        | inr b => rfl
      | inr a =>
        cases k with
        | inl b => rfl
        | inr b =>
          show (a == b) = _
          rw [Bool.eq_iff_iff]; simp
    rw [e]
    rfl
theorem flat_keys (ks : List Key) : (ks.map kV).all flatV = true := by
  rw [List.all_eq_true]
  intro v hv
  obtain ⟨k, _, rfl⟩ := List.mem_map.mp hv
  cases k <;> rfl
theorem rd_outK {k : Key} (h : SqL K H a (ks.map kV)) (q : Q (.bl (!memK k ks)) H) : rIn K true (kV k) (.ref a) H Q := by
  refine rd_outL h (by cases k <;> rfl) (flat_keys ks) ?_
  rw [inV_key]
  exact q
theorem rd_setK {xs : List Key} (h : SqL K H a (xs.map kV)) (hl : xs.length < 4000) (q : ∀ p H', H p = none → Ex H H' → H' p = some (Qs.SetV w p (Qs.foldK xs)) → Q (.ref p) H') : Qs.rSetL K w [.ref a] H Q :=
  ⟨a, xs, rfl, h, hl, fun p H' hp e => q p H' hp (by rw [e]; exact Evl.Ex.new hp) (by rw [e]; exact upd_same)⟩
theorem rd_extend {l b : Addr} {xs zs : List V} (h : H l = some (.lst xs)) (h' : H b = some (.lst zs)) (hl : xs.length + zs.length ≤ 4000) (q : Q .non (upd H l (.lst (xs ++ zs)))) : rExtend (.ref l) [.ref b] H Q := ⟨l, b, xs, zs, rfl, rfl, h, h', by rw [sizeLine_eq]; omega, q⟩
end
end Qa
open PySem PySem.Spec PyProof.Rows L2 Qa
namespace K2
def topS (i : Nat) : Stmt := PySem.Challenge.pw_formlines_k02_rules.main.body.getD i (.Pass ⟨0, 0, 0, 0⟩)
abbrev sis_whole : Stmt := topS 3
abbrev nis_whole : List Str := ["thing"]
abbrev pis_whole : List Str := ["thing"]
theorem scis_whole : FnScope nis_whole pis_whole (defScope sis_whole) := ⟨rfl, rfl, rfl, by decide +kernel, rfl, by decide +kernel, by decide +kernel⟩
theorem bis_whole : BindOk "is_whole" sis_whole pis_whole := fun _ _ _ _ _ _ us hl => match us, hl with | [_], _ => rfl
theorem tis_whole {v0 : V} : start nis_whole [v0] = [some v0] := rfl

abbrev sis_within : Stmt := topS 4
abbrev nis_within : List Str := ["thing", "low", "high"]
abbrev pis_within : List Str := ["thing", "low", "high"]
theorem scis_within : FnScope nis_within pis_within (defScope sis_within) := ⟨rfl, rfl, rfl, by decide +kernel, rfl, by decide +kernel, by decide +kernel⟩
theorem bis_within : BindOk "is_within" sis_within pis_within := fun _ _ _ _ _ _ us hl => match us, hl with | [_, _, _], _ => rfl
theorem tis_within {v0 v1 v2 : V} : start nis_within [v0, v1, v2] = [some v0, some v1, some v2] := rfl

abbrev sis_number : Stmt := topS 5
abbrev nis_number : List Str := ["thing"]
abbrev pis_number : List Str := ["thing"]
theorem scis_number : FnScope nis_number pis_number (defScope sis_number) := ⟨rfl, rfl, rfl, by decide +kernel, rfl, by decide +kernel, by decide +kernel⟩
theorem bis_number : BindOk "is_number" sis_number pis_number := fun _ _ _ _ _ _ us hl => match us, hl with | [_], _ => rfl
theorem tis_number {v0 : V} : start nis_number [v0] = [some v0] := rfl

abbrev sis_percent : Stmt := topS 6
abbrev nis_percent : List Str := ["thing"]
abbrev pis_percent : List Str := ["thing"]
theorem scis_percent : FnScope nis_percent pis_percent (defScope sis_percent) := ⟨rfl, rfl, rfl, by decide +kernel, rfl, by decide +kernel, by decide +kernel⟩
theorem bis_percent : BindOk "is_percent" sis_percent pis_percent := fun _ _ _ _ _ _ us hl => match us, hl with | [_], _ => rfl
theorem tis_percent {v0 : V} : start nis_percent [v0] = [some v0] := rfl

abbrev sis_place : Stmt := topS 7
abbrev nis_place : List Str := ["thing", "count"]
abbrev pis_place : List Str := ["thing", "count"]
theorem scis_place : FnScope nis_place pis_place (defScope sis_place) := ⟨rfl, rfl, rfl, by decide +kernel, rfl, by decide +kernel, by decide +kernel⟩
theorem bis_place : BindOk "is_place" sis_place pis_place := fun _ _ _ _ _ _ us hl => match us, hl with | [_, _], _ => rfl
theorem tis_place {v0 v1 : V} : start nis_place [v0, v1] = [some v0, some v1] := rfl

abbrev sis_rule : Stmt := topS 13
abbrev nis_rule : List Str := ["thing", "lines", "tables", "choices", "counts"]
abbrev pis_rule : List Str := ["thing", "lines", "tables", "choices"]
theorem scis_rule : FnScope nis_rule pis_rule (defScope sis_rule) := ⟨rfl, rfl, rfl, by decide +kernel, rfl, by decide +kernel, by decide +kernel⟩
theorem bis_rule : BindOk "is_rule" sis_rule pis_rule := fun _ _ _ _ _ _ us hl => match us, hl with | [_, _, _, _], _ => rfl
theorem tis_rule {v0 v1 v2 v3 : V} : start nis_rule [v0, v1, v2, v3] = [some v0, some v1, some v2, some v3, none] := rfl

abbrev sis_word : Stmt := topS 14
abbrev nis_word : List Str := ["thing", "sign"]
abbrev pis_word : List Str := ["thing"]
theorem scis_word : FnScope nis_word pis_word (defScope sis_word) := ⟨rfl, rfl, rfl, by decide +kernel, rfl, by decide +kernel, by decide +kernel⟩
theorem bis_word : BindOk "is_word" sis_word pis_word := fun _ _ _ _ _ _ us hl => match us, hl with | [_], _ => rfl
theorem tis_word {v0 : V} : start nis_word [v0] = [some v0, none] := rfl

abbrev snamed : Stmt := topS 15
abbrev nnamed : List Str := ["rule", "word"]
abbrev pnamed : List Str := ["rule", "word"]
theorem scnamed : FnScope nnamed pnamed (defScope snamed) := ⟨rfl, rfl, rfl, by decide +kernel, rfl, by decide +kernel, by decide +kernel⟩
theorem bnamed : BindOk "named" snamed pnamed := fun _ _ _ _ _ _ us hl => match us, hl with | [_, _], _ => rfl
theorem tnamed {v0 v1 : V} : start nnamed [v0, v1] = [some v0, some v1] := rfl

abbrev s_is_rule_within : Stmt := topS 16
abbrev n_is_rule_within : List Str := ["thing", "counts", "levels", "part", "kind"]
abbrev p_is_rule_within : List Str := ["thing", "counts", "levels"]
theorem sc_is_rule_within : FnScope n_is_rule_within p_is_rule_within (defScope s_is_rule_within) := ⟨rfl, rfl, rfl, by decide +kernel, rfl, by decide +kernel, by decide +kernel⟩
theorem b_is_rule_within : BindOk "_is_rule_within" s_is_rule_within p_is_rule_within := fun _ _ _ _ _ _ us hl => match us, hl with | [_, _, _], _ => rfl
theorem t_is_rule_within {v0 v1 v2 : V} : start n_is_rule_within [v0, v1, v2] = [some v0, some v1, some v2, none, none] := rfl

abbrev s_has_form : Stmt := topS 17
abbrev n_has_form : List Str := ["thing", "word"]
abbrev p_has_form : List Str := ["thing"]
theorem sc_has_form : FnScope n_has_form p_has_form (defScope s_has_form) := ⟨rfl, rfl, rfl, by decide +kernel, rfl, by decide +kernel, by decide +kernel⟩
theorem b_has_form : BindOk "_has_form" s_has_form p_has_form := fun _ _ _ _ _ _ us hl => match us, hl with | [_], _ => rfl
theorem t_has_form {v0 : V} : start n_has_form [v0] = [some v0, none] := rfl

abbrev s_is_part : Stmt := topS 18
abbrev n_is_part : List Str := ["part", "kind", "counts", "levels"]
abbrev p_is_part : List Str := ["part", "kind", "counts", "levels"]
theorem sc_is_part : FnScope n_is_part p_is_part (defScope s_is_part) := ⟨rfl, rfl, rfl, by decide +kernel, rfl, by decide +kernel, by decide +kernel⟩
theorem b_is_part : BindOk "_is_part" s_is_part p_is_part := fun _ _ _ _ _ _ us hl => match us, hl with | [_, _, _, _], _ => rfl
theorem t_is_part {v0 v1 v2 v3 : V} : start n_is_part [v0, v1, v2, v3] = [some v0, some v1, some v2, some v3] := rfl

abbrev s_behind : Stmt := topS 19
abbrev n_behind : List Str := ["rule", "word", "found", "part", "kind"]
abbrev p_behind : List Str := ["rule", "word"]
theorem sc_behind : FnScope n_behind p_behind (defScope s_behind) := ⟨rfl, rfl, rfl, by decide +kernel, rfl, by decide +kernel, by decide +kernel⟩
theorem b_behind : BindOk "_behind" s_behind p_behind := fun _ _ _ _ _ _ us hl => match us, hl with | [_, _], _ => rfl
theorem t_behind {v0 v1 : V} : start n_behind [v0, v1] = [some v0, some v1, none, none, none] := rfl

abbrev s_law_cell_at : Stmt := topS 21
abbrev n_law_cell_at : List Str := ["_law_script", "_law_k"]
abbrev p_law_cell_at : List Str := ["_law_script", "_law_k"]
theorem sc_law_cell_at : FnScope n_law_cell_at p_law_cell_at (defScope s_law_cell_at) := ⟨rfl, rfl, rfl, by decide +kernel, rfl, by decide +kernel, by decide +kernel⟩
theorem b_law_cell_at : BindOk "_law_cell_at" s_law_cell_at p_law_cell_at := fun _ _ _ _ _ _ us hl => match us, hl with | [_, _], _ => rfl
theorem t_law_cell_at {v0 v1 : V} : start n_law_cell_at [v0, v1] = [some v0, some v1] := rfl

abbrev s_law_mixed : Stmt := topS 22
abbrev n_law_mixed : List Str := ["_law_cell", "_law_k"]
abbrev p_law_mixed : List Str := ["_law_cell", "_law_k"]
theorem sc_law_mixed : FnScope n_law_mixed p_law_mixed (defScope s_law_mixed) := ⟨rfl, rfl, rfl, by decide +kernel, rfl, by decide +kernel, by decide +kernel⟩
theorem b_law_mixed : BindOk "_law_mixed" s_law_mixed p_law_mixed := fun _ _ _ _ _ _ us hl => match us, hl with | [_, _], _ => rfl
theorem t_law_mixed {v0 v1 : V} : start n_law_mixed [v0, v1] = [some v0, some v1] := rfl

abbrev s_law_next : Stmt := topS 23
abbrev n_law_next : List Str := ["_law_state", "_law_size"]
abbrev p_law_next : List Str := ["_law_state", "_law_size"]
theorem sc_law_next : FnScope n_law_next p_law_next (defScope s_law_next) := ⟨rfl, rfl, rfl, by decide +kernel, rfl, by decide +kernel, by decide +kernel⟩
theorem b_law_next : BindOk "_law_next" s_law_next p_law_next := fun _ _ _ _ _ _ us hl => match us, hl with | [_, _], _ => rfl
theorem t_law_next {v0 v1 : V} : start n_law_next [v0, v1] = [some v0, some v1] := rfl

abbrev s_law_whole : Stmt := topS 24
abbrev n_law_whole : List Str := ["_law_found"]
abbrev p_law_whole : List Str := ["_law_found"]
theorem sc_law_whole : FnScope n_law_whole p_law_whole (defScope s_law_whole) := ⟨rfl, rfl, rfl, by decide +kernel, rfl, by decide +kernel, by decide +kernel⟩
theorem b_law_whole : BindOk "_law_whole" s_law_whole p_law_whole := fun _ _ _ _ _ _ us hl => match us, hl with | [_], _ => rfl
theorem t_law_whole {v0 : V} : start n_law_whole [v0] = [some v0] := rfl

abbrev s_law_number : Stmt := topS 25
abbrev n_law_number : List Str := ["_law_state", "_law_kind"]
abbrev p_law_number : List Str := ["_law_state"]
theorem sc_law_number : FnScope n_law_number p_law_number (defScope s_law_number) := ⟨rfl, rfl, rfl, by decide +kernel, rfl, by decide +kernel, by decide +kernel⟩
theorem b_law_number : BindOk "_law_number" s_law_number p_law_number := fun _ _ _ _ _ _ us hl => match us, hl with | [_], _ => rfl
theorem t_law_number {v0 : V} : start n_law_number [v0] = [some v0, none] := rfl

abbrev s_law_words : Stmt := topS 26
abbrev n_law_words : List Str := ["_law_state", "_law_letters", "_law_base", "_law_k", "_law_words_here", "_law_at"]
abbrev p_law_words : List Str := ["_law_state"]
theorem sc_law_words : FnScope n_law_words p_law_words (defScope s_law_words) := ⟨rfl, rfl, rfl, by decide +kernel, rfl, by decide +kernel, by decide +kernel⟩
theorem b_law_words : BindOk "_law_words" s_law_words p_law_words := fun _ _ _ _ _ _ us hl => match us, hl with | [_], _ => rfl
theorem t_law_words {v0 : V} : start n_law_words [v0] = [some v0, none, none, none, none, none] := rfl

abbrev s_law_plain : Stmt := topS 27
abbrev n_law_plain : List Str := ["_law_state", "_law_seen", "_law_sizes", "_law_words_here", "_law_kind"]
abbrev p_law_plain : List Str := ["_law_state", "_law_seen", "_law_sizes", "_law_words_here"]
theorem sc_law_plain : FnScope n_law_plain p_law_plain (defScope s_law_plain) := ⟨rfl, rfl, rfl, by decide +kernel, rfl, by decide +kernel, by decide +kernel⟩
theorem b_law_plain : BindOk "_law_plain" s_law_plain p_law_plain := fun _ _ _ _ _ _ us hl => match us, hl with | [_, _, _, _], _ => rfl
theorem t_law_plain {v0 v1 v2 v3 : V} : start n_law_plain [v0, v1, v2, v3] = [some v0, some v1, some v2, some v3, none] := rfl

abbrev s_law_rule : Stmt := topS 28
abbrev n_law_rule : List Str := ["_law_state", "_law_deep", "_law_seen", "_law_sizes", "_law_words_here", "_law_kind", "_law_one", "_law_other"]
abbrev p_law_rule : List Str := ["_law_state", "_law_deep", "_law_seen", "_law_sizes", "_law_words_here"]
theorem sc_law_rule : FnScope n_law_rule p_law_rule (defScope s_law_rule) := ⟨rfl, rfl, rfl, by decide +kernel, rfl, by decide +kernel, by decide +kernel⟩
theorem b_law_rule : BindOk "_law_rule" s_law_rule p_law_rule := fun _ _ _ _ _ _ us hl => match us, hl with | [_, _, _, _, _], _ => rfl
theorem t_law_rule {v0 v1 v2 v3 v4 : V} : start n_law_rule [v0, v1, v2, v3, v4] = [some v0, some v1, some v2, some v3, some v4, none, none, none] := rfl

abbrev s_law_is : Stmt := topS 29
abbrev n_law_is : List Str := ["_law_thing", "_law_sizes", "_law_deep", "_law_word", "_law_inside", "_law_size", "_law_one"]
abbrev p_law_is : List Str := ["_law_thing", "_law_sizes", "_law_deep"]
theorem sc_law_is : FnScope n_law_is p_law_is (defScope s_law_is) := ⟨rfl, rfl, rfl, by decide +kernel, rfl, by decide +kernel, by decide +kernel⟩
theorem b_law_is : BindOk "_law_is" s_law_is p_law_is := fun _ _ _ _ _ _ us hl => match us, hl with | [_, _, _], _ => rfl
theorem t_law_is {v0 v1 v2 : V} : start n_law_is [v0, v1, v2] = [some v0, some v1, some v2, none, none, none, none] := rfl

abbrev s_law_is_word : Stmt := topS 30
abbrev n_law_is_word : List Str := ["_law_thing", "_law_sign"]
abbrev p_law_is_word : List Str := ["_law_thing"]
theorem sc_law_is_word : FnScope n_law_is_word p_law_is_word (defScope s_law_is_word) := ⟨rfl, rfl, rfl, by decide +kernel, rfl, by decide +kernel, by decide +kernel⟩
theorem b_law_is_word : BindOk "_law_is_word" s_law_is_word p_law_is_word := fun _ _ _ _ _ _ us hl => match us, hl with | [_], _ => rfl
theorem t_law_is_word {v0 : V} : start n_law_is_word [v0] = [some v0, none] := rfl

abbrev s_law_odd : Stmt := topS 31
abbrev n_law_odd : List Str := ["_law_state", "_law_rule_here", "_law_sizes", "_law_far", "_law_some"]
abbrev p_law_odd : List Str := ["_law_state", "_law_rule_here", "_law_sizes"]
theorem sc_law_odd : FnScope n_law_odd p_law_odd (defScope s_law_odd) := ⟨rfl, rfl, rfl, by decide +kernel, rfl, by decide +kernel, by decide +kernel⟩
theorem b_law_odd : BindOk "_law_odd" s_law_odd p_law_odd := fun _ _ _ _ _ _ us hl => match us, hl with | [_, _, _], _ => rfl
theorem t_law_odd {v0 v1 v2 : V} : start n_law_odd [v0, v1, v2] = [some v0, some v1, some v2, none, none] := rfl

abbrev s_law_put_in : Stmt := topS 32
abbrev n_law_put_in : List Str := ["_law_state", "_law_rule_here", "_law_thing", "_law_places", "_law_k", "_law_at"]
abbrev p_law_put_in : List Str := ["_law_state", "_law_rule_here", "_law_thing"]
theorem sc_law_put_in : FnScope n_law_put_in p_law_put_in (defScope s_law_put_in) := ⟨rfl, rfl, rfl, by decide +kernel, rfl, by decide +kernel, by decide +kernel⟩
theorem b_law_put_in : BindOk "_law_put_in" s_law_put_in p_law_put_in := fun _ _ _ _ _ _ us hl => match us, hl with | [_, _, _], _ => rfl
theorem t_law_put_in {v0 v1 v2 : V} : start n_law_put_in [v0, v1, v2] = [some v0, some v1, some v2, none, none, none] := rfl

abbrev s_law_named : Stmt := topS 33
abbrev n_law_named : List Str := ["_law_rule_here", "_law_word", "_law_found", "_law_one", "_law_more"]
abbrev p_law_named : List Str := ["_law_rule_here", "_law_word"]
theorem sc_law_named : FnScope n_law_named p_law_named (defScope s_law_named) := ⟨rfl, rfl, rfl, by decide +kernel, rfl, by decide +kernel, by decide +kernel⟩
theorem b_law_named : BindOk "_law_named" s_law_named p_law_named := fun _ _ _ _ _ _ us hl => match us, hl with | [_, _], _ => rfl
theorem t_law_named {v0 v1 : V} : start n_law_named [v0, v1] = [some v0, some v1, none, none, none] := rfl

abbrev slaw : Stmt := topS 34
abbrev nlaw : List Str := ["_law_script", "_law_state", "_law_cell", "_law_sizes", "_law_words_here", "_law_rule_here", "_law_k", "_law_plain_here", "_law_good", "_law_told", "_law_word", "_law_found"]
abbrev plaw : List Str := ["_law_script"]
theorem sclaw : FnScope nlaw plaw (defScope slaw) := ⟨rfl, rfl, rfl, by decide +kernel, rfl, by decide +kernel, by decide +kernel⟩
theorem blaw : BindOk "law" slaw plaw := fun _ _ _ _ _ _ us hl => match us, hl with | [_], _ => rfl
theorem tlaw {v0 : V} : start nlaw [v0] = [some v0, none, none, none, none, none, none, none, none, none, none, none] := rfl

def tPARTS : List (Str × List Str) := [("number", ["number"]), ("paper", ["word"]), ("line", ["line"]), ("earlier", ["line"]), ("add", ["rule", "rule"]), ("take", ["rule", "rule"]), ("least", ["rule", "rule"]), ("most", ["rule", "rule"]), ("part", ["rule", "percent"]), ("table", ["table", "rule"]), ("where", ["rule", "rule", "rule"]), ("choose", ["choice", "rule", "rule"])]
structure Tx (K : PySem.W.Frag) (w : World) (mg : Str → Option Value) : Prop where
  m_sorted : mg "sorted" = none
  m_zip : mg "zip" = none
  m_range : mg "range" = none
  m_isinstance : mg "isinstance" = none
  m_int : mg "int" = none
  m_set : mg "set" = none
  m_len : mg "len" = none
  m_min : mg "min" = none
  m_list : mg "list" = none
  m_tuple : mg "tuple" = none
  m_bool : mg "bool" = none
  m_str : mg "str" = none
  g_FARTHEST : ∃ t, mg "FARTHEST" = some (.int 1000000000 t)
  g_FULL_PERCENT : ∃ t, mg "FULL_PERCENT" = some (.int 100 t)
  g_DEEPEST : ∃ t, mg "DEEPEST" = some (.int 8 t)
  g_LONGEST_WORD : ∃ t, mg "LONGEST_WORD" = some (.int 8 t)
  g_LETTERS : ∃ t, mg "LETTERS" = some (.str "abcdefghijklmnopqrstuvwxyz" t)
  g_PARTS : ∃ d, mg "PARTS" = some (.ref d) ∧ TabAt K w d tPARTS
  F_is_whole : FunAt K mg "is_whole" sis_whole
  F_is_within : FunAt K mg "is_within" sis_within
  F_is_number : FunAt K mg "is_number" sis_number
  F_is_percent : FunAt K mg "is_percent" sis_percent
  F_is_place : FunAt K mg "is_place" sis_place
  F_is_rule : FunAt K mg "is_rule" sis_rule
  F_is_word : FunAt K mg "is_word" sis_word
  F_named : FunAt K mg "named" snamed
  F__is_rule_within : FunAt K mg "_is_rule_within" s_is_rule_within
  F__has_form : FunAt K mg "_has_form" s_has_form
  F__is_part : FunAt K mg "_is_part" s_is_part
  F__behind : FunAt K mg "_behind" s_behind
  F__law_cell_at : FunAt K mg "_law_cell_at" s_law_cell_at
  F__law_mixed : FunAt K mg "_law_mixed" s_law_mixed
  F__law_next : FunAt K mg "_law_next" s_law_next
  F__law_whole : FunAt K mg "_law_whole" s_law_whole
  F__law_number : FunAt K mg "_law_number" s_law_number
  F__law_words : FunAt K mg "_law_words" s_law_words
  F__law_plain : FunAt K mg "_law_plain" s_law_plain
  F__law_rule : FunAt K mg "_law_rule" s_law_rule
  F__law_is : FunAt K mg "_law_is" s_law_is
  F__law_is_word : FunAt K mg "_law_is_word" s_law_is_word
  F__law_odd : FunAt K mg "_law_odd" s_law_odd
  F__law_put_in : FunAt K mg "_law_put_in" s_law_put_in
  F__law_named : FunAt K mg "_law_named" s_law_named
  F_law : FunAt K mg "law" slaw

end K2
open PySem PySem.Spec PyProof.Rows L2 Qa
local macro_rules | `(tactic| walk_at "tv") => `(tactic| first
  | assumption
  | exact Tv.int _
  | exact Tv.bl _
  | exact Tv.str _ (by first | assumption | decide | decide +kernel)
  | exact Tv.non
  | ((refine' tv_st ?h ?e); (case e => assumption); (case h => walk_at "tv"))
  | ((refine' tv_ex ?h ?e); (case e => assumption); (case h => walk_at "tv")))
local macro_rules | `(tactic| walk_at "tva") => `(tactic| first
  | assumption
  | ((refine' tva_st ?h ?e); (case e => assumption); (case h => walk_at "tva"))
  | ((refine' tva_ex ?h ?e); (case e => assumption); (case h => walk_at "tva")))
local macro_rules | `(tactic| walk_at "sqt") => `(tactic| first
  | assumption
  | exact SqT.of (by assumption)
  | ((refine' sqt_st ?h ?e); (case e => assumption); (case h => walk_at "sqt"))
  | ((refine' sqt_ex ?h ?e); (case e => assumption); (case h => walk_at "sqt")))
local macro_rules | `(tactic| walk_at "lst") => `(tactic| first
  | assumption
  | ((refine' lst_st ?h ?e ?n); (case e => assumption); (case n => assumption); (case h => walk_at "lst"))
  | ((refine' lst_ex ?h ?e); (case e => assumption); (case h => walk_at "lst")))
local macro_rules | `(tactic| walk_at "sql") => `(tactic| first
  | assumption
  | exact SqL.of (by walk_at "lst")
  | ((refine' sql_ex ?h ?e); (case e => assumption); (case h => walk_at "sql")))
local macro_rules | `(tactic| walk_at "sta") => `(tactic| first
  | assumption
  | ((refine' sta_st ?e); (case e => assumption))
  | ((refine' sta_ex ?h ?e); (case e => assumption); (case h => walk_at "sta")))
local macro_rules | `(tactic| walk_at "sd") => `(tactic| first
  | assumption
  | omega
  | (simp only [CMul, CDiv, CDivN, CPow]; omega)
  | decide)
local macro_rules | `(tactic| walk_at "rd1") => `(tactic| first
  | with_reducible refine rd_seq ?_
  | with_reducible refine rd_cons ?_
  | with_reducible refine rd_nil ?_
  | ((with_reducible refine' rd_var ?h ?_); (case h => exact rfl))
  | with_reducible refine rd_c ?_
  | with_reducible refine rd_op ?_
  | with_reducible refine rd_asg ?_
  | ((with_reducible refine' rd_name ?h ?_); (case h => (first | (dsimp only [List.set]; done) | (dsimp only [List.set]; exact rfl))))
  | with_reducible refine rd_cal ?_
  | with_reducible refine rd_ret ?_
  | with_reducible refine rd_ifS ?_
  | with_reducible refine rd_cb ?_
  | with_reducible refine rd_addI ?_
  | with_reducible refine rd_I0 ?_
  | with_reducible refine rd_pow9 ?_
  | with_reducible refine rd_pow12 ?_
  | ((with_reducible refine' rd_I ?h ?_); (case h => walk_at "sd"))
  | with_reducible refine rd_U ?_
  | with_reducible refine rd_eqI ?_
  | with_reducible refine rd_eqS ?_
  | with_reducible refine rd_eqB ?_
  | with_reducible refine rd_neI ?_
  | with_reducible refine rd_neS ?_
  | with_reducible refine rd_neB ?_
  | with_reducible refine rd_signIn ?_
  | with_reducible refine rd_signOut ?_
  | with_reducible refine rd_tup ?_
  | with_reducible refine rd_lst ?_
  | with_reducible refine rd_test ?_
  | with_reducible refine rd_tB ?_
  | with_reducible refine rd_bl ?_
  | with_reducible refine rd_blP ?_
  | with_reducible refine rd_tru ?_
  | with_reducible refine rd_trub ?_
  | with_reducible refine rd_trun ?_
  | with_reducible refine rd_not ?_
  | with_reducible refine rd_and ?_
  | with_reducible refine rd_or ?_
  | with_reducible refine rd_andV ?_
  | with_reducible refine rd_orV ?_
  | with_reducible refine rd_notV ?_
  | with_reducible refine rd_ifE ?_
  | with_reducible refine rd_chain ?_
  | with_reducible refine rd_retN ?_
  | with_reducible refine rd_drop ?_
  | with_reducible refine rd_next ?_
  | with_reducible refine rd_brk ?_
  | with_reducible refine rd_cont ?_
  | with_reducible refine rd_un ?_
  | with_reducible refine rd_bm ?_
  | with_reducible refine rd_sl ?_
  | with_reducible refine rd_part ?_
  | with_reducible refine rd_partI ?_
  | with_reducible refine rd_nopart ?_
  | with_reducible refine rd_gcons ?_
  | with_reducible refine rd_gnil ?_
  | with_reducible refine rd_gsub ?_
  | with_reducible refine rd_intB ?_
  | with_reducible refine rd_intI ?_
  | with_reducible refine rd_min2 ?_
  | with_reducible refine rd_max2 ?_
  | with_reducible refine rd_par ?_
  | ((with_reducible refine' rd_isInt ?h ?_); (case h => walk_at "tv"))
  | ((with_reducible refine' rd_isBool ?h ?_); (case h => walk_at "tv"))
  | ((with_reducible refine' rd_isStr ?h ?_); (case h => walk_at "tv"))
  | ((with_reducible refine' rd_isTup ?h ?_); (case h => walk_at "tv"))
  | ((with_reducible refine' rd_isLst ?h ?_); (case h => walk_at "tv"))
  | ((with_reducible refine' rd_inTab ?h ?_); (case h => assumption))
  | ((with_reducible refine' rd_outTab ?h ?_); (case h => assumption))
  | with_reducible refine rd_dgetT ?_
  | ((with_reducible refine' rd_lenS ?h ?_); (case h => first | assumption | decide))
  | ((with_reducible refine' rd_tyL ?h ?_); (case h => walk_at "sql"))
  | with_reducible refine rd_forS ?_
  | with_reducible refine rd_lcS ?_
  | with_reducible refine rd_lcR1 ?_
  | with_reducible refine rd_lcR2 ?_
  | with_reducible refine rd_forR1 ?_
  | with_reducible refine rd_forR2 ?_
  | with_reducible refine rd_forZ ?_
  | ((with_reducible refine' rd_fsT ?h ?_); (case h => walk_at "sqt"))
  | ((with_reducible refine' rd_fsL ?h ?_); (case h => walk_at "sql"))
  | with_reducible refine rd_fsS ?_
  | ((with_reducible refine' rd_fr1 ?h1 ?h2 ?_); (case h1 => omega); (case h2 => omega))
  | ((with_reducible show ite _ _ _); first | refine iteT ?_ | refine iteF ?_))
local macro_rules | `(tactic| walk_at "lcn") => `(tactic| ((refine' rd_name ?h ?_); (case h => (first | (dsimp only [wipe, List.map, List.set]; done) | (dsimp only [wipe, List.map, List.set]; exact rfl))); refine ⟨rfl, ?_⟩; (try (refine rd_yes ?_; refine iteT ?_))))
local macro_rules | `(tactic| walk_at "exx") => `(tactic| first
  | assumption
  | exact Evl.Ex.refl _
  | ((refine' Evl.Ex.trans ?h ?e); (case e => assumption); (case h => walk_at "exx")))
local macro_rules | `(tactic| walk_at "ati") => `(tactic| first
  | exact atI_nat (j := 0) rfl
  | exact atI_nat (j := 1) rfl
  | exact atI_nat (j := 2) rfl
  | exact atI_nat (j := 3) rfl)
local macro_rules | `(tactic| walk_at "len") => `(tactic| first
  | decide
  | assumption
  | (simp; done)
  | (simp; omega)
  | omega)
local macro_rules | `(tactic| walk_at "rda1") => `(tactic| first
  | walk_at "rd1"
  | ((with_reducible refine' rd_ixT ?h ?e ?_); (case h => walk_at "sqt"); (case e => walk_at "ati"))
  | ((with_reducible refine' rd_ixL ?h ?e ?_); (case h => walk_at "sql"); (case e => walk_at "ati"))
  | ((with_reducible refine' new_tup ?q ?l); (case l => walk_at "len"); intro _ _ _ _ _)
  | ((with_reducible refine' new_lst ?q ?l); (case l => walk_at "len"); intro _ _ _ _ _)
  | ((with_reducible refine' rd_addL ?a ?b ?l ?q); (case a => walk_at "lst"); (case b => walk_at "lst"); (case l => walk_at "len"); intro _ _ _ _ _)
  | ((with_reducible refine' rd_addT ?a ?b ?l ?q); (case a => walk_at "sqt"); (case b => walk_at "sqt"); (case l => walk_at "len"); intro _ _ _ _)
  | ((with_reducible refine' rd_lstOfT ?a ?q); (case a => walk_at "sqt"); intro _ _ _ _ _)
  | ((with_reducible refine' rd_tupOfL ?a ?q); (case a => walk_at "sql"); intro _ _ _ _ _)
  | ((with_reducible refine' rd_slT ?a ?q); (case a => walk_at "sqt"); intro _ _ _ _)
  | ((with_reducible refine' rd_lenT ?a ?_); (case a => walk_at "sqt"))
  | ((with_reducible refine' rd_lenL ?a ?_); (case a => walk_at "sql")))
local macro_rules | `(tactic| walk_at "rda") => `(tactic| (repeat (walk_at "rda1")))
local macro_rules | `(tactic| walk_at "tvm") => `(tactic| first
  | exact TvA.nil
  | exact Tv.int _
  | exact Tv.bl _
  | exact Tv.str _ (by first | assumption | decide | decide +kernel)
  | exact Tv.non
  | walk_at "tv"
  | ((refine' Tv.tup ?h ?a); (case h => walk_at "sqt"); (case a => walk_at "tvm"))
  | ((refine' Tv.lst ?h); (case h => walk_at "sql"))
  | ((refine' TvA.cons ?h ?a); (case h => walk_at "tvm"); (case a => walk_at "tvm")))
local macro_rules | `(tactic| walk_at "rd") => `(tactic| (repeat (walk_at "rd1")))
local macro_rules | `(tactic| walk_at "vals") => `(tactic| first
  | exact Paired.nil
  | ((refine' Paired.cons ?a ?b); (case a => exact ⟨_, rfl⟩); (case b => walk_at "vals")))
local macro_rules | `(tactic| walk_at "tab") => `(tactic| first
  | exact Paired.nil
  | ((refine' ent_cons ?k ?s ?v ?b); (case k => k_is); (case s => decide); (case v => walk_at "vals"); (case b => walk_at "tab")))

namespace K2
section
variable {P : Program} {w : World} {K : PySem.W.Frag} {mg : Str → Option Value} {base : Heap} {H : Hp} {Q : VK} {E : XK}

def isWhole : T → Bool | .int _ => true | _ => false
def spWhole (K : PySem.W.Frag) : Sp := sp1 fun a H Q => ∃ t, Tv K H a t ∧ Q (.bl (isWhole t)) H
theorem k_is_whole (T : Tx K w mg) : Cal P w K mg base "is_whole" 1 pis_whole (spWhole K) := by
  refine cal1 T.F_is_whole scis_whole bis_whole rfl fun g cdv A outer s H a Q E hr h => ?_
  obtain ⟨t, ht, q⟩ := h
  refine ⟨_, (pss_one (ps_ret (pe_and (pe_callB call_isi (by rfl) T.m_isinstance (by decide +kernel) (pa_cons (pv 0) (pa_cons (pe_ty (n := "int") T.m_int (by decide +kernel)) pa_nil))) (pe_one (pe_not (pe_callB call_isi (by rfl) T.m_isinstance (by decide +kernel) (pa_cons (pv 0) (pa_cons (pe_ty (n := "bool") T.m_bool (by decide +kernel)) pa_nil)))))))), ?_⟩
  rw [tis_whole]
  try dsimp only [cxOf, Cx.nox, Cx.wish]
  cases t <;> (walk_at "rd"; exact q)
def within (t : T) (lo hi : Int) : Bool := match t with | .int i => decide (lo ≤ i) && decide (i ≤ hi) | _ => false
def spWithin (K : PySem.W.Frag) : Sp := sp3 fun a b c H Q => ∃ t lo hi, Tv K H a t ∧ b = .int lo ∧ c = .int hi ∧ Q (.bl (within t lo hi)) H
theorem k_is_within (T : Tx K w mg) (c_is_whole : Cal P w K mg base "is_whole" 1 pis_whole (spWhole K)) : Cal P w K mg base "is_within" 2 pis_within (spWithin K) := by
  refine cal3 T.F_is_within scis_within bis_within rfl fun g cdv A outer s H a b c Q E hr h => ?_
  obtain ⟨t, lo, hi, ht, rfl, rfl, q⟩ := h
  refine ⟨_, (pss_one (ps_ret (pe_and (pe_cal c_is_whole (hr.mono (by omega)) (pa_cons (pv 0) pa_nil)) (pe_one (pe_chain op_le op_le (pv 1) (pv 0) (pv 2)))))), ?_⟩
  rw [tis_within]
  try dsimp only [cxOf, Cx.nox, Cx.wish]
  walk_at "rd"
  refine rd_sp1 ⟨t, ht, ?_⟩
  walk_at "rd"
  cases t with
  | int i =>
    cases ht
    walk_at "rd"
    refine rd_ite (fun h1 => ?_) (fun h1 => ?_)
    · walk_at "rd"
      simpa [within, h1] using q
    · simpa [within, h1] using q
  | _ => walk_at "rd"; exact q
def isNum (t : T) : Bool := within t (-1000000000) 1000000000
def isPct (t : T) : Bool := within t 0 100
def spNum (K : PySem.W.Frag) : Sp := sp1 fun a H Q => ∃ t, Tv K H a t ∧ Q (.bl (isNum t)) H
def spPct (K : PySem.W.Frag) : Sp := sp1 fun a H Q => ∃ t, Tv K H a t ∧ Q (.bl (isPct t)) H
theorem k_is_number (T : Tx K w mg) (c_is_within : Cal P w K mg base "is_within" 2 pis_within (spWithin K)) : Cal P w K mg base "is_number" 3 pis_number (spNum K) := by
  refine cal1 T.F_is_number scis_number bis_number rfl fun g cdv A outer s H a Q E hr h => ?_
  obtain ⟨t, ht, q⟩ := h
  refine ⟨_, (pss_one (ps_ret (pe_cal c_is_within (hr.mono (by omega)) (pa_cons (pv 0) (pa_cons (pe_un un_neg (pe_gint T.g_FARTHEST)) (pa_cons (pe_gint T.g_FARTHEST) pa_nil)))))), ?_⟩
  rw [tis_number]
  try dsimp only [cxOf, Cx.nox, Cx.wish]
  walk_at "rd"
  exact rd_sp3 ⟨t, _, _, ht, rfl, rfl, q⟩
theorem k_is_percent (T : Tx K w mg) (c_is_within : Cal P w K mg base "is_within" 2 pis_within (spWithin K)) : Cal P w K mg base "is_percent" 3 pis_percent (spPct K) := by
  refine cal1 T.F_is_percent scis_percent bis_percent rfl fun g cdv A outer s H a Q E hr h => ?_
  obtain ⟨t, ht, q⟩ := h
  refine ⟨_, (pss_one (ps_ret (pe_cal c_is_within (hr.mono (by omega)) (pa_cons (pv 0) (pa_cons pe_int (pa_cons (pe_gint T.g_FULL_PERCENT) pa_nil)))))), ?_⟩
  rw [tis_percent]
  try dsimp only [cxOf, Cx.nox, Cx.wish]
  walk_at "rd"
  exact rd_sp3 ⟨t, _, _, ht, rfl, rfl, q⟩

def isPlace (t : T) (n : Int) : Bool := within t 0 (n - 1)
def spPlace (K : PySem.W.Frag) : Sp := sp2 fun a b H Q => ∃ t n, Tv K H a t ∧ b = .int n ∧ Q (.bl (isPlace t n)) H
theorem k_is_place (T : Tx K w mg) (c_is_whole : Cal P w K mg base "is_whole" 1 pis_whole (spWhole K)) (c_is_within : Cal P w K mg base "is_within" 2 pis_within (spWithin K)) : Cal P w K mg base "is_place" 3 pis_place (spPlace K) := by
  refine cal2 T.F_is_place scis_place bis_place rfl fun g cdv A outer s H a b Q E hr h => ?_
  obtain ⟨t, n, ht, rfl, q⟩ := h
  refine ⟨_, (pss_one (ps_ret (pe_and (pe_cal c_is_whole (hr.mono (by omega)) (pa_cons (pv 1) pa_nil)) (pe_one (pe_cal c_is_within (hr.mono (by omega)) (pa_cons (pv 0) (pa_cons pe_int (pa_cons (pe_op op_sub (pv 1) pe_int) pa_nil)))))))), ?_⟩
  rw [tis_place]
  try dsimp only [cxOf, Cx.nox, Cx.wish]
  walk_at "rd"
  refine rd_sp1 ⟨_, .int n, ?_⟩
  walk_at "rd"
  exact rd_sp3 ⟨t, _, _, ht, rfl, rfl, q⟩
def letters : Str := "abcdefghijklmnopqrstuvwxyz"
def inLet (c : Nat) : Bool := decide (c ∈ letters.cps.toList)
def isWord : T → Bool
  | .str s => decide (1 ≤ s.length) && decide (s.length ≤ 8) && s.cps.toList.all inLet
  | _ => false
theorem isWord_str (s : Str) : isWord (.str s) = (decide (1 ≤ s.length) && decide (s.length ≤ 8) && s.cps.toList.all inLet) := rfl
def spWord (K : PySem.W.Frag) : Sp := sp1 fun a H Q => ∃ t, Tv K H a t ∧ Q (.bl (isWord t)) H
theorem k_is_word (T : Tx K w mg) : Cal P w K mg base "is_word" 1 pis_word (spWord K) := by
  refine cal1 T.F_is_word scis_word bis_word rfl fun g cdv A outer s H a Q E hr h => ?_
  obtain ⟨t, ht, q⟩ := h
  refine ⟨_, (pss_cons (ps_if (PW.pt (pw_or (pt_not (pt_tru (pe_callB call_isi (by rfl) T.m_isinstance (by decide +kernel) (pa_cons (pv 0) (pa_cons (pe_ty (n := "str") T.m_str (by decide +kernel)) pa_nil))))) (pw_or1 (pt_not (pt_chain op_le op_le pe_int (pe_callB cr_lenA (by rfl) T.m_len (by decide +kernel) (pa_cons (pv 0) pa_nil)) (pe_gint T.g_LONGEST_WORD)))))) (pss_one (ps_ret pe_bl)) pss_nil) (pss_cons (ps_for PassesOwn.never rfl (pi_seq (pv 0)) (pg_name (i := 1) (scis_word).nd rfl (by first | exact Or.inl rfl | exact Or.inr rfl)) (pss_one (ps_if (pt_cmpR op_signOut (pv 1) (pe_gstr T.g_LETTERS) (by rfl)) (pss_one (ps_ret pe_bl)) pss_nil))) (pss_one (ps_ret pe_bl)))), ?_⟩
  rw [tis_word]
  try dsimp only [cxOf, Cx.nox, Cx.wish]
  cases t with
  | str x =>
    cases ht
    walk_at "rd"
    have ln : x.length = x.cps.toList.length := rfl
    refine rd_ite (fun h1 => ?_) (fun h1 => ?_)
    · walk_at "rd"
      refine rd_iteN (fun h2 => ?_) (fun h2 => ?_)
      · walk_at "rd"
        rw [isWord_str, decide_eq_false (show ¬ x.length ≤ 8 by omega), Bool.and_false, Bool.false_and] at q
        exact q
      · walk_at "rd"
        refine forW_S (fun i σ H2 => (∃ y, σ = [some (.str x), y]) ∧ H2 = H ∧ (x.cps.toList.take i).all inLet = true) ?_ ?_ ?_
        · exact ⟨⟨_, rfl⟩, rfl, rfl⟩
        · rintro i c σ H2 hc ⟨⟨y, rfl⟩, rfl, hall⟩
          walk_at "rd"
          refine rd_iteN (fun h3 => ?_) (fun h3 => ?_)
          · walk_at "rd"
            have e2 : x.cps.toList.all inLet = false := by
              rw [Bool.eq_false_iff]
              intro z
              exact h3 (of_decide_eq_true (List.all_eq_true.mp z c (List.mem_of_getElem? hc)))
            rw [isWord_str, e2, Bool.and_false] at q
            exact q
          · walk_at "rd"
            refine ⟨⟨_, rfl⟩, rfl, ?_⟩
            rw [List.take_add_one, hc, List.all_append, hall]
            show (true && (inLet c && true)) = true
            rw [show inLet c = true from decide_eq_true h3]
            rfl
        · rintro σ H2 ⟨⟨y, rfl⟩, rfl, hall⟩
          walk_at "rd"
          rw [ln, List.take_length] at hall
          rw [isWord_str, hall, decide_eq_true (show 1 ≤ x.length by omega), decide_eq_true (show x.length ≤ 8 by omega)] at q
          exact q
    · walk_at "rd"
      rw [isWord_str, decide_eq_false (show ¬ 1 ≤ x.length by omega), Bool.false_and, Bool.false_and] at q
      exact q
  | _ => walk_at "rd"; exact q
end
end K2
open PySem PySem.Spec PyProof.Rows L2 Qa


namespace K2
section
variable {P : Program} {w : World} {K : PySem.W.Frag} {mg : Str → Option Value} {base : Heap} {H : Hp} {Q : VK} {E : XK}
def kindsOf (x : Str) : Option (List Str) := tPARTS.lookup x
def hasForm : T → Bool
  | .tup (.str x :: ts) => match kindsOf x with | some ks => decide (ts.length = ks.length) | none => false
  | _ => false
theorem hasForm_str (x : Str) (ts : List T) : hasForm (.tup (.str x :: ts)) = match kindsOf x with | some ks => decide (ts.length = ks.length) | none => false := rfl
def spForm (K : PySem.W.Frag) : Sp := sp1 fun a H Q => ∃ t, Tv K H a t ∧ Q (.bl (hasForm t)) H
theorem k__has_form (T : Tx K w mg) : Cal P w K mg base "_has_form" 1 p_has_form (spForm K) := by
  refine cal1 T.F__has_form sc_has_form b_has_form rfl fun g cdv A outer s H a Q E hr h => ?_
  obtain ⟨t, ht, q⟩ := h
  obtain ⟨dP, h_PARTS, tP⟩ := T.g_PARTS
  refine ⟨_, (pss_cons (ps_if (PW.pt (pw_or (pt_not (pt_tru (pe_callB call_isi (by rfl) T.m_isinstance (by decide +kernel) (pa_cons (pv 0) (pa_cons (pe_ty (n := "tuple") T.m_tuple (by decide +kernel)) pa_nil))))) (pw_or1 (pt_not (pt_tru (pv 0)))))) (pss_one (ps_ret pe_bl)) pss_nil) (pss_cons (ps_set (i := 1) (sc_has_form).nd rfl (by first | exact Or.inl rfl | exact Or.inr rfl) (pe_ix ix_seq (pv 0) pe_int (fun _ _ => rfl))) (pss_cons (ps_if (PW.pt (pw_or (pt_not (pt_tru (pe_callB call_isi (by rfl) T.m_isinstance (by decide +kernel) (pa_cons (pv 1) (pa_cons (pe_ty (n := "str") T.m_str (by decide +kernel)) pa_nil))))) (pw_or1 (pt_cmpR op_notinTab (pv 1) (pe_gtab h_PARTS) (by rfl))))) (pss_one (ps_ret pe_bl)) pss_nil) (pss_one (ps_ret (pe_cmpR (op_eqA hr) (pe_callB cr_lenA (by rfl) T.m_len (by decide +kernel) (pa_cons (pv 0) pa_nil)) (pe_op op_addA pe_int (pe_callB cr_lenA (by rfl) T.m_len (by decide +kernel) (pa_cons (pe_ix ix_kdict (pe_gtab h_PARTS) (pv 1) (fun _ _ => rfl)) pa_nil))) (nomark _))))))), ?_⟩
  rw [t_has_form]
  try dsimp only [cxOf, Cx.nox, Cx.wish]
  walk_at "rd"
  cases t with
  | tup ts =>
    walk_at "rd"
    refine rd_truT ht ?_
    cases ts with
    | nil => walk_at "rd"; exact q
    | cons t0 ts =>
      walk_at "rd"
      refine rd_ixD (n := 0) ht rfl rfl fun x hx => ?_
      walk_at "rd"
      cases t0 with
      | str z =>
        cases hx
        walk_at "rd"
        rw [hasForm_str] at q
        cases e : kindsOf z with
        | none =>
          rw [show tPARTS.lookup z = none from e]
          rw [e] at q
          walk_at "rd"
          exact q
        | some ks =>
          rw [show tPARTS.lookup z = some ks from e]
          rw [e] at q
          walk_at "rd"
          refine rd_lenD ht ?_
          walk_at "rd"
          refine rd_ixTab tP e fun a ha => ?_
          walk_at "rd"
          refine rd_lenT ha ?_
          walk_at "rd"
          have e2 : decide (((.str z :: ts : List Qa.T).length : Int) = 1 + (((ks.map V.str).length : Nat) : Int)) = decide (ts.length = ks.length) := by
            rw [decide_eq_decide, List.length_cons, List.length_map]
            omega
          rw [e2]
          exact q
      | _ => walk_at "rd"; exact q
  | _ => walk_at "rd"; exact q
/-! what a rule is -/
structure Sz where
  l : Int
  tb : Int
  ch : Int
def sizeOf' (s : Sz) (k : Str) : Int := if k = "line" then s.l else if k = "table" then s.tb else s.ch
def partOk (rec : T → Bool) (s : Sz) (k : Str) (t : T) : Bool :=
  if k = "rule" then rec t else if k = "number" then isNum t else if k = "percent" then isPct t else if k = "word" then isWord t else isPlace t (sizeOf' s k)
def zipOk (f : Str → T → Bool) : List T → List Str → Bool
  | t :: ts, k :: ks => f k t && zipOk f ts ks
  | _, _ => true
def isRule (s : Sz) : Nat → T → Bool
  | 0, _ => false
  | n + 1, t => hasForm t && match t with
    | .tup (.str x :: ts) => (match kindsOf x with | some ks => zipOk (partOk (isRule s n) s) ts ks | none => false)
    | _ => false
def cnt (s : Sz) : List (Key × V) := [(.inr "line", .int s.l), (.inr "table", .int s.tb), (.inr "choice", .int s.ch)]
def kinds : List Str := ["number", "word", "line", "rule", "percent", "table", "choice"]
def spRW (K : PySem.W.Frag) (n : Nat) : Sp := sp3 fun a b c H Q => ∃ t d s, Tv K H a t ∧ b = .ref d ∧ H d = some (.dK (cnt s)) ∧ c = .int ((n : Nat) : Int) ∧ ∀ H', Ex H H' → Q (.bl (isRule s n t)) H'
def spPart (K : PySem.W.Frag) (n : Nat) : Sp := sp4 fun a b c d H Q => ∃ t k dd s, Tv K H a t ∧ b = .str k ∧ k ∈ kinds ∧ c = .ref dd ∧ H dd = some (.dK (cnt s)) ∧ d = .int (((n + 1 : Nat)) : Int) ∧ ∀ H', Ex H H' → Q (.bl (partOk (isRule s n) s k t)) H'
theorem k__is_part (T : Tx K w mg) {n m : Nat} (c__is_rule_within : Cal P w K mg base "_is_rule_within" m p_is_rule_within (spRW K n)) (hm : 3 ≤ m) (c_is_number : Cal P w K mg base "is_number" 3 pis_number (spNum K)) (c_is_percent : Cal P w K mg base "is_percent" 3 pis_percent (spPct K))
    (c_is_word : Cal P w K mg base "is_word" 1 pis_word (spWord K)) (c_is_place : Cal P w K mg base "is_place" 3 pis_place (spPlace K)) : Cal P w K mg base "_is_part" (m + 1) p_is_part (spPart K n) := by
  refine cal4 T.F__is_part sc_is_part b_is_part rfl fun g cdv A outer s H a b c d Q E hr h => ?_
  obtain ⟨t, k, dd, sz, ht, rfl, hk, rfl, hd, rfl, q⟩ := h
  refine ⟨_, (pss_cons (ps_if (pt_cmpR (op_eqA hr) (pv 1) pe_str (nomark _)) (pss_one (ps_ret (pe_cal c__is_rule_within (hr.mono (by omega)) (pa_cons (pv 0) (pa_cons (pv 2) (pa_cons (pe_op op_sub (pv 3) pe_int) pa_nil)))))) pss_nil) (pss_cons (ps_if (pt_cmpR (op_eqA hr) (pv 1) pe_str (nomark _)) (pss_one (ps_ret (pe_cal c_is_number (hr.mono (by omega)) (pa_cons (pv 0) pa_nil)))) pss_nil) (pss_cons (ps_if (pt_cmpR (op_eqA hr) (pv 1) pe_str (nomark _)) (pss_one (ps_ret (pe_cal c_is_percent (hr.mono (by omega)) (pa_cons (pv 0) pa_nil)))) pss_nil) (pss_cons (ps_if (pt_cmpR (op_eqA hr) (pv 1) pe_str (nomark _)) (pss_one (ps_ret (pe_cal c_is_word (hr.mono (by omega)) (pa_cons (pv 0) pa_nil)))) pss_nil) (pss_one (ps_ret (pe_cal c_is_place (hr.mono (by omega)) (pa_cons (pv 0) (pa_cons (pe_dget (hu_of hr) (pv 2) (pv 1) (fun _ _ => rfl)) pa_nil))))))))), ?_⟩
  rw [t_is_part]
  try dsimp only [cxOf, Cx.nox, Cx.wish]
  have q0 := q H (Evl.Ex.refl H)
  unfold partOk at q0
  walk_at "rd"
  refine rd_ite (fun h1 => ?_) (fun h1 => ?_)
  · walk_at "rd"
    refine rd_sp3 ⟨t, dd, sz, ht, rfl, hd, by congr 1; omega, fun H' e => ?_⟩
    have q1 := q H' e
    unfold partOk at q1
    rw [if_pos h1] at q1
    exact q1
  rw [if_neg h1] at q0
  walk_at "rd"
  refine rd_ite (fun h2 => ?_) (fun h2 => ?_)
  · rw [if_pos h2] at q0
    walk_at "rd"
    exact rd_sp1 ⟨t, ht, q0⟩
  rw [if_neg h2] at q0
  walk_at "rd"
  refine rd_ite (fun h3 => ?_) (fun h3 => ?_)
  · rw [if_pos h3] at q0
    walk_at "rd"
    exact rd_sp1 ⟨t, ht, q0⟩
  rw [if_neg h3] at q0
  walk_at "rd"
  refine rd_ite (fun h4 => ?_) (fun h4 => ?_)
  · rw [if_pos h4] at q0
    walk_at "rd"
    exact rd_sp1 ⟨t, ht, q0⟩
  rw [if_neg h4] at q0
  walk_at "rd"
  have hv : valV (cnt sz) (.inr k) = some (.int (sizeOf' sz k)) := by
    simp only [kinds, List.mem_cons, List.not_mem_nil, or_false] at hk
    rcases hk with rfl | rfl | rfl | rfl | rfl | rfl | rfl
    · exact absurd rfl h2
    · exact absurd rfl h4
    · rfl
    · exact absurd rfl h1
    · exact absurd rfl h3
    · rfl
    · rfl
  refine rd_dgetK hd hv ?_
  walk_at "rd"
  exact rd_sp2 ⟨t, _, ht, rfl, q0⟩
end
end K2
open PySem PySem.Spec PyProof.Rows L2 Qa


namespace K2
section
variable {P : Program} {w : World} {K : PySem.W.Frag} {mg : Str → Option Value} {base : Heap} {H : Hp} {Q : VK} {E : XK}
theorem zipOk_drop (f : Str → T → Bool) : ∀ (ts : List T) (ks : List Str) (i : Nat) (t : T) (k : Str), ts[i]? = some t → ks[i]? = some k → zipOk f (ts.drop i) (ks.drop i) = (f k t && zipOk f (ts.drop (i + 1)) (ks.drop (i + 1)))
  | [], _, i, _, _, h, _ => by simp at h
  | _ :: _, [], i, _, _, _, h => by simp at h
  | _ :: _, _ :: _, 0, _, _, h, h2 => by cases (Option.some.inj h); cases (Option.some.inj h2); rfl
  | _ :: ts, _ :: ks, i + 1, t, k, h, h2 => zipOk_drop f ts ks i t k h h2
theorem zipOk_end (f : Str → T → Bool) (ts : List T) (ks : List Str) (i : Nat) (h : min ts.length ks.length ≤ i) : zipOk f (ts.drop i) (ks.drop i) = true := by
  by_cases h1 : ts.length ≤ i
  · rw [List.drop_eq_nil_of_le h1]
    cases ks.drop i <;> rfl
  · rw [List.drop_eq_nil_of_le (show ks.length ≤ i by omega)]
    cases ts.drop i <;> rfl
theorem kinds_of {x : Str} {ks : List Str} (h : kindsOf x = some ks) : ∀ k ∈ ks, k ∈ kinds := by
  have all : ∀ p ∈ tPARTS, ∀ k ∈ p.2, k ∈ kinds := by decide +kernel
  have := List.lookup_eq_some_iff.mp (show tPARTS.lookup x = some ks from h)
  obtain ⟨l1, l2, e, _⟩ := this
  exact all (x, ks) (by rw [e]; simp)
theorem isRule_form (s : Sz) (n : Nat) {x : Str} {ts : List T} {ks : List Str} (e : kindsOf x = some ks) (h : ts.length = ks.length) : isRule s (n + 1) (.tup (.str x :: ts)) = zipOk (partOk (isRule s n) s) ts ks := by
  show (hasForm (.tup (.str x :: ts)) && match kindsOf x with | some ks => zipOk (partOk (isRule s n) s) ts ks | none => false) = _
  rw [hasForm_str, e]
  show (decide (ts.length = ks.length) && _) = _
  rw [decide_eq_true h, Bool.true_and]
theorem isRule_noform (s : Sz) (n : Nat) {t : T} (h : hasForm t = false) : isRule s (n + 1) t = false := by
  show (hasForm t && _) = false
  rw [h, Bool.false_and]
theorem form_of {t : T} (h : hasForm t = true) : ∃ x ts ks, t = .tup (.str x :: ts) ∧ kindsOf x = some ks ∧ ts.length = ks.length := by
  cases t with
  | tup ts =>
    cases ts with
    | nil => cases h
    | cons t0 ts =>
      cases t0 with
      | str x =>
        rw [hasForm_str] at h
        cases e : kindsOf x with
        | none => rw [e] at h; cases h
        | some ks => rw [e] at h; exact ⟨x, ts, ks, rfl, e, of_decide_eq_true h⟩
      | _ => cases h
  | _ => cases h
/-- a def that is not reached -/
def spNo : Sp := fun _ _ _ _ => False
theorem cal_no {x : Str} {st : Stmt} {N ps : List Str} (F : FunAt K mg x st) (S : FnScope N ps (defScope st)) (hb : BindOk x st ps) : Cal P w K mg base x 1 ps spNo :=
  cal_mk F S hb (fun _ _ _ _ h => h.elim) fun _ _ _ _ _ _ _ _ _ _ h => h.elim
theorem k_rw0 (T : Tx K w mg) (c__has_form : Cal P w K mg base "_has_form" 1 p_has_form (spForm K)) : Cal P w K mg base "_is_rule_within" 2 p_is_rule_within (spRW K 0) := by
  have c__is_part : Cal P w K mg base "_is_part" 1 p_is_part spNo := cal_no T.F__is_part sc_is_part b_is_part
  refine cal3 T.F__is_rule_within sc_is_rule_within b_is_rule_within rfl fun g cdv A outer s H a b c Q E hr h => ?_
  obtain ⟨t, d, sz, ht, rfl, hd, rfl, q⟩ := h
  obtain ⟨dP, h_PARTS, tP⟩ := T.g_PARTS
  refine ⟨_, (pss_cons (ps_if (PW.pt (pw_or (pt_cmpR (op_eqA hr) (pv 2) pe_int (nomark _)) (pw_or1 (pt_not (pt_tru (pe_cal c__has_form (hr.mono (by omega)) (pa_cons (pv 0) pa_nil))))))) (pss_one (ps_ret pe_bl)) pss_nil) (pss_cons (ps_for PassesOwn.never rfl (RZ.pi_zipA (by rfl) T.m_zip (pa_cons (pe_slice sl_any (pv 0) (po_some pe_int) po_none) (pa_cons (pe_ix ix_kdict (pe_gtab h_PARTS) (pe_ix ix_seq (pv 0) pe_int (fun _ _ => rfl)) (fun _ _ => rfl)) pa_nil))) (pg_tup (n := 2) rfl (pgs_cons (pg_name (i := 3) (sc_is_rule_within).nd rfl (by first | exact Or.inl rfl | exact Or.inr rfl)) (pgs_cons (pg_name (i := 4) (sc_is_rule_within).nd rfl (by first | exact Or.inl rfl | exact Or.inr rfl)) pgs_nil))) (pss_one (ps_if (pt_not (pt_tru (pe_cal c__is_part (hr.mono (by omega)) (pa_cons (pv 3) (pa_cons (pv 4) (pa_cons (pv 1) (pa_cons (pv 2) pa_nil))))))) (pss_one (ps_ret pe_bl)) pss_nil))) (pss_one (ps_ret pe_bl)))), ?_⟩
  rw [t_is_rule_within]
  try dsimp only [cxOf, Cx.nox, Cx.wish]
  walk_at "rd"
  exact q _ (Evl.Ex.refl _)
theorem k_rw {n m : Nat} (T : Tx K w mg) (c__has_form : Cal P w K mg base "_has_form" 1 p_has_form (spForm K)) (c__is_part : Cal P w K mg base "_is_part" m p_is_part (spPart K n)) (hm : 1 ≤ m) : Cal P w K mg base "_is_rule_within" (m + 1) p_is_rule_within (spRW K (n + 1)) := by
  refine cal3 T.F__is_rule_within sc_is_rule_within b_is_rule_within rfl fun g cdv A outer s H a b c Q E hr h => ?_
  obtain ⟨t, d, sz, ht, rfl, hd, rfl, q⟩ := h
  obtain ⟨dP, h_PARTS, tP⟩ := T.g_PARTS
  refine ⟨_, (pss_cons (ps_if (PW.pt (pw_or (pt_cmpR (op_eqA hr) (pv 2) pe_int (nomark _)) (pw_or1 (pt_not (pt_tru (pe_cal c__has_form (hr.mono (by omega)) (pa_cons (pv 0) pa_nil))))))) (pss_one (ps_ret pe_bl)) pss_nil) (pss_cons (ps_for PassesOwn.never rfl (RZ.pi_zipA (by rfl) T.m_zip (pa_cons (pe_slice sl_any (pv 0) (po_some pe_int) po_none) (pa_cons (pe_ix ix_kdict (pe_gtab h_PARTS) (pe_ix ix_seq (pv 0) pe_int (fun _ _ => rfl)) (fun _ _ => rfl)) pa_nil))) (pg_tup (n := 2) rfl (pgs_cons (pg_name (i := 3) (sc_is_rule_within).nd rfl (by first | exact Or.inl rfl | exact Or.inr rfl)) (pgs_cons (pg_name (i := 4) (sc_is_rule_within).nd rfl (by first | exact Or.inl rfl | exact Or.inr rfl)) pgs_nil))) (pss_one (ps_if (pt_not (pt_tru (pe_cal c__is_part (hr.mono (by omega)) (pa_cons (pv 3) (pa_cons (pv 4) (pa_cons (pv 1) (pa_cons (pv 2) pa_nil))))))) (pss_one (ps_ret pe_bl)) pss_nil))) (pss_one (ps_ret pe_bl)))), ?_⟩
  rw [t_is_rule_within]
  try dsimp only [cxOf, Cx.nox, Cx.wish]
  walk_at "rd"
  refine rd_sp1 ⟨t, ht, ?_⟩
  walk_at "rd"
  cases hf : hasForm t with
  | false =>
    walk_at "rd"
    rw [isRule_noform sz n hf] at q
    exact q _ (Evl.Ex.refl _)
  | true =>
    walk_at "rd"
    obtain ⟨x, ts, ks, rfl, e, hl⟩ := form_of hf
    rw [isRule_form sz n e hl] at q
    obtain ⟨p, xs, rfl, hs, ha⟩ := ht.tupE
    have hix : ∀ H2, Ex H H2 → Tv K H2 (.ref p) (.tup (.str x :: ts)) := fun H2 e2 => tv_ex ht e2
    refine rd_slT hs fun r H1 e1 hr1 => ?_
    rw [cutV_tail] at hr1
    walk_at "rd"
    refine rd_ixD (n := 0) (hix H1 e1) rfl rfl fun v hv => ?_
    cases hv
    walk_at "rd"
    refine rd_ixTab tP e fun r2 hr2 => ?_
    walk_at "rd"
    refine rd_fzT hr1 hr2 ?_
    have ha' : TvA K H (xs.drop 1) ts := ha.drop 1
    have lx : (xs.drop 1).length = ts.length := ha'.len
    refine forW_Z (xs.drop 1) (ks.map V.str) (n := ts.length) (by rw [List.length_map, lx]; omega) (fun i σ H2 => (∃ y z, σ = [some (.ref p), some (.ref d), some (.int ((n + 1 : Nat) : Int)), y, z]) ∧ Ex H1 H2 ∧ zipOk (partOk (isRule sz n) sz) ts ks = zipOk (partOk (isRule sz n) sz) (ts.drop i) (ks.drop i)) ?_ ?_ ?_ ?_
    · exact ⟨⟨_, _, rfl⟩, Evl.Ex.refl _, rfl⟩
    · rintro i σ H2 hi ⟨_, e2, _⟩
      exact ⟨sqt_ex hr1 e2, sqt_ex hr2 e2⟩
    · rintro i y z c σ H2 H3 hi ⟨⟨y0, z0, rfl⟩, e2, hz⟩ hy hzz hc e3 hcT
      have a3 : TvA K H3 (xs.drop 1) ts := tva_ex (tva_ex (tva_ex ha' e1) e2) e3
      obtain ⟨ty, hty, vy⟩ := a3.getV hy
      rw [List.getElem?_map] at hzz
      cases ek : ks[i]? with
      | none => rw [ek] at hzz; cases hzz
      | some k =>
        rw [ek] at hzz
        cases (Option.some.inj hzz)
        refine rd_gtup (SqT.of hcT) rfl ?_
        walk_at "rd"
        have EE : Ex H H3 := by walk_at "exx"
        refine rd_sp4 ⟨ty, k, d, sz, vy, rfl, kinds_of e k (List.mem_of_getElem? ek), rfl, dK_ex hd EE, rfl, fun H4 e4 => ?_⟩
        have e5 := zipOk_drop (partOk (isRule sz n) sz) ts ks i ty k hty ek
        walk_at "rd"
        cases hp : partOk (isRule sz n) sz k ty with
        | true =>
          walk_at "rd"
          refine ⟨⟨_, _, rfl⟩, (e2.trans e3).trans e4, ?_⟩
          rw [hz, e5, hp, Bool.true_and]
        | false =>
          walk_at "rd"
          rw [hz, e5, hp, Bool.false_and] at q
          exact q _ (EE.trans e4)
    · rintro σ H2 ⟨_, e2, hz⟩
      walk_at "rd"
      rw [hz, zipOk_end _ _ _ _ (by omega)] at q
      exact q _ (e1.trans e2)
theorem k_rwn (T : Tx K w mg) (c__has_form : Cal P w K mg base "_has_form" 1 p_has_form (spForm K)) (c_is_number : Cal P w K mg base "is_number" 3 pis_number (spNum K)) (c_is_percent : Cal P w K mg base "is_percent" 3 pis_percent (spPct K))
    (c_is_word : Cal P w K mg base "is_word" 1 pis_word (spWord K)) (c_is_place : Cal P w K mg base "is_place" 3 pis_place (spPlace K)) : ∀ n : Nat, Cal P w K mg base "_is_rule_within" (3 + 2 * n) p_is_rule_within (spRW K n)
  | 0 => (k_rw0 T c__has_form).mono (by omega)
  | n + 1 => (k_rw T c__has_form (k__is_part T (k_rwn T c__has_form c_is_number c_is_percent c_is_word c_is_place n) (by omega) c_is_number c_is_percent c_is_word c_is_place) (by omega)).mono (by omega)
theorem rd_disp {σ : L2.St} {trs : List (TE × TE)} (q : ∀ p, H p = none → tPairs trs σ (upd H p (.dK [])) fun ps H2 => H2 p = some (.dK []) ∧ ∃ kvs : List (Key × V), ps = kvs.map (fun kv => (kV kv.1, kv.2)) ∧ kvs.length ≤ 15 ∧ Q (.ref p) (upd H2 p (.dK (mergeK [] kvs)))) : tDisp trs σ H Q := q
theorem rd_pcons {σ : L2.St} {tk tv : TE} {r : List (TE × TE)} {R : List (V × V) → Hp → Prop} (q : tk σ H fun x H1 => tv σ H1 fun y H2 => tPairs r σ H2 fun ps H3 => R ((x, y) :: ps) H3) : tPairs ((tk, tv) :: r) σ H R := q
theorem rd_pnil {σ : L2.St} {R : List (V × V) → Hp → Prop} (q : R [] H) : tPairs [] σ H R := q
def spIsRule (K : PySem.W.Frag) : Sp := sp4 fun a b c d H Q => ∃ t sz, Tv K H a t ∧ b = .int sz.l ∧ c = .int sz.tb ∧ d = .int sz.ch ∧ ∀ H', Ex H H' → Q (.bl (isRule sz 8 t)) H'
theorem k_is_rule (T : Tx K w mg) (c__is_rule_within : Cal P w K mg base "_is_rule_within" 19 p_is_rule_within (spRW K 8)) : Cal P w K mg base "is_rule" 20 pis_rule (spIsRule K) := by
  refine cal4 T.F_is_rule scis_rule bis_rule rfl fun g cdv A outer s H a b c d Q E hr h => ?_
  obtain ⟨t, sz, ht, rfl, rfl, rfl, q⟩ := h
  refine ⟨_, (pss_cons (ps_set (i := 4) (scis_rule).nd rfl (by first | exact Or.inl rfl | exact Or.inr rfl) (pe_disp (pps_cons pe_str (pv 1) (pps_cons pe_str (pv 2) (pps_cons pe_str (pv 3) pps_nil))) (by rfl) (by rfl) (fun z => by cases z) (by decide))) (pss_one (ps_ret (pe_cal c__is_rule_within (hr.mono (by omega)) (pa_cons (pv 0) (pa_cons (pv 4) (pa_cons (pe_gint T.g_DEEPEST) pa_nil))))))), ?_⟩
  rw [tis_rule]
  try dsimp only [cxOf, Cx.nox, Cx.wish]
  walk_at "rd"
  refine rd_disp fun p hp => ?_
  refine rd_pcons ?_
  walk_at "rd"
  refine rd_pcons ?_
  walk_at "rd"
  refine rd_pcons ?_
  walk_at "rd"
  refine rd_pnil ⟨upd_same, cnt sz, rfl, by show 3 ≤ 15; decide, ?_⟩
  have e : mergeK [] (cnt sz) = cnt sz := rfl
  rw [e]
  generalize eH : upd (upd H p (.dK [])) p (.dK (cnt sz)) = H1
  have h1 : H1 p = some (.dK (cnt sz)) := by rw [← eH]; exact upd_same
  have E1 : Ex H H1 := by
    intro b o hb
    have ne : b ≠ p := by rintro rfl; rw [hp] at hb; cases hb
    rw [← eH, upd_ne ne, upd_ne ne]
    exact hb
  walk_at "rd"
  exact rd_sp3 ⟨t, p, sz, tv_ex ht E1, rfl, h1, rfl, fun H' e => q H' (E1.trans e)⟩
end
end K2
open PySem PySem.Spec PyProof.Rows L2 Qa


namespace K2
section
variable {P : Program} {w : World} {K : PySem.W.Frag} {mg : Str → Option Value} {base : Heap} {H : Hp} {Q : VK} {E : XK}
def spCell (K : PySem.W.Frag) : Sp := sp2 fun a b H Q => ∃ (l : Addr) (ns : List Int) (k : Nat), a = .ref l ∧ b = .int ((k : Nat) : Int) ∧ SqL K H l (ns.map V.int) ∧ ∀ r, Q (.int r) H
theorem k__law_cell_at (T : Tx K w mg) : Cal P w K mg base "_law_cell_at" 1 p_law_cell_at (spCell K) := by
  refine cal2 T.F__law_cell_at sc_law_cell_at b_law_cell_at rfl fun g cdv A outer s H a b Q E hr h => ?_
  obtain ⟨l, ns, k, rfl, rfl, hl, q⟩ := h
  refine ⟨_, (pss_cons (ps_if (pt_cmpR op_lt (pv 1) (pe_callB cr_lenA (by rfl) T.m_len (by decide +kernel) (pa_cons (pv 0) pa_nil)) (nomark _)) (pss_one (ps_ret (pe_ix ix_seq (pv 0) (pv 1) (fun _ _ => rfl)))) pss_nil) (pss_one (ps_ret pe_int))), ?_⟩
  rw [t_law_cell_at]
  try dsimp only [cxOf, Cx.nox, Cx.wish]
  walk_at "rd"
  refine rd_lenL hl ?_
  walk_at "rd"
  refine rd_ite (fun h1 => ?_) (fun h1 => ?_)
  · walk_at "rd"
    rw [List.length_map] at h1
    have hk : k < ns.length := by omega
    refine rd_ixL hl (atI_nat (j := k) (v := .int ns[k]) ?_) ?_
    · rw [List.getElem?_map, List.getElem?_eq_getElem hk]
      rfl
    · exact q _
  · walk_at "rd"
    exact q _
def spMixed (K : PySem.W.Frag) : Sp := sp2 fun a b H Q => ∃ c k, a = .int c ∧ b = .int k ∧ ∀ r, 0 ≤ r → r < 2147483647 → Q (.int r) H
theorem k__law_mixed (T : Tx K w mg) : Cal P w K mg base "_law_mixed" 1 p_law_mixed (spMixed K) := by
  refine cal2 T.F__law_mixed sc_law_mixed b_law_mixed rfl fun g cdv A outer s H a b Q E hr h => ?_
  obtain ⟨c, k, rfl, rfl, q⟩ := h
  refine ⟨_, (pss_one (ps_ret (pe_op op_mod (pe_op op_mul (pe_op op_addA (pv 0) (pe_op op_mul pe_int (pv 1))) pe_int) pe_int))), ?_⟩
  rw [t_law_mixed]
  try dsimp only [cxOf, Cx.nox, Cx.wish]
  walk_at "rd"
  exact q _ (by omega) (by omega)
def spNext (K : PySem.W.Frag) : Sp := sp2 fun a b H Q => ∃ l n, a = .ref l ∧ b = .int n ∧ (∃ s, H l = some (.lst [.int s])) ∧ 0 < n ∧ ∀ r H', 0 ≤ r → r < n → St1 l H H' → Q (.int r) H'
theorem k__law_next (T : Tx K w mg) : Cal P w K mg base "_law_next" 1 p_law_next (spNext K) := by
  refine cal2 T.F__law_next sc_law_next b_law_next rfl fun g cdv A outer s H a b Q E hr h => ?_
  obtain ⟨l, n, rfl, rfl, ⟨s0, hl⟩, hn, q⟩ := h
  refine ⟨_, (pss_cons (ps_asg (pe_op op_mod (pe_op op_addA (pe_op op_mul (pe_ix ix_seq (pv 0) pe_int (fun _ _ => rfl)) pe_int) pe_int) pe_int) (pg_sub (pv 0) pe_int set_list)) (pss_one (ps_ret (pe_op op_mod (pe_op op_fdiv (pe_ix ix_seq (pv 0) pe_int (fun _ _ => rfl)) pe_int) (pv 1))))), ?_⟩
  rw [t_law_next]
  try dsimp only [cxOf, Cx.nox, Cx.wish]
  walk_at "rd"
  refine rd_ixL (.of hl) (atI_nat (j := 0) rfl) ?_
  walk_at "rd"
  refine rd_setL hl (j := 0) rfl ?_
  walk_at "rd"
  refine rd_ixL (.of upd_same) (atI_nat (j := 0) rfl) ?_
  walk_at "rd"
  refine q _ _ (Int.emod_nonneg _ (by omega)) (Int.emod_lt_of_pos _ hn) ⟨fun b o hb e => by rw [upd_ne hb]; exact e, ⟨_, upd_same⟩, Tame.upd hl⟩
theorem nx {l : Addr} {n : Int} {E : XK} (h : ∃ s, H l = some (.lst [.int s])) (hn : 0 < n) (q : ∀ r H', 0 ≤ r → r < n → St1 l H H' → Q (.int r) H') : spNext K [.ref l, .int n] H Q E := rd_sp2 ⟨l, n, rfl, rfl, h, hn, q⟩
theorem k__law_whole (T : Tx K w mg) : Cal P w K mg base "_law_whole" 1 p_law_whole (spWhole K) := by
  refine cal1 T.F__law_whole sc_law_whole b_law_whole rfl fun g cdv A outer s H a Q E hr h => ?_
  obtain ⟨t, ht, q⟩ := h
  refine ⟨_, (pss_one (ps_ret (pe_and (pe_callB call_isi (by rfl) T.m_isinstance (by decide +kernel) (pa_cons (pv 0) (pa_cons (pe_ty (n := "int") T.m_int (by decide +kernel)) pa_nil))) (pe_one (pe_not (pe_callB call_isi (by rfl) T.m_isinstance (by decide +kernel) (pa_cons (pv 0) (pa_cons (pe_ty (n := "bool") T.m_bool (by decide +kernel)) pa_nil)))))))), ?_⟩
  rw [t_law_whole]
  try dsimp only [cxOf, Cx.nox, Cx.wish]
  cases t <;> (walk_at "rd"; exact q)
def spNumb (K : PySem.W.Frag) : Sp := sp1 fun a H Q => ∃ l, a = .ref l ∧ (∃ s, H l = some (.lst [.int s])) ∧ ∀ r H', -1000000000 ≤ r → r ≤ 1000000000 → St1 l H H' → Q (.int r) H'
theorem k__law_number (T : Tx K w mg) (c__law_next : Cal P w K mg base "_law_next" 1 p_law_next (spNext K)) : Cal P w K mg base "_law_number" 2 p_law_number (spNumb K) := by
  refine cal1 T.F__law_number sc_law_number b_law_number rfl fun g cdv A outer s H a Q E hr h => ?_
  obtain ⟨l, rfl, hl, q⟩ := h
  refine ⟨_, (pss_cons (ps_set (i := 1) (sc_law_number).nd rfl (by first | exact Or.inl rfl | exact Or.inr rfl) (pe_cal c__law_next (hr.mono (by omega)) (pa_cons (pv 0) (pa_cons pe_int pa_nil)))) (pss_cons (ps_if (pt_cmpR (op_eqA hr) (pv 1) pe_int (nomark _)) (pss_one (ps_ret (pe_ix ix_seq (pe_lst (pa_cons (pe_un un_neg (pe_op op_pow pe_int pe_int)) (pa_cons (pe_op op_pow pe_int pe_int) (pa_cons (pe_op op_sub (pe_op op_pow pe_int pe_int) pe_int) (pa_cons (pe_op op_sub pe_int (pe_op op_pow pe_int pe_int)) pa_nil))))) (pe_cal c__law_next (hr.mono (by omega)) (pa_cons (pv 0) (pa_cons pe_int pa_nil))) (fun _ _ => rfl)))) pss_nil) (pss_cons (ps_if (pt_cmpR (op_eqA hr) (pv 1) pe_int (nomark _)) (pss_one (ps_ret (pe_op op_sub (pe_cal c__law_next (hr.mono (by omega)) (pa_cons (pv 0) (pa_cons pe_int pa_nil))) pe_int))) pss_nil) (pss_one (ps_ret (pe_op op_sub (pe_cal c__law_next (hr.mono (by omega)) (pa_cons (pv 0) (pa_cons pe_int pa_nil))) pe_int)))))), ?_⟩
  rw [t_law_number]
  try dsimp only [cxOf, Cx.nox, Cx.wish]
  walk_at "rd"
  refine nx hl (by decide) fun r1 H1 a1 b1 S1 => ?_
  walk_at "rd"
  refine rd_ite (fun h1 => ?_) (fun h1 => ?_)
  · walk_at "rd"
    refine new_lst fun p H2 hp E2 h2 => ?_
    walk_at "rd"
    refine nx (by walk_at "sta") (by decide) fun r3 H3 a3 b3 S3 => ?_
    walk_at "rd"
    have hp3 : H3 p = _ := S3.fr p _ (ne_st S1.st hp) h2
    refine rd_ixLm (.of hp3) a3 (by simpa using b3) fun v hv => ?_
    have S : St1 l H H3 := (S1.trans (.ex S1.st E2)).trans S3
    simp only [List.mem_cons, List.not_mem_nil, or_false] at hv
    rcases hv with rfl | rfl | rfl | rfl <;> exact q _ _ (by decide) (by decide) S
  · walk_at "rd"
    refine rd_ite (fun h2 => ?_) (fun h2 => ?_)
    · walk_at "rd"
      refine nx S1.st (by decide) fun r2 H2 a2 b2 S2 => ?_
      walk_at "rd"
      exact q _ _ (by omega) (by omega) (S1.trans S2)
    · walk_at "rd"
      refine nx S1.st (by decide) fun r2 H2 a2 b2 S2 => ?_
      walk_at "rd"
      exact q _ _ (by omega) (by omega) (S1.trans S2)

/-! is it a rule, the law's own -/
theorem k__law_is_word (T : Tx K w mg) : Cal P w K mg base "_law_is_word" 1 p_law_is_word (spWord K) := by
  refine cal1 T.F__law_is_word sc_law_is_word b_law_is_word rfl fun g cdv A outer s H a Q E hr h => ?_
  obtain ⟨t, ht, q⟩ := h
  refine ⟨_, (pss_cons (ps_if (PW.pt (pw_or (pt_not (pt_tru (pe_callB call_isi (by rfl) T.m_isinstance (by decide +kernel) (pa_cons (pv 0) (pa_cons (pe_ty (n := "str") T.m_str (by decide +kernel)) pa_nil))))) (pw_or (pt_cmpR op_lt (pe_callB cr_lenA (by rfl) T.m_len (by decide +kernel) (pa_cons (pv 0) pa_nil)) pe_int (nomark _)) (pw_or1 (pt_cmpR op_gt (pe_callB cr_lenA (by rfl) T.m_len (by decide +kernel) (pa_cons (pv 0) pa_nil)) pe_int (nomark _)))))) (pss_one (ps_ret pe_bl)) pss_nil) (pss_cons (ps_for PassesOwn.never rfl (pi_seq (pv 0)) (pg_name (i := 1) (sc_law_is_word).nd rfl (by first | exact Or.inl rfl | exact Or.inr rfl)) (pss_one (ps_if (pt_cmpR op_signOut (pv 1) pe_str (by rfl)) (pss_one (ps_ret pe_bl)) pss_nil))) (pss_one (ps_ret pe_bl)))), ?_⟩
  rw [t_law_is_word]
  try dsimp only [cxOf, Cx.nox, Cx.wish]
  cases t with
  | str x =>
    cases ht
    walk_at "rd"
    have ln : x.length = x.cps.toList.length := rfl
    refine rd_ite (fun h1 => ?_) (fun h1 => ?_)
    · walk_at "rd"
      rw [isWord_str, decide_eq_false (show ¬ 1 ≤ x.length by omega), Bool.false_and, Bool.false_and] at q
      exact q
    · walk_at "rd"
      refine rd_ite (fun h2 => ?_) (fun h2 => ?_)
      · walk_at "rd"
        rw [isWord_str, decide_eq_false (show ¬ x.length ≤ 8 by omega), Bool.and_false, Bool.false_and] at q
        exact q
      · walk_at "rd"
        refine forW_S (fun i σ H2 => (∃ y, σ = [some (.str x), y]) ∧ H2 = H ∧ (x.cps.toList.take i).all inLet = true) ?_ ?_ ?_
        · exact ⟨⟨_, rfl⟩, rfl, rfl⟩
        · rintro i c σ H2 hc ⟨⟨y, rfl⟩, rfl, hall⟩
          walk_at "rd"
          refine rd_iteN (fun h3 => ?_) (fun h3 => ?_)
          · walk_at "rd"
            have e2 : x.cps.toList.all inLet = false := by
              rw [Bool.eq_false_iff]
              intro z
              exact h3 (of_decide_eq_true (List.all_eq_true.mp z c (List.mem_of_getElem? hc)))
            rw [isWord_str, e2, Bool.and_false] at q
            exact q
          · walk_at "rd"
            refine ⟨⟨_, rfl⟩, rfl, ?_⟩
            rw [List.take_add_one, hc, List.all_append, hall]
            show (true && (inLet c && true)) = true
            rw [show inLet c = true from decide_eq_true h3]
            rfl
        · rintro σ H2 ⟨⟨y, rfl⟩, rfl, hall⟩
          walk_at "rd"
          rw [ln, List.take_length] at hall
          rw [isWord_str, hall, decide_eq_true (show 1 ≤ x.length by omega), decide_eq_true (show x.length ≤ 8 by omega)] at q
          exact q
  | _ => walk_at "rd"; exact q
end
end K2
open PySem PySem.Spec PyProof.Rows L2 Qa


namespace K2
section
variable {P : Program} {w : World} {K : PySem.W.Frag} {mg : Str → Option Value} {base : Heap} {H : Hp} {Q : VK} {E : XK}
theorem inV_str (x : Str) : ∀ (ws : List Str), inV (.str x) (ws.map V.str) = decide (x ∈ ws)
  | [] => rfl
  | y :: ws => by
    have ih := inV_str x ws
    unfold inV at ih ⊢
    rw [List.map_cons, List.any_cons, ih]
    show ((y == x) || decide (x ∈ ws)) = _
    by_cases h : y = x
    · subst h
      simp
    · rw [beq_eq_false_iff_ne.mpr h, Bool.false_or, decide_eq_decide, List.mem_cons]
      exact ⟨.inr, fun z => z.resolve_left (Ne.symm h)⟩
theorem flat_strs (ws : List Str) : (ws.map V.str).all flatV = true := by
  rw [List.all_eq_true]
  intro v hv
  obtain ⟨z, _, rfl⟩ := List.mem_map.mp hv
  rfl
theorem rd_inSs {x : Str} {a : Addr} (ws : List Str) (h : SqL K H a (ws.map V.str)) (q : Q (.bl (decide (x ∈ ws))) H) : rIn K false (.str x) (.ref a) H Q := by
  refine rd_inL h rfl (flat_strs ws) ?_
  rw [inV_str]
  exact q
theorem rd_outSs {x : Str} {a : Addr} (ws : List Str) (h : SqL K H a (ws.map V.str)) (q : Q (.bl (!decide (x ∈ ws))) H) : rIn K true (.str x) (.ref a) H Q := by
  refine rd_outL h rfl (flat_strs ws) ?_
  rw [inV_str]
  exact q
theorem isRule_at (s : Sz) (n : Nat) {x : Str} {ts : List T} {ks : List Str} (e : kindsOf x = some ks) : isRule s (n + 1) (.tup (.str x :: ts)) = (decide (ts.length = ks.length) && zipOk (partOk (isRule s n) s) ts ks) := by
  show (hasForm (.tup (.str x :: ts)) && match kindsOf x with | some ks => zipOk (partOk (isRule s n) s) ts ks | none => false) = _
  rw [hasForm_str, e]
theorem isRule_len (s : Sz) (n : Nat) {x : Str} {ts : List T} {ks : List Str} (e : kindsOf x = some ks) (h : ts.length ≠ ks.length) : isRule s (n + 1) (.tup (.str x :: ts)) = false := by
  rw [isRule_at s n e, decide_eq_false h, Bool.false_and]
theorem isRule_none (s : Sz) (n : Nat) {x : Str} {ts : List T} (e : kindsOf x = none) : isRule s (n + 1) (.tup (.str x :: ts)) = false := by
  apply isRule_noform
  rw [hasForm_str, e]
theorem kinds_len {x : Str} {ks : List Str} (h : kindsOf x = some ks) : 1 ≤ ks.length ∧ ks.length ≤ 3 := by
  have all : ∀ p ∈ tPARTS, 1 ≤ p.2.length ∧ p.2.length ≤ 3 := by decide +kernel
  obtain ⟨l1, l2, e, _⟩ := List.lookup_eq_some_iff.mp (show tPARTS.lookup x = some ks from h)
  exact all (x, ks) (by rw [e]; simp)
def words : List Str := ["number", "paper", "line", "earlier", "add", "take", "least", "most", "part", "table", "where", "choose"]
theorem words_map : tPARTS.map (·.1) = words := rfl
theorem kinds_none {x : Str} (h : x ∉ words) : kindsOf x = none := by
  show tPARTS.lookup x = none
  rw [List.lookup_eq_none_iff]
  intro p hp
  rw [bne_iff_ne]
  rintro rfl
  exact h (words_map ▸ List.mem_map.mpr ⟨p, hp, rfl⟩)
section
variable (s : Sz) (n : Nat) (a b c : T)
theorem R_number : isRule s (n + 1) (.tup [.str "number", a]) = isNum a := by
  rw [isRule_at s n (ks := ["number"]) rfl]
  show (true && (isNum a && true)) = _
  simp
theorem R_paper : isRule s (n + 1) (.tup [.str "paper", a]) = isWord a := by
  rw [isRule_at s n (ks := ["word"]) rfl]
  show (true && (isWord a && true)) = _
  simp
theorem R_line : isRule s (n + 1) (.tup [.str "line", a]) = isPlace a s.l := by
  rw [isRule_at s n (ks := ["line"]) rfl]
  show (true && (isPlace a s.l && true)) = _
  simp
theorem R_earlier : isRule s (n + 1) (.tup [.str "earlier", a]) = isPlace a s.l := by
  rw [isRule_at s n (ks := ["line"]) rfl]
  show (true && (isPlace a s.l && true)) = _
  simp
theorem R_part : isRule s (n + 1) (.tup [.str "part", a, b]) = (isRule s n a && isPct b) := by
  rw [isRule_at s n (ks := ["rule", "percent"]) rfl]
  show (true && (isRule s n a && (isPct b && true))) = _
  simp
theorem R_table : isRule s (n + 1) (.tup [.str "table", a, b]) = (isPlace a s.tb && isRule s n b) := by
  rw [isRule_at s n (ks := ["table", "rule"]) rfl]
  show (true && (isPlace a s.tb && (isRule s n b && true))) = _
  simp
theorem R_choose : isRule s (n + 1) (.tup [.str "choose", a, b, c]) = (isPlace a s.ch && (isRule s n b && isRule s n c)) := by
  rw [isRule_at s n (ks := ["choice", "rule", "rule"]) rfl]
  show (true && (isPlace a s.ch && (isRule s n b && (isRule s n c && true)))) = _
  simp
theorem R_where : isRule s (n + 1) (.tup [.str "where", a, b, c]) = [a, b, c].all (isRule s n) := by
  rw [isRule_at s n (ks := ["rule", "rule", "rule"]) rfl]
  show (true && _) = _
  rw [Bool.true_and]
  rfl
theorem R_two {x : Str} (h : x ∈ (["add", "take", "least", "most"] : List Str)) : kindsOf x = some (["rule", "rule"] : List Str) ∧ isRule s (n + 1) (.tup [.str x, a, b]) = [a, b].all (isRule s n) := by
  have e : kindsOf x = some (["rule", "rule"] : List Str) := by
    simp only [List.mem_cons, List.not_mem_nil, or_false] at h
    rcases h with rfl | rfl | rfl | rfl <;> rfl
  refine ⟨e, ?_⟩
  rw [isRule_at s n e]
  show (true && _) = _
  rw [Bool.true_and]
  rfl
end
def spLawIs (K : PySem.W.Frag) (n : Nat) : Sp := sp3 fun a b c H Q => ∃ t sz d, Tv K H a t ∧ b = .ref d ∧ SqT K H d [.int sz.l, .int sz.tb, .int sz.ch] ∧ c = .int (9 - (n : Int)) ∧ n ≤ 8 ∧ ∀ H', Ex H H' → Q (.bl (isRule sz n t)) H'
theorem k_lawis {n m : Nat} (T : Tx K w mg) (c__law_whole : Cal P w K mg base "_law_whole" 1 p_law_whole (spWhole K)) (c__law_is_word : Cal P w K mg base "_law_is_word" 1 p_law_is_word (spWord K))
    (c__law_is : Cal P w K mg base "_law_is" m p_law_is (spLawIs K n)) (hm : 1 ≤ m) : Cal P w K mg base "_law_is" (m + 1) p_law_is (spLawIs K (n + 1)) := by
  refine cal3 T.F__law_is sc_law_is b_law_is rfl fun g cdv A outer s H a b c Q E hr h => ?_
  obtain ⟨t, sz, d, ht, rfl, hd, rfl, hn, q⟩ := h
  refine ⟨_, (pss_cons (ps_if (PW.pt (pw_or (pt_not (pt_tru (pe_callB call_isi (by rfl) T.m_isinstance (by decide +kernel) (pa_cons (pv 0) (pa_cons (pe_ty (n := "tuple") T.m_tuple (by decide +kernel)) pa_nil))))) (pw_or (pt_cmpR op_lt (pe_callB cr_lenA (by rfl) T.m_len (by decide +kernel) (pa_cons (pv 0) pa_nil)) pe_int (nomark _)) (pw_or (pt_cmpR op_gt (pv 2) pe_int (nomark _)) (pw_or1 (pt_not (pt_tru (pe_callB call_isi (by rfl) T.m_isinstance (by decide +kernel) (pa_cons (pe_ix ix_seq (pv 0) pe_int (fun _ _ => rfl)) (pa_cons (pe_ty (n := "str") T.m_str (by decide +kernel)) pa_nil)))))))))) (pss_one (ps_ret pe_bl)) pss_nil) (pss_cons (ps_set (i := 3) (sc_law_is).nd rfl (by first | exact Or.inl rfl | exact Or.inr rfl) (pe_ix ix_seq (pv 0) pe_int (fun _ _ => rfl))) (pss_cons (ps_if (pt_cmpR (op_eqA hr) (pv 3) pe_str (nomark _)) (pss_one (ps_ret (pe_and (pe_cmpR (op_eqA hr) (pe_callB cr_lenA (by rfl) T.m_len (by decide +kernel) (pa_cons (pv 0) pa_nil)) pe_int (nomark _)) (pe_and (pe_cal c__law_whole (hr.mono (by omega)) (pa_cons (pe_ix ix_seq (pv 0) pe_int (fun _ _ => rfl)) pa_nil)) (pe_one (pe_chain op_le op_le (pe_un un_neg (pe_op op_pow pe_int pe_int)) (pe_ix ix_seq (pv 0) pe_int (fun _ _ => rfl)) (pe_op op_pow pe_int pe_int))))))) pss_nil) (pss_cons (ps_if (pt_cmpR (op_eqA hr) (pv 3) pe_str (nomark _)) (pss_one (ps_ret (pe_and (pe_cmpR (op_eqA hr) (pe_callB cr_lenA (by rfl) T.m_len (by decide +kernel) (pa_cons (pv 0) pa_nil)) pe_int (nomark _)) (pe_one (pe_cal c__law_is_word (hr.mono (by omega)) (pa_cons (pe_ix ix_seq (pv 0) pe_int (fun _ _ => rfl)) pa_nil)))))) pss_nil) (pss_cons (ps_if (pt_cmpR op_in_seq (pv 3) (pe_lst (pa_cons pe_str (pa_cons pe_str pa_nil))) (by rfl)) (pss_one (ps_ret (pe_and (pe_cmpR (op_eqA hr) (pe_callB cr_lenA (by rfl) T.m_len (by decide +kernel) (pa_cons (pv 0) pa_nil)) pe_int (nomark _)) (pe_and (pe_cal c__law_whole (hr.mono (by omega)) (pa_cons (pe_ix ix_seq (pv 0) pe_int (fun _ _ => rfl)) pa_nil)) (pe_one (pe_chain op_le op_lt pe_int (pe_ix ix_seq (pv 0) pe_int (fun _ _ => rfl)) (pe_ix ix_seq (pv 1) pe_int (fun _ _ => rfl)))))))) pss_nil) (pss_cons (ps_set (i := 4) (sc_law_is).nd rfl (by first | exact Or.inl rfl | exact Or.inr rfl) (pe_slice sl_any (pv 0) (po_some pe_int) po_none)) (Evl.pss_cut (ps_if (pt_cmpR (op_eqA hr) (pv 3) pe_str (nomark _)) (pss_cons (ps_if (PW.pt (pw_or (pt_cmpR (op_neA hr) (pe_callB cr_lenA (by rfl) T.m_len (by decide +kernel) (pa_cons (pv 0) pa_nil)) pe_int (nomark _)) (pw_or (pt_not (pt_tru (pe_cal c__law_whole (hr.mono (by omega)) (pa_cons (pe_ix ix_seq (pv 0) pe_int (fun _ _ => rfl)) pa_nil)))) (pw_or (pt_cmpR op_lt (pe_ix ix_seq (pv 0) pe_int (fun _ _ => rfl)) pe_int (nomark _)) (pw_or1 (pt_cmpR op_gt (pe_ix ix_seq (pv 0) pe_int (fun _ _ => rfl)) pe_int (nomark _))))))) (pss_one (ps_ret pe_bl)) pss_nil) (pss_one (ps_set (i := 4) (sc_law_is).nd rfl (by first | exact Or.inl rfl | exact Or.inr rfl) (pe_slice sl_any (pv 0) (po_some pe_int) (po_some pe_int))))) (pss_one (ps_if (pt_cmpR op_in_seq (pv 3) (pe_lst (pa_cons pe_str (pa_cons pe_str pa_nil))) (by rfl)) (pss_cons (ps_set (i := 5) (sc_law_is).nd rfl (by first | exact Or.inl rfl | exact Or.inr rfl) (pe_ix ix_seq (pe_lst (pa_cons (pe_ix ix_seq (pv 1) pe_int (fun _ _ => rfl)) (pa_cons (pe_ix ix_seq (pv 1) pe_int (fun _ _ => rfl)) pa_nil))) (pe_callTy cr_int1 (by rfl) T.m_int (by decide +kernel) (pa_cons (pe_cmpR (op_eqA hr) (pv 3) pe_str (nomark _)) pa_nil)) (fun _ _ => rfl))) (pss_cons (ps_if (PW.pt (pw_or (pt_cmpR (op_neA hr) (pe_callB cr_lenA (by rfl) T.m_len (by decide +kernel) (pa_cons (pv 0) pa_nil)) (pe_op op_addA pe_int (pe_callTy cr_int1 (by rfl) T.m_int (by decide +kernel) (pa_cons (pe_cmpR (op_eqA hr) (pv 3) pe_str (nomark _)) pa_nil))) (nomark _)) (pw_or (pt_not (pt_tru (pe_cal c__law_whole (hr.mono (by omega)) (pa_cons (pe_ix ix_seq (pv 0) pe_int (fun _ _ => rfl)) pa_nil)))) (pw_or1 (pt_not (pt_chain op_le op_lt pe_int (pe_ix ix_seq (pv 0) pe_int (fun _ _ => rfl)) (pv 5))))))) (pss_one (ps_ret pe_bl)) pss_nil) (pss_one (ps_set (i := 4) (sc_law_is).nd rfl (by first | exact Or.inl rfl | exact Or.inr rfl) (pe_slice sl_any (pv 0) (po_some pe_int) po_none))))) (pss_one (ps_if (PW.pt (pw_or (pt_cmpR (op_neA hr) (pe_callB cr_lenA (by rfl) T.m_len (by decide +kernel) (pa_cons (pv 0) pa_nil)) (pe_op op_addA pe_int (pe_callTy cr_int1 (by rfl) T.m_int (by decide +kernel) (pa_cons (pe_cmpR (op_eqA hr) (pv 3) pe_str (nomark _)) pa_nil))) (nomark _)) (pw_or1 (pt_cmpR op_notIn_seq (pv 3) (pe_lst (pa_cons pe_str (pa_cons pe_str (pa_cons pe_str (pa_cons pe_str (pa_cons pe_str pa_nil)))))) (by rfl))))) (pss_one (ps_ret pe_bl)) pss_nil))))) (pss_cons (ps_for PassesOwn.never rfl (pi_seq (pv 4)) (pg_name (i := 6) (sc_law_is).nd rfl (by first | exact Or.inl rfl | exact Or.inr rfl)) (pss_one (ps_if (pt_not (pt_tru (pe_cal c__law_is (hr.mono (by omega)) (pa_cons (pv 6) (pa_cons (pv 1) (pa_cons (pe_op op_addA (pv 2) pe_int) pa_nil)))))) (pss_one (ps_ret pe_bl)) pss_nil))) (pss_one (ps_ret pe_bl)))))))))), ?_⟩
  rw [t_law_is]
  try dsimp only [cxOf, Cx.nox, Cx.wish]
  have no : ∀ x ts, x ∉ words → isRule sz (n + 1) (.tup (.str x :: ts)) = false := fun x ts h => isRule_none sz n (kinds_none h)
  walk_at "rd"
  cases t with
  | tup ts =>
    obtain ⟨p, xs, rfl, hs, ha⟩ := ht.tupE
    have el : xs.length = ts.length := ha.len
    walk_at "rda"
    refine rd_ite (fun h1 => ?_) (fun h1 => ?_)
    · walk_at "rd"
      have e : isRule sz (n + 1) (.tup ts) = false := by
        match ts, (show ts.length < 2 by omega) with
        | [], _ => rfl
        | [t0], _ =>
          cases t0 with
          | str x =>
            cases e : kindsOf x with
            | none => exact isRule_none sz n e
            | some ks =>
              have := (kinds_len e).1
              exact isRule_len sz n e (by show 0 ≠ _; omega)
          | _ => rfl
      rw [e] at q
      exact q _ (Evl.Ex.refl _)
    walk_at "rd"
    refine rd_ite (fun h2 => by omega) (fun h2 => ?_)
    obtain ⟨t0, t1, us, rfl⟩ : ∃ t0 t1 us, ts = t0 :: t1 :: us := by
      match ts, (show ¬ ts.length < 2 by omega) with
      | [], h => exact absurd (show 0 < 2 by omega) h
      | [_], h => exact absurd (show 1 < 2 by omega) h
      | a :: b :: r, _ => exact ⟨a, b, r, rfl⟩
    obtain ⟨v0, xs1, rfl, hv0, hb⟩ := ha.consE
    obtain ⟨v1, xs, rfl, hv1, hc⟩ := hb.consE
    have lu : xs.length = us.length := hc.len
    walk_at "rda"
    cases t0 with
    | str x =>
      cases hv0
      walk_at "rda"
      refine rd_ite (fun e1 => ?_) (fun e1 => ?_)
      · subst e1
        walk_at "rda"
        refine rd_ite (fun l => ?_) (fun l => ?_)
        · obtain rfl : us = [] := List.length_eq_zero_iff.mp (by simp only [List.length_cons] at l; omega)
          rw [R_number] at q
          walk_at "rda"
          refine rd_sp1 ⟨t1, hv1, ?_⟩
          walk_at "rda"
          cases t1 with
          | int i =>
            cases hv1
            walk_at "rda"
            refine rd_ite (fun h1 => ?_) (fun h1 => ?_)
            · walk_at "rd"
              simpa [isNum, within, h1] using q _ (Evl.Ex.refl _)
            · simpa [isNum, within, h1] using q _ (Evl.Ex.refl _)
          | _ => walk_at "rd"; exact q _ (Evl.Ex.refl _)
        · rw [isRule_len sz n (ks := ["number"]) rfl (by simp only [List.length_cons] at l ⊢; simp only [List.length_nil]; omega)] at q
          exact q _ (Evl.Ex.refl _)
      walk_at "rda"
      refine rd_ite (fun e2 => ?_) (fun e2 => ?_)
      · subst e2
        walk_at "rda"
        refine rd_ite (fun l => ?_) (fun l => ?_)
        · obtain rfl : us = [] := List.length_eq_zero_iff.mp (by simp only [List.length_cons] at l; omega)
          rw [R_paper] at q
          walk_at "rda"
          exact rd_sp1 ⟨t1, hv1, q _ (Evl.Ex.refl _)⟩
        · rw [isRule_len sz n (ks := ["word"]) rfl (by simp only [List.length_cons] at l ⊢; simp only [List.length_nil]; omega)] at q
          exact q _ (Evl.Ex.refl _)
      walk_at "rda"
      rename_i l3 H3 _ E3 h3
      refine rd_inSs ["line", "earlier"] (.of h3) ?_
      walk_at "rda"
      refine rd_ite (fun e3 => ?_) (fun e3 => ?_)
      · obtain ⟨ek, e4⟩ : kindsOf x = some (["line"] : List Str) ∧ isRule sz (n + 1) (.tup [.str x, t1]) = isPlace t1 sz.l := by
          simp only [List.mem_cons, List.not_mem_nil, or_false] at e3
          rcases e3 with rfl | rfl
          · exact ⟨rfl, R_line ..⟩
          · exact ⟨rfl, R_earlier ..⟩
        walk_at "rda"
        refine rd_ite (fun l => ?_) (fun l => ?_)
        · obtain rfl : us = [] := List.length_eq_zero_iff.mp (by simp only [List.length_cons] at l; omega)
          rw [e4] at q
          walk_at "rda"
          refine rd_sp1 ⟨t1, by walk_at "tv", ?_⟩
          walk_at "rda"
          cases t1 with
          | int i =>
            cases hv1
            walk_at "rda"
            refine rd_ite (fun h1 => ?_) (fun h1 => ?_)
            · walk_at "rda"
              simpa [isPlace, within, h1, Int.le_sub_one_iff] using q _ E3
            · simpa [isPlace, within, h1] using q _ E3
          | _ => walk_at "rd"; exact q _ E3
        · rw [isRule_len sz n ek (by simp only [List.length_cons] at l ⊢; simp only [List.length_nil]; omega)] at q
          exact q _ E3
      walk_at "rda"
      rename_i r0 H4 E4 s4
      rw [cutV_tail] at s4
      have EE4 : Ex H H4 := E3.trans E4
      have hs4 : SqT K H4 p (.str x :: v1 :: xs) := sqt_ex hs EE4
      have hv14 : Tv K H4 v1 t1 := tv_ex hv1 EE4
      have hc4 : TvA K H4 xs us := tva_ex hc EE4
      have hd4 : SqT K H4 d _ := sqt_ex hd EE4
      refine rd_cut (fun σ H' => ∃ r ys us' y z, σ = [some (.ref p), some (.ref d), some (.int (9 - ((n + 1 : Nat) : Int))), some (.str x), some (.ref r), y, z] ∧ Ex H H' ∧ SqT K H' r ys ∧ TvA K H' ys us' ∧ isRule sz (n + 1) (.tup (.str x :: t1 :: us)) = us'.all (isRule sz n)) ?_ ?_
      · walk_at "rda"
        refine rd_ite (fun e5 => ?_) (fun e5 => ?_)
        · subst e5
          walk_at "rda"
          refine rd_iteN (fun l => ?_) (fun l => ?_)
          · walk_at "rda"
            rw [isRule_len sz n (ks := ["rule", "percent"]) rfl (by simp only [List.length_cons] at l ⊢; simp only [List.length_nil]; omega)] at q
            exact q _ EE4
          obtain ⟨t2, rfl⟩ := List.length_eq_one_iff.mp (show us.length = 1 by simp only [List.length_cons] at l; omega)
          obtain ⟨v2, xs, rfl, hv2, hc5⟩ := hc4.consE
          cases hc5.nilE
          rw [R_part] at q
          walk_at "rda"
          refine rd_sp1 ⟨t2, hv2, ?_⟩
          walk_at "rda"
          cases t2 with
          | int i =>
            cases hv2
            walk_at "rda"
            refine rd_ite (fun h1 => ?_) (fun h1 => ?_)
            · walk_at "rda"
              rw [show isPct (.int i) = false from by simp [isPct, within]; omega, Bool.and_false] at q
              exact q _ EE4
            walk_at "rda"
            refine rd_ite (fun h2 => ?_) (fun h2 => ?_)
            · walk_at "rda"
              rw [show isPct (.int i) = false from by simp [isPct, within]; omega, Bool.and_false] at q
              exact q _ EE4
            walk_at "rda"
            rename_i r5 H5 E5 s5
            refine ⟨_, _, [t1], _, _, rfl, EE4.trans E5, s5, .one (tv_ex hv14 E5), ?_⟩
            rw [R_part, show isPct (.int i) = true from by simp [isPct, within]; omega]
            simp
          | _ => (walk_at "rd"; rw [show isPct _ = false from rfl, Bool.and_false] at q; exact q _ EE4)
        walk_at "rda"
        rename_i l6 H6 _ E6 h6
        refine rd_inSs ["table", "choose"] (.of h6) ?_
        walk_at "rda"
        refine rd_ite (fun e6 => ?_) (fun e6 => ?_)
        · simp only [List.mem_cons, List.not_mem_nil, or_false] at e6
          rcases e6 with rfl | rfl
          · walk_at "rda"
            refine rd_iteN (fun l => ?_) (fun l => ?_)
            · walk_at "rda"
              rw [show (if decide (("table" : Str) = "choose") = true then (1 : Int) else 0) = 0 from rfl] at l
              rw [isRule_len sz n (ks := ["table", "rule"]) rfl (by simp only [List.length_cons] at l ⊢; simp only [List.length_nil]; omega)] at q
              exact q _ (by walk_at "exx")
            rw [show (if decide (("table" : Str) = "choose") = true then (1 : Int) else 0) = 0 from rfl] at l
            walk_at "rda"
            refine rd_sp1 ⟨t1, by walk_at "tv", ?_⟩
            walk_at "rda"
            obtain ⟨t2, rfl⟩ := List.length_eq_one_iff.mp (show us.length = 1 by simp only [List.length_cons] at l; omega)
            rw [R_table] at q
            cases t1 with
            | int i =>
              cases hv1
              walk_at "rda"
              refine rd_ite (fun h1 => ?_) (fun h1 => ?_)
              · walk_at "rda"
                refine rd_iteN (fun h2 => ?_) (fun h2 => ?_)
                · walk_at "rda"
                  rw [show isPlace (.int i) sz.tb = false from by simp [isPlace, within]; omega, Bool.false_and] at q
                  exact q _ (by walk_at "exx")
                walk_at "rda"
                rename_i r9 H9 E9 s9
                rw [show ∀ ys : List V, cutV ys (some 2) none = ys.drop 2 from fun ys => cutV_from ys 2] at s9
                refine ⟨_, _, [t2], _, _, rfl, by walk_at "exx", s9, tva_ex hc4 (by walk_at "exx"), ?_⟩
                rw [R_table, show isPlace (.int i) sz.tb = true from by simp [isPlace, within]; omega]
                simp
              · walk_at "rda"
                rw [show isPlace (.int i) sz.tb = false from by simp [isPlace, within]; omega, Bool.false_and] at q
                exact q _ (by walk_at "exx")
            | _ => (walk_at "rda"; rw [show isPlace _ sz.tb = false from rfl, Bool.false_and] at q; exact q _ (by walk_at "exx"))
          · walk_at "rda"
            refine rd_iteN (fun l => ?_) (fun l => ?_)
            · walk_at "rda"
              rw [show (if decide (("choose" : Str) = "choose") = true then (1 : Int) else 0) = 1 from rfl] at l
              rw [isRule_len sz n (ks := ["choice", "rule", "rule"]) rfl (by simp only [List.length_cons] at l ⊢; simp only [List.length_nil]; omega)] at q
              exact q _ (by walk_at "exx")
            rw [show (if decide (("choose" : Str) = "choose") = true then (1 : Int) else 0) = 1 from rfl] at l
            walk_at "rda"
            refine rd_sp1 ⟨t1, by walk_at "tv", ?_⟩
            walk_at "rda"
            obtain ⟨t2, t3, rfl⟩ : ∃ t2 t3, us = [t2, t3] := by
              match us, (show us.length = 2 by simp only [List.length_cons] at l; omega) with
              | [t2, t3], _ => exact ⟨t2, t3, rfl⟩
            rw [R_choose] at q
            cases t1 with
            | int i =>
              cases hv1
              walk_at "rda"
              refine rd_ite (fun h1 => ?_) (fun h1 => ?_)
              · walk_at "rda"
                refine rd_iteN (fun h2 => ?_) (fun h2 => ?_)
                · walk_at "rda"
                  rw [show isPlace (.int i) sz.ch = false from by simp [isPlace, within]; omega, Bool.false_and] at q
                  exact q _ (by walk_at "exx")
                walk_at "rda"
                rename_i r9 H9 E9 s9
                rw [show ∀ ys : List V, cutV ys (some 2) none = ys.drop 2 from fun ys => cutV_from ys 2] at s9
                refine ⟨_, _, [t2, t3], _, _, rfl, by walk_at "exx", s9, tva_ex hc4 (by walk_at "exx"), ?_⟩
                rw [R_choose, show isPlace (.int i) sz.ch = true from by simp [isPlace, within]; omega]
                simp
              · walk_at "rda"
                rw [show isPlace (.int i) sz.ch = false from by simp [isPlace, within]; omega, Bool.false_and] at q
                exact q _ (by walk_at "exx")
            | _ => (walk_at "rda"; rw [show isPlace _ sz.ch = false from rfl, Bool.false_and] at q; exact q _ (by walk_at "exx"))
        · walk_at "rda"
          have nw : x ≠ "where" → x ∉ (["add", "take", "least", "most"] : List Str) → x ∉ words := by
            simp only [List.mem_cons, List.not_mem_nil, or_false, words] at e3 e6 ⊢
            intro a b c
            rcases c with c | c | c | c | c | c | c | c | c | c | c | c
            · exact e1 c
            · exact e2 c
            · exact e3 (.inl c)
            · exact e3 (.inr c)
            · exact b (.inl c)
            · exact b (.inr (.inl c))
            · exact b (.inr (.inr (.inl c)))
            · exact b (.inr (.inr (.inr c)))
            · exact e5 c
            · exact e6 (.inl c)
            · exact a c
            · exact e6 (.inr c)
          by_cases ew : x = "where"
          · subst ew
            rw [show (if decide (("where" : Str) = "where") = true then (1 : Int) else 0) = 1 from rfl]
            refine rd_iteN (fun l => ?_) (fun l => ?_)
            · walk_at "rda"
              rw [isRule_len sz n (ks := ["rule", "rule", "rule"]) rfl (by simp only [List.length_cons] at l ⊢; simp only [List.length_nil]; omega)] at q
              exact q _ (by walk_at "exx")
            walk_at "rda"
            rename_i l7 H7 _ E7 h7
            refine rd_outSs ["add", "take", "least", "most", "where"] (.of h7) ?_
            walk_at "rda"
            have EE7 : Ex H4 H7 := E6.trans E7
            obtain ⟨t2, t3, rfl⟩ : ∃ t2 t3, us = [t2, t3] := by
              match us, (show us.length = 2 by simp only [List.length_cons] at l; omega) with
              | [t2, t3], _ => exact ⟨t2, t3, rfl⟩
            exact ⟨_, _, [t1, t2, t3], _, _, rfl, EE4.trans EE7, sqt_ex s4 EE7, tva_ex (.cons hv14 hc4) EE7, R_where ..⟩
          · rw [show (if decide (x = "where") = true then (1 : Int) else 0) = 0 from by rw [decide_eq_false ew]; rfl]
            refine rd_iteN (fun l => ?_) (fun l => ?_)
            · walk_at "rda"
              by_cases e2 : x ∈ (["add", "take", "least", "most"] : List Str)
              · rw [isRule_len sz n (R_two sz n t1 t1 e2).1 (by simp only [List.length_cons] at l ⊢; simp only [List.length_nil]; omega)] at q
                exact q _ (by walk_at "exx")
              · rw [no _ _ (nw ew e2)] at q
                exact q _ (by walk_at "exx")
            walk_at "rda"
            rename_i l7 H7 _ E7 h7
            refine rd_outSs ["add", "take", "least", "most", "where"] (.of h7) ?_
            walk_at "rda"
            have EE7 : Ex H4 H7 := E6.trans E7
            refine rd_iteN (fun e2 => ?_) (fun e2 => ?_)
            · walk_at "rda"
              rw [no _ _ (nw ew (fun z => e2 (by simp only [List.mem_cons, List.not_mem_nil, or_false] at z ⊢; rcases z with z | z | z | z <;> simp [z])))] at q
              exact q _ (by walk_at "exx")
            walk_at "rda"
            obtain ⟨t2, rfl⟩ := List.length_eq_one_iff.mp (show us.length = 1 by simp only [List.length_cons] at l; omega)
            have e8 : x ∈ (["add", "take", "least", "most"] : List Str) := by
              simp only [List.mem_cons, List.not_mem_nil, or_false] at e2 ⊢
              rcases e2 with z | z | z | z | z
              · exact .inl z
              · exact .inr (.inl z)
              · exact .inr (.inr (.inl z))
              · exact .inr (.inr (.inr z))
              · exact absurd z ew
            exact ⟨_, _, [t1, t2], _, _, rfl, EE4.trans EE7, sqt_ex s4 EE7, tva_ex (.cons hv14 hc4) EE7, (R_two sz n t1 t2 e8).2⟩
      · rintro σ H5 ⟨r, ys, us', y, z, rfl, E5, s5, a5, e5⟩
        walk_at "rda"
        rw [e5] at q
        have l5 : ys.length = us'.length := a5.len
        refine forW_T ys (fun i σ H2 => (∃ y z, σ = [some (.ref p), some (.ref d), some (.int (9 - ((n + 1 : Nat) : Int))), some (.str x), some (.ref r), y, z]) ∧ Ex H5 H2 ∧ (us'.take i).all (isRule sz n) = true) ?_ ?_ ?_ ?_
        · exact ⟨⟨_, _, rfl⟩, Evl.Ex.refl _, rfl⟩
        · rintro i σ H2 hi ⟨_, e2, _⟩
          exact sqt_ex s5 e2
        · rintro i v σ H2 hv ⟨⟨y, z, rfl⟩, e2, hall⟩
          obtain ⟨tv, htv, vv⟩ := (tva_ex a5 e2).getV hv
          walk_at "rda"
          refine rd_sp3 ⟨tv, sz, d, vv, rfl, sqt_ex hd (E5.trans e2), by congr 1; omega, by omega, fun H6 e6 => ?_⟩
          walk_at "rda"
          cases er : isRule sz n tv with
          | true =>
            walk_at "rda"
            refine ⟨⟨_, _, rfl⟩, e2.trans e6, ?_⟩
            rw [List.take_add_one, htv, List.all_append, hall]
            simp [er]
          | false =>
            walk_at "rda"
            rw [show us'.all (isRule sz n) = false from ?_] at q
            · exact q _ ((E5.trans e2).trans e6)
            · rw [Bool.eq_false_iff]
              intro z
              have := List.all_eq_true.mp z tv (List.mem_of_getElem? htv)
              rw [er] at this; cases this
        · rintro σ H2 ⟨⟨y, z, rfl⟩, e2, hall⟩
          walk_at "rda"
          rw [l5, List.take_length] at hall
          rw [hall] at q
          exact q _ (E5.trans e2)
    | _ => (walk_at "rda"; exact q _ (Evl.Ex.refl _))
  | _ => (walk_at "rd"; exact q _ (Evl.Ex.refl _))
theorem k_lawis0 (T : Tx K w mg) (c__law_whole : Cal P w K mg base "_law_whole" 1 p_law_whole (spWhole K)) (c__law_is_word : Cal P w K mg base "_law_is_word" 1 p_law_is_word (spWord K)) : Cal P w K mg base "_law_is" 2 p_law_is (spLawIs K 0) := by
  have c__law_is : Cal P w K mg base "_law_is" 1 p_law_is spNo := cal_no T.F__law_is sc_law_is b_law_is
  refine cal3 T.F__law_is sc_law_is b_law_is rfl fun g cdv A outer s H a b c Q E hr h => ?_
  obtain ⟨t, sz, d, ht, rfl, hd, rfl, hn, q⟩ := h
  refine ⟨_, (pss_cons (ps_if (PW.pt (pw_or (pt_not (pt_tru (pe_callB call_isi (by rfl) T.m_isinstance (by decide +kernel) (pa_cons (pv 0) (pa_cons (pe_ty (n := "tuple") T.m_tuple (by decide +kernel)) pa_nil))))) (pw_or (pt_cmpR op_lt (pe_callB cr_lenA (by rfl) T.m_len (by decide +kernel) (pa_cons (pv 0) pa_nil)) pe_int (nomark _)) (pw_or (pt_cmpR op_gt (pv 2) pe_int (nomark _)) (pw_or1 (pt_not (pt_tru (pe_callB call_isi (by rfl) T.m_isinstance (by decide +kernel) (pa_cons (pe_ix ix_seq (pv 0) pe_int (fun _ _ => rfl)) (pa_cons (pe_ty (n := "str") T.m_str (by decide +kernel)) pa_nil)))))))))) (pss_one (ps_ret pe_bl)) pss_nil) (pss_cons (ps_set (i := 3) (sc_law_is).nd rfl (by first | exact Or.inl rfl | exact Or.inr rfl) (pe_ix ix_seq (pv 0) pe_int (fun _ _ => rfl))) (pss_cons (ps_if (pt_cmpR (op_eqA hr) (pv 3) pe_str (nomark _)) (pss_one (ps_ret (pe_and (pe_cmpR (op_eqA hr) (pe_callB cr_lenA (by rfl) T.m_len (by decide +kernel) (pa_cons (pv 0) pa_nil)) pe_int (nomark _)) (pe_and (pe_cal c__law_whole (hr.mono (by omega)) (pa_cons (pe_ix ix_seq (pv 0) pe_int (fun _ _ => rfl)) pa_nil)) (pe_one (pe_chain op_le op_le (pe_un un_neg (pe_op op_pow pe_int pe_int)) (pe_ix ix_seq (pv 0) pe_int (fun _ _ => rfl)) (pe_op op_pow pe_int pe_int))))))) pss_nil) (pss_cons (ps_if (pt_cmpR (op_eqA hr) (pv 3) pe_str (nomark _)) (pss_one (ps_ret (pe_and (pe_cmpR (op_eqA hr) (pe_callB cr_lenA (by rfl) T.m_len (by decide +kernel) (pa_cons (pv 0) pa_nil)) pe_int (nomark _)) (pe_one (pe_cal c__law_is_word (hr.mono (by omega)) (pa_cons (pe_ix ix_seq (pv 0) pe_int (fun _ _ => rfl)) pa_nil)))))) pss_nil) (pss_cons (ps_if (pt_cmpR op_in_seq (pv 3) (pe_lst (pa_cons pe_str (pa_cons pe_str pa_nil))) (by rfl)) (pss_one (ps_ret (pe_and (pe_cmpR (op_eqA hr) (pe_callB cr_lenA (by rfl) T.m_len (by decide +kernel) (pa_cons (pv 0) pa_nil)) pe_int (nomark _)) (pe_and (pe_cal c__law_whole (hr.mono (by omega)) (pa_cons (pe_ix ix_seq (pv 0) pe_int (fun _ _ => rfl)) pa_nil)) (pe_one (pe_chain op_le op_lt pe_int (pe_ix ix_seq (pv 0) pe_int (fun _ _ => rfl)) (pe_ix ix_seq (pv 1) pe_int (fun _ _ => rfl)))))))) pss_nil) (pss_cons (ps_set (i := 4) (sc_law_is).nd rfl (by first | exact Or.inl rfl | exact Or.inr rfl) (pe_slice sl_any (pv 0) (po_some pe_int) po_none)) (Evl.pss_cut (ps_if (pt_cmpR (op_eqA hr) (pv 3) pe_str (nomark _)) (pss_cons (ps_if (PW.pt (pw_or (pt_cmpR (op_neA hr) (pe_callB cr_lenA (by rfl) T.m_len (by decide +kernel) (pa_cons (pv 0) pa_nil)) pe_int (nomark _)) (pw_or (pt_not (pt_tru (pe_cal c__law_whole (hr.mono (by omega)) (pa_cons (pe_ix ix_seq (pv 0) pe_int (fun _ _ => rfl)) pa_nil)))) (pw_or (pt_cmpR op_lt (pe_ix ix_seq (pv 0) pe_int (fun _ _ => rfl)) pe_int (nomark _)) (pw_or1 (pt_cmpR op_gt (pe_ix ix_seq (pv 0) pe_int (fun _ _ => rfl)) pe_int (nomark _))))))) (pss_one (ps_ret pe_bl)) pss_nil) (pss_one (ps_set (i := 4) (sc_law_is).nd rfl (by first | exact Or.inl rfl | exact Or.inr rfl) (pe_slice sl_any (pv 0) (po_some pe_int) (po_some pe_int))))) (pss_one (ps_if (pt_cmpR op_in_seq (pv 3) (pe_lst (pa_cons pe_str (pa_cons pe_str pa_nil))) (by rfl)) (pss_cons (ps_set (i := 5) (sc_law_is).nd rfl (by first | exact Or.inl rfl | exact Or.inr rfl) (pe_ix ix_seq (pe_lst (pa_cons (pe_ix ix_seq (pv 1) pe_int (fun _ _ => rfl)) (pa_cons (pe_ix ix_seq (pv 1) pe_int (fun _ _ => rfl)) pa_nil))) (pe_callTy cr_int1 (by rfl) T.m_int (by decide +kernel) (pa_cons (pe_cmpR (op_eqA hr) (pv 3) pe_str (nomark _)) pa_nil)) (fun _ _ => rfl))) (pss_cons (ps_if (PW.pt (pw_or (pt_cmpR (op_neA hr) (pe_callB cr_lenA (by rfl) T.m_len (by decide +kernel) (pa_cons (pv 0) pa_nil)) (pe_op op_addA pe_int (pe_callTy cr_int1 (by rfl) T.m_int (by decide +kernel) (pa_cons (pe_cmpR (op_eqA hr) (pv 3) pe_str (nomark _)) pa_nil))) (nomark _)) (pw_or (pt_not (pt_tru (pe_cal c__law_whole (hr.mono (by omega)) (pa_cons (pe_ix ix_seq (pv 0) pe_int (fun _ _ => rfl)) pa_nil)))) (pw_or1 (pt_not (pt_chain op_le op_lt pe_int (pe_ix ix_seq (pv 0) pe_int (fun _ _ => rfl)) (pv 5))))))) (pss_one (ps_ret pe_bl)) pss_nil) (pss_one (ps_set (i := 4) (sc_law_is).nd rfl (by first | exact Or.inl rfl | exact Or.inr rfl) (pe_slice sl_any (pv 0) (po_some pe_int) po_none))))) (pss_one (ps_if (PW.pt (pw_or (pt_cmpR (op_neA hr) (pe_callB cr_lenA (by rfl) T.m_len (by decide +kernel) (pa_cons (pv 0) pa_nil)) (pe_op op_addA pe_int (pe_callTy cr_int1 (by rfl) T.m_int (by decide +kernel) (pa_cons (pe_cmpR (op_eqA hr) (pv 3) pe_str (nomark _)) pa_nil))) (nomark _)) (pw_or1 (pt_cmpR op_notIn_seq (pv 3) (pe_lst (pa_cons pe_str (pa_cons pe_str (pa_cons pe_str (pa_cons pe_str (pa_cons pe_str pa_nil)))))) (by rfl))))) (pss_one (ps_ret pe_bl)) pss_nil))))) (pss_cons (ps_for PassesOwn.never rfl (pi_seq (pv 4)) (pg_name (i := 6) (sc_law_is).nd rfl (by first | exact Or.inl rfl | exact Or.inr rfl)) (pss_one (ps_if (pt_not (pt_tru (pe_cal c__law_is (hr.mono (by omega)) (pa_cons (pv 6) (pa_cons (pv 1) (pa_cons (pe_op op_addA (pv 2) pe_int) pa_nil)))))) (pss_one (ps_ret pe_bl)) pss_nil))) (pss_one (ps_ret pe_bl)))))))))), ?_⟩
  rw [t_law_is]
  try dsimp only [cxOf, Cx.nox, Cx.wish]
  walk_at "rd"
  cases t with
  | tup ts =>
    obtain ⟨p, xs, rfl, hs, ha⟩ := ht.tupE
    walk_at "rda"
    refine rd_ite (fun h1 => ?_) (fun h1 => ?_)
    · walk_at "rd"
      exact q _ (Evl.Ex.refl _)
    · walk_at "rd"
      first
      | exact q _ (Evl.Ex.refl _)
      | (refine rd_ite (fun h2 => ?_) (fun h2 => by omega)
         walk_at "rd"
         exact q _ (Evl.Ex.refl _))
  | _ => (walk_at "rd"; exact q _ (Evl.Ex.refl _))
theorem k_lawisn (T : Tx K w mg) (c__law_whole : Cal P w K mg base "_law_whole" 1 p_law_whole (spWhole K)) (c__law_is_word : Cal P w K mg base "_law_is_word" 1 p_law_is_word (spWord K)) : ∀ n : Nat, Cal P w K mg base "_law_is" (2 + n) p_law_is (spLawIs K n)
  | 0 => k_lawis0 T c__law_whole c__law_is_word
  | n + 1 => k_lawis T c__law_whole c__law_is_word (k_lawisn T c__law_whole c__law_is_word n) (show 1 ≤ 2 + n by omega)
end
end K2
open PySem PySem.Spec PyProof.Rows L2 Qa


namespace K2
section
variable {P : Program} {w : World} {K : PySem.W.Frag} {mg : Str → Option Value} {base : Heap} {H : Hp} {Q : VK} {E : XK}
/-! drawn rules -/
theorem rd_ixSm {z : Str} {i : Int} (h : z.length ≤ 1000) (h0 : 0 ≤ i) (h1 : i < z.length) (q : ∀ y : Str, y.length = 1 → Q (.str y) H) : rIx K (.str z) (.int i) H Q := by
  have hk : i.toNat < z.cps.toList.length := by
    show i.toNat < z.length
    omega
  have e : ((i.toNat : Nat) : Int) = i := by omega
  have e1 : atI z.cps.toList i = some z.cps.toList[i.toNat] := by
    have := atI_nat (List.getElem?_eq_getElem hk)
    rw [e] at this
    exact this
  exact rd_ixS h e1 (q _ rfl)
theorem rd_slSm {z : Str} {lo hi : Option Int} (h : z.length ≤ 1000) (q : ∀ y : Str, y.length ≤ z.length → Q (.str y) H) : rSlX K (.str z) lo hi H Q := rd_slS h (q _ (cutS_length z lo hi))
theorem rd_addSm {x y : Str} (h : x.length + y.length ≤ 1000) (q : ∀ z : Str, z.length = x.length + y.length → Q (.str z) H) : rAddA K (.str x) (.str y) H Q := rd_addS h (q _ (by show (x.cps ++ y.cps).size = _; rw [Array.size_append]; rfl))
theorem cutV_map {α : Type} (f : α → V) (xs : List α) (lo hi : Option Int) : ∃ k m, cutV (xs.map f) lo hi = ((xs.drop k).take m).map f := ⟨_, _, by unfold cutV; rw [List.map_take, List.map_drop]⟩
structure Words (K : PySem.W.Frag) (H : Hp) (p : Addr) (ws : List Str) : Prop where
  at_ : H p = some (.lst (ws.map V.str))
  one : 1 ≤ ws.length
  few : ws.length ≤ 100
  short : ∀ z ∈ ws, z.length ≤ 100
def spWords (K : PySem.W.Frag) : Sp := sp1 fun a H Q => ∃ l, a = .ref l ∧ (∃ s, H l = some (.lst [.int s])) ∧ ∀ p ws H', Words K H' p ws → p ≠ l → St1 l H H' → Q (.ref p) H'
theorem k__law_words (T : Tx K w mg) (c__law_next : Cal P w K mg base "_law_next" 1 p_law_next (spNext K)) : Cal P w K mg base "_law_words" 2 p_law_words (spWords K) := by
  refine cal1 T.F__law_words sc_law_words b_law_words rfl fun g cdv A outer s H a Q E hr h => ?_
  obtain ⟨l, rfl, hl, q⟩ := h
  refine ⟨_, (pss_cons (ps_set (i := 1) (sc_law_words).nd rfl (by first | exact Or.inl rfl | exact Or.inr rfl) pe_str) (pss_cons (ps_set (i := 2) (sc_law_words).nd rfl (by first | exact Or.inl rfl | exact Or.inr rfl) pe_str) (pss_cons (ps_for PassesOwn.never rfl (pi_range1 (by rfl) T.m_range (pa_cons pe_int pa_nil)) (pg_name (i := 3) (sc_law_words).nd rfl (by first | exact Or.inl rfl | exact Or.inr rfl)) (pss_one (ps_set (i := 2) (sc_law_words).nd rfl (by first | exact Or.inl rfl | exact Or.inr rfl) (pe_op op_addA (pv 2) (pe_ix ix_seq (pv 1) (pe_cal c__law_next (hr.mono (by omega)) (pa_cons (pv 0) (pa_cons pe_int pa_nil))) (fun _ _ => rfl)))))) (pss_cons (ps_set (i := 4) (sc_law_words).nd rfl (by first | exact Or.inl rfl | exact Or.inr rfl) (pe_lst (pa_cons (pe_slice sl_any (pv 2) po_none (po_some (pe_op op_addA pe_int (pe_cal c__law_next (hr.mono (by omega)) (pa_cons (pv 0) (pa_cons pe_int pa_nil)))))) (pa_cons (pv 2) pa_nil)))) (pss_cons (ps_for PassesOwn.never rfl (pi_range1 (by rfl) T.m_range (pa_cons pe_int pa_nil)) (pg_name (i := 3) (sc_law_words).nd rfl (by first | exact Or.inl rfl | exact Or.inr rfl)) (pss_cons (ps_set (i := 5) (sc_law_words).nd rfl (by first | exact Or.inl rfl | exact Or.inr rfl) (pe_cal c__law_next (hr.mono (by omega)) (pa_cons (pv 0) (pa_cons pe_int pa_nil)))) (pss_one (ps_expr (pe_bm PySem.F.plainAttrs_list PySem.F.slot_list_append PySem.F.type_list_append mt_append (pv 4) (pa_cons (pe_op op_addA (pe_op op_addA (pe_slice sl_any (pv 2) po_none (po_some (pv 5))) (pe_ix ix_seq (pv 1) (pe_cal c__law_next (hr.mono (by omega)) (pa_cons (pv 0) (pa_cons pe_int pa_nil))) (fun _ _ => rfl))) (pe_slice sl_any (pv 2) (po_some (pe_op op_addA (pv 5) pe_int)) (po_some (pe_op op_addA (pe_op op_addA pe_int (pv 5)) (pe_cal c__law_next (hr.mono (by omega)) (pa_cons (pv 0) (pa_cons pe_int pa_nil))))))) pa_nil)))))) (pss_one (ps_ret (pe_op op_addA (pv 4) (pe_slice sl_any (pe_lst (pa_cons pe_str (pa_cons pe_str (pa_cons pe_str pa_nil)))) po_none (po_some (pe_cal c__law_next (hr.mono (by omega)) (pa_cons (pv 0) (pa_cons pe_int pa_nil))))))))))))), ?_⟩
  rw [t_law_words]
  try dsimp only [cxOf, Cx.nox, Cx.wish]
  walk_at "rd"
  refine forW_R (fun i σ H' => ∃ b y, σ = [some (.ref l), some (.str letters), some (.str b), y, none, none] ∧ b.length = i ∧ St1 l H H') ?_ ?_ ?_
  · exact ⟨_, _, rfl, rfl, .refl hl⟩
  · rintro i σ H1 hi ⟨b, y, rfl, hb, S1⟩
    walk_at "rd"
    refine nx S1.st (by decide) fun r2 H2 a2 b2 S2 => ?_
    walk_at "rd"
    refine rd_ixSm (by decide) a2 (by show r2 < (26 : Int); exact b2) fun c hc => ?_
    walk_at "rd"
    have hi8 : i < 8 := hi
    refine rd_addSm (by omega) fun z hz => ?_
    walk_at "rd"
    exact ⟨_, _, rfl, by omega, S1.trans S2⟩
  rintro σ H1 ⟨b, y, rfl, hb, S1⟩
  have hb8 : b.length = 8 := hb
  walk_at "rd"
  refine nx S1.st (by decide) fun r2 H2 a2 b2 S2 => ?_
  walk_at "rd"
  refine rd_slSm (by omega) fun b2 hb2 => ?_
  walk_at "rd"
  refine new_lst fun o H3 ho E3 h3 => ?_
  walk_at "rd"
  have S3 : St1 l H H3 := (S1.trans S2).trans (.ex S2.st E3)
  have hne : o ≠ l := ne_st S2.st ho
  have hoH : H o = none := (S1.trans S2).free ho
  refine forW_R (fun i σ H' => ∃ (ws : List Str) (y z : Option V), σ = [some (.ref l), some (.str letters), some (.str b), y, some (.ref o), z] ∧ H' o = some (.lst (ws.map V.str)) ∧ ws.length = 2 + i ∧ (∀ t ∈ ws, t.length ≤ 100) ∧ St1 l H H') ?_ ?_ ?_
  · exact ⟨[b2, b], _, _, rfl, h3, rfl, by
      intro z hz
      simp only [List.mem_cons, List.not_mem_nil, or_false] at hz
      rcases hz with rfl | rfl <;> omega, S3⟩
  · rintro i σ H4 hi ⟨ws, y, z, rfl, h4, hw, hs, S4⟩
    have hi3 : i < 3 := hi
    walk_at "rd"
    refine nx S4.st (by decide) fun r5 H5 a5 b5 S5 => ?_
    walk_at "rd"
    refine rd_slSm (by omega) fun u1 hu1 => ?_
    walk_at "rd"
    refine nx S5.st (by decide) fun r6 H6 a6 b6 S6 => ?_
    walk_at "rd"
    refine rd_ixSm (by decide) a6 (by show r6 < (26 : Int); exact b6) fun c hc => ?_
    walk_at "rd"
    refine rd_addSm (by omega) fun u2 hu2 => ?_
    walk_at "rd"
    refine nx S6.st (by decide) fun r7 H7 a7 b7 S7 => ?_
    walk_at "rd"
    refine rd_slSm (by omega) fun u3 hu3 => ?_
    walk_at "rd"
    refine rd_addSm (by omega) fun u4 hu4 => ?_
    walk_at "rd"
    have S57 : St1 l H4 H7 := (S5.trans S6).trans S7
    have h7 : H7 o = some (.lst (ws.map V.str)) := lst_st h4 S57 hne
    refine rd_append h7 (by rw [List.length_map]; omega) ?_
    walk_at "rd"
    refine ⟨ws ++ [u4], _, _, rfl, by rw [upd_same, List.map_append]; rfl, by rw [List.length_append, hw]; rfl, ?_, (S4.trans S57).upd hoH h7 hne⟩
    intro z hz
    rcases List.mem_append.mp hz with hz | hz
    · exact hs z hz
    · cases List.mem_singleton.mp hz
      omega
  rintro σ H4 ⟨ws, y, z, rfl, h4, hw, hs, S4⟩
  have hw5 : ws.length = 5 := hw
  walk_at "rd"
  refine new_lst fun m H5 hm E5 h5 => ?_
  walk_at "rd"
  refine nx (by walk_at "sta") (by decide) fun r6 H6 a6 b6 S6 => ?_
  walk_at "rd"
  have S46 : St1 l H4 H6 := (St1.ex S4.st E5).trans S6
  refine rd_slL (.of (lst_st h5 S6 (ne_st S4.st hm))) fun m7 H7 hm7 E7 h7 => ?_
  obtain ⟨k, j, ek⟩ := cutV_map V.str (["line", "paper", "add"] : List Str) none (some r6)
  have ek' : cutV [V.str "line", V.str "paper", V.str "add"] none (some r6) = _ := ek
  rw [ek'] at h7
  have h47 : H7 o = some (.lst (ws.map V.str)) := lst_ex (lst_st h4 S46 hne) E7
  have lk : ((List.drop k (["line", "paper", "add"] : List Str)).take j).length ≤ 3 := by
    rw [List.length_take, List.length_drop]
    show min j (3 - k) ≤ 3
    omega
  refine rd_addL h47 h7 (by rw [List.length_map, List.length_map]; omega) fun p8 H8 hp8 E8 h8 => ?_
  have S8 : St1 l H H8 := (S4.trans S46).trans (.ex S46.st (E7.trans E8))
  refine q p8 (ws ++ (List.drop k (["line", "paper", "add"] : List Str)).take j) H8 ⟨by rw [h8, List.map_append], by rw [List.length_append]; omega, by rw [List.length_append]; omega, ?_⟩ ?_ S8
  · intro z hz
    rcases List.mem_append.mp hz with hz | hz
    · exact hs z hz
    · have h9 := List.mem_of_mem_drop (List.mem_of_mem_take hz)
      simp only [List.mem_cons, List.not_mem_nil, or_false] at h9
      rcases h9 with rfl | rfl | rfl <;> decide
  · exact ne_st (sta_ex S46.st E7) hp8
end
end K2
open PySem PySem.Spec PyProof.Rows L2 Qa


namespace K2
section
variable {P : Program} {w : World} {K : PySem.W.Frag} {mg : Str → Option Value} {base : Heap} {H : Hp} {Q : VK} {E : XK}
/-- a tuple of two to four, its tuples again so, so deep at most -/
def shp : Nat → T → Prop
  | 0, _ => False
  | n + 1, t => ∃ ts, t = .tup ts ∧ 2 ≤ ts.length ∧ ts.length ≤ 4 ∧ ∀ u ∈ ts, isTup u = true → shp n u
theorem shp_mono : ∀ {m n : Nat} {t : T}, shp m t → m ≤ n → shp n t
  | 0, _, _, h, _ => h.elim
  | m + 1, 0, _, _, h => by omega
  | m + 1, n + 1, _, ⟨ts, e, a, b, c⟩, h => ⟨ts, e, a, b, fun u hu ht => shp_mono (c u hu ht) (by omega)⟩
theorem shp_flat {x : Str} {u : T} (h : isTup u = false) : shp 1 (.tup [.str x, u]) := by
  refine ⟨_, rfl, by show 2 ≤ 2; decide, by show 2 ≤ 4; decide, fun t ht hu => ?_⟩
  simp only [List.mem_cons, List.not_mem_nil, or_false] at ht
  rcases ht with rfl | rfl
  · cases hu
  · rw [h] at hu; cases hu
structure Dr (K : PySem.W.Frag) (H : Hp) (l sn dz wd : Addr) (sz : Sz) : Prop where
  st : ∃ s, H l = some (.lst [.int s])
  seen : ∃ ns : List Int, H sn = some (.lst (ns.map V.int)) ∧ ns.length ≤ 100
  seenN : sn ≠ l
  sizes : SqT K H dz [.int sz.l, .int sz.tb, .int sz.ch]
  words : ∃ ws, Words K H wd ws
  wordsN : wd ≠ l
  pos : 0 < sz.l
theorem Dr.mv {K : PySem.W.Frag} {H H' : Hp} {l seen dz wd : Addr} {sz : Sz} (e : Dr K H l seen dz wd sz) (S : St1 l H H') : Dr K H' l seen dz wd sz := by
  obtain ⟨ns, h1, h2⟩ := e.seen
  obtain ⟨ws, W⟩ := e.words
  exact ⟨S.st, ⟨ns, lst_st h1 S e.seenN, h2⟩, e.seenN, sqt_st e.sizes S, ⟨ws, lst_st W.at_ S e.wordsN, W.one, W.few, W.short⟩, e.wordsN, e.pos⟩
def spPlain (K : PySem.W.Frag) : Sp := sp4 fun a b c d H Q => ∃ l seen dz wd sz, a = .ref l ∧ b = .ref seen ∧ c = .ref dz ∧ d = .ref wd ∧ Dr K H l seen dz wd sz ∧ ∀ v t H', Tv K H' v t → shp 1 t → St1 l H H' → Q v H'
theorem k__law_plain (T : Tx K w mg) (c__law_next : Cal P w K mg base "_law_next" 1 p_law_next (spNext K)) (c__law_number : Cal P w K mg base "_law_number" 2 p_law_number (spNumb K)) : Cal P w K mg base "_law_plain" 3 p_law_plain (spPlain K) := by
  refine cal4 T.F__law_plain sc_law_plain b_law_plain rfl fun g cdv A outer s H a b c d Q E hr h => ?_
  obtain ⟨l, seen, dz, wd, sz, rfl, rfl, rfl, rfl, En, q⟩ := h
  refine ⟨_, (pss_cons (ps_set (i := 4) (sc_law_plain).nd rfl (by first | exact Or.inl rfl | exact Or.inr rfl) (pe_cal c__law_next (hr.mono (by omega)) (pa_cons (pv 0) (pa_cons pe_int pa_nil)))) (pss_cons (ps_if (pt_cmpR (op_eqA hr) (pv 4) pe_int (nomark _)) (pss_one (ps_ret (pe_tup (pa_cons pe_str (pa_cons (pe_cal c__law_number (hr.mono (by omega)) (pa_cons (pv 0) pa_nil)) pa_nil))))) pss_nil) (pss_cons (ps_if (PW.pt (pw_and (pt_cmpR op_lt (pv 4) pe_int (nomark _)) (pw_and1 (pt_cmpR op_gt (pe_callB cr_lenA (by rfl) T.m_len (by decide +kernel) (pa_cons (pv 1) pa_nil)) pe_int (nomark _))))) (pss_one (ps_ret (pe_tup (pa_cons pe_str (pa_cons (pe_ix ix_seq (pv 1) (pe_cal c__law_next (hr.mono (by omega)) (pa_cons (pv 0) (pa_cons (pe_callB cr_lenA (by rfl) T.m_len (by decide +kernel) (pa_cons (pv 1) pa_nil)) pa_nil))) (fun _ _ => rfl)) pa_nil))))) pss_nil) (pss_cons (ps_if (pt_cmpR (op_eqA hr) (pv 4) pe_int (nomark _)) (pss_one (ps_ret (pe_tup (pa_cons pe_str (pa_cons (pe_cal c__law_next (hr.mono (by omega)) (pa_cons (pv 0) (pa_cons (pe_ix ix_seq (pv 2) pe_int (fun _ _ => rfl)) pa_nil))) pa_nil))))) pss_nil) (pss_one (ps_ret (pe_tup (pa_cons pe_str (pa_cons (pe_ix ix_seq (pv 3) (pe_cal c__law_next (hr.mono (by omega)) (pa_cons (pv 0) (pa_cons (pe_callB cr_lenA (by rfl) T.m_len (by decide +kernel) (pa_cons (pv 3) pa_nil)) pa_nil))) (fun _ _ => rfl)) pa_nil))))))))), ?_⟩
  rw [t_law_plain]
  try dsimp only [cxOf, Cx.nox, Cx.wish]
  walk_at "rd"
  refine nx En.st (by decide) fun r1 H1 a1 b1 S1 => ?_
  have En1 := En.mv S1
  obtain ⟨ns, hn, ln⟩ := En1.seen
  obtain ⟨ws, W⟩ := En1.words
  walk_at "rd"
  refine rd_ite (fun h1 => ?_) (fun h1 => ?_)
  · walk_at "rd"
    refine rd_sp1 ⟨l, rfl, S1.st, fun r H2 a2 b2 S2 => ?_⟩
    walk_at "rd"
    refine new_tup fun p H3 hp E3 h3 => ?_
    exact q _ _ _ (.tup (.of h3) (.cons (.str _ (by decide)) (.cons (.int _) .nil))) (shp_flat rfl) ((S1.trans S2).trans (.ex S2.st E3))
  walk_at "rd"
  refine (fun rest => rd_ite (fun h2 => ?_) (fun _ => rest)) ?_
  · walk_at "rda"
    rw [List.length_map]
    refine rd_ite (fun h3 => ?_) (fun _ => rest)
    walk_at "rda"
    rw [List.length_map]
    refine nx En1.st h3 fun r2 H2 a2 b2 S2 => ?_
    walk_at "rda"
    have En2 := En1.mv S2
    obtain ⟨ns2, hn2, ln2⟩ := En2.seen
    have e2 : ns2.length = ns.length := by
      have := lst_st hn S2 En1.seenN
      rw [this] at hn2
      have e := congrArg List.length (HO.lst.inj (Option.some.inj hn2))
      rw [List.length_map, List.length_map] at e
      exact e.symm
    refine rd_ixLm (.of hn2) a2 (by rw [List.length_map]; omega) fun v hv => ?_
    obtain ⟨i, _, rfl⟩ := List.mem_map.mp hv
    walk_at "rd"
    refine new_tup fun p H3 hp E3 h3 => ?_
    exact q _ _ _ (.tup (.of h3) (.cons (.str _ (by decide)) (.cons (.int _) .nil))) (shp_flat rfl) ((S1.trans S2).trans (.ex S2.st E3))
  walk_at "rd"
  refine rd_ite (fun h2 => ?_) (fun h2 => ?_)
  · walk_at "rd"
    have hz := En1.sizes
    walk_at "rda"
    refine nx En1.st En1.pos fun r2 H2 a2 b2 S2 => ?_
    walk_at "rd"
    refine new_tup fun p H3 hp E3 h3 => ?_
    exact q _ _ _ (.tup (.of h3) (.cons (.str _ (by decide)) (.cons (.int _) .nil))) (shp_flat rfl) ((S1.trans S2).trans (.ex S2.st E3))
  walk_at "rd"
  have hw1 := W.at_
  walk_at "rda"
  rw [List.length_map]
  have := W.one
  refine nx En1.st (by omega) fun r2 H2 a2 b2 S2 => ?_
  walk_at "rd"
  refine rd_ixLm (.of (lst_st hw1 S2 En1.wordsN)) a2 (by rw [List.length_map]; omega) fun v hv => ?_
  obtain ⟨z, hz, rfl⟩ := List.mem_map.mp hv
  have := W.short z hz
  walk_at "rd"
  refine new_tup fun p H3 hp E3 h3 => ?_
  exact q _ _ _ (.tup (.of h3) (.cons (.str _ (by decide)) (.cons (.str _ (by omega)) .nil))) (shp_flat rfl) ((S1.trans S2).trans (.ex S2.st E3))
end
end K2
open PySem PySem.Spec PyProof.Rows L2 Qa


namespace K2
section
variable {P : Program} {w : World} {K : PySem.W.Frag} {mg : Str → Option Value} {base : Heap} {H : Hp} {Q : VK} {E : XK}
/-- a tuple of two to four, its tuples again so, so deep at most -/
theorem shp_two {n : Nat} {x : Str} {a b : T} (h : isTup a = true → shp n a) (h' : isTup b = true → shp n b) : shp (n + 1) (.tup [.str x, a, b]) := by
  refine ⟨_, rfl, by show 2 ≤ 3; decide, by show 3 ≤ 4; decide, fun t ht hu => ?_⟩
  simp only [List.mem_cons, List.not_mem_nil, or_false] at ht
  rcases ht with rfl | rfl | rfl
  · cases hu
  · exact h hu
  · exact h' hu
theorem shp_three {n : Nat} {x : Str} {a b c : T} (h : isTup a = true → shp n a) (h' : isTup b = true → shp n b) (h'' : isTup c = true → shp n c) : shp (n + 1) (.tup [.str x, a, b, c]) := by
  refine ⟨_, rfl, by show 2 ≤ 4; decide, by show 4 ≤ 4; decide, fun t ht hu => ?_⟩
  simp only [List.mem_cons, List.not_mem_nil, or_false] at ht
  rcases ht with rfl | rfl | rfl | rfl
  · cases hu
  · exact h hu
  · exact h' hu
  · exact h'' hu
def spRule (K : PySem.W.Frag) (N : Nat) : Sp := sp5 fun a b c d e H Q => ∃ l sn dz wd sz n, n ≤ N ∧ a = .ref l ∧ b = .int ((n : Nat) + 1 : Int) ∧ c = .ref sn ∧ d = .ref dz ∧ e = .ref wd ∧ Dr K H l sn dz wd sz ∧ ∀ v t H', Tv K H' v t → shp (n + 1) t → St1 l H H' → Q v H'
theorem k_lrule {N m : Nat} (T : Tx K w mg) (c__law_next : Cal P w K mg base "_law_next" 1 p_law_next (spNext K)) (c__law_plain : Cal P w K mg base "_law_plain" 3 p_law_plain (spPlain K)) (c__law_rule : Cal P w K mg base "_law_rule" m p_law_rule (spRule K N)) (hm : 3 ≤ m) :
    Cal P w K mg base "_law_rule" (m + 1) p_law_rule (spRule K (N + 1)) := by
  refine cal5 T.F__law_rule sc_law_rule b_law_rule rfl fun g cdv A outer s H a b c d e Q E hr h => ?_
  obtain ⟨l, sn, dz, wd, sz, n, hn, rfl, rfl, rfl, rfl, rfl, En, q⟩ := h
  refine ⟨_, (pss_cons (ps_set (i := 5) (sc_law_rule).nd rfl (by first | exact Or.inl rfl | exact Or.inr rfl) (pe_cal c__law_next (hr.mono (by omega)) (pa_cons (pv 0) (pa_cons pe_int pa_nil)))) (pss_cons (ps_if (PW.pt (pw_or (pt_cmpR op_lt (pv 1) pe_int (nomark _)) (pw_or1 (pt_cmpR op_lt (pv 5) pe_int (nomark _))))) (pss_one (ps_ret (pe_cal c__law_plain (hr.mono (by omega)) (pa_cons (pv 0) (pa_cons (pv 2) (pa_cons (pv 3) (pa_cons (pv 4) pa_nil))))))) pss_nil) (pss_cons (ps_set (i := 6) (sc_law_rule).nd rfl (by first | exact Or.inl rfl | exact Or.inr rfl) (pe_cal c__law_rule (hr.mono (by omega)) (pa_cons (pv 0) (pa_cons (pe_op op_sub (pv 1) pe_int) (pa_cons (pv 2) (pa_cons (pv 3) (pa_cons (pv 4) pa_nil))))))) (pss_cons (ps_if (pt_cmpR (op_eqA hr) (pv 5) pe_int (nomark _)) (pss_one (ps_ret (pe_tup (pa_cons pe_str (pa_cons (pv 6) (pa_cons (pe_ix ix_seq (pe_lst (pa_cons pe_int (pa_cons pe_int (pa_cons (pe_cal c__law_next (hr.mono (by omega)) (pa_cons (pv 0) (pa_cons pe_int pa_nil))) pa_nil)))) (pe_cal c__law_next (hr.mono (by omega)) (pa_cons (pv 0) (pa_cons pe_int pa_nil))) (fun _ _ => rfl)) pa_nil)))))) pss_nil) (pss_cons (ps_if (PW.pt (pw_and (pt_cmpR (op_eqA hr) (pv 5) pe_int (nomark _)) (pw_and1 (pt_cmpR op_gt (pe_ix ix_seq (pv 3) pe_int (fun _ _ => rfl)) pe_int (nomark _))))) (pss_one (ps_ret (pe_tup (pa_cons pe_str (pa_cons (pe_cal c__law_next (hr.mono (by omega)) (pa_cons (pv 0) (pa_cons (pe_ix ix_seq (pv 3) pe_int (fun _ _ => rfl)) pa_nil))) (pa_cons (pv 6) pa_nil)))))) pss_nil) (pss_cons (ps_if (pt_cmpR (op_eqA hr) (pv 5) pe_int (nomark _)) (pss_one (ps_ret (pv 6))) pss_nil) (pss_cons (ps_set (i := 7) (sc_law_rule).nd rfl (by first | exact Or.inl rfl | exact Or.inr rfl) (pe_cal c__law_rule (hr.mono (by omega)) (pa_cons (pv 0) (pa_cons (pe_callB (cr_min2 rfl) (by rfl) T.m_min (by decide +kernel) (pa_cons (pe_op op_sub (pv 1) pe_int) (pa_cons pe_int pa_nil))) (pa_cons (pv 2) (pa_cons (pv 3) (pa_cons (pv 4) pa_nil))))))) (Evl.pss_cut (ps_if (pt_cmpR (op_eqA hr) (pe_cal c__law_next (hr.mono (by omega)) (pa_cons (pv 0) (pa_cons pe_int pa_nil))) pe_int (nomark _)) (pss_one (ps_par (i := 6) (j := 7) rfl (sc_law_rule).nd rfl rfl (by decide) rfl rfl (pa_cons (pv 7) (pa_cons (pv 6) pa_nil)) (by rfl))) pss_nil) (pss_cons (ps_if (pt_cmpR op_lt (pv 5) pe_int (nomark _)) (pss_one (ps_ret (pe_tup (pa_cons (pe_ix ix_seq (pe_lst (pa_cons pe_str (pa_cons pe_str (pa_cons pe_str (pa_cons pe_str pa_nil))))) (pe_op op_sub (pv 5) pe_int) (fun _ _ => rfl)) (pa_cons (pv 6) (pa_cons (pv 7) pa_nil)))))) pss_nil) (pss_cons (ps_if (pt_cmpR op_lt (pv 5) pe_int (nomark _)) (pss_one (ps_ret (pe_tup (pa_cons pe_str (pa_cons (pv 6) (pa_cons (pv 7) (pa_cons (pe_cal c__law_rule (hr.mono (by omega)) (pa_cons (pv 0) (pa_cons (pe_callB (cr_min2 rfl) (by rfl) T.m_min (by decide +kernel) (pa_cons (pe_op op_sub (pv 1) pe_int) (pa_cons pe_int pa_nil))) (pa_cons (pv 2) (pa_cons (pv 3) (pa_cons (pv 4) pa_nil)))))) pa_nil))))))) pss_nil) (pss_cons (ps_if (pt_cmpR op_gt (pe_ix ix_seq (pv 3) pe_int (fun _ _ => rfl)) pe_int (nomark _)) (pss_one (ps_ret (pe_tup (pa_cons pe_str (pa_cons (pe_cal c__law_next (hr.mono (by omega)) (pa_cons (pv 0) (pa_cons (pe_ix ix_seq (pv 3) pe_int (fun _ _ => rfl)) pa_nil))) (pa_cons (pv 6) (pa_cons (pv 7) pa_nil))))))) pss_nil) (pss_one (ps_ret (pe_tup (pa_cons pe_str (pa_cons (pv 7) (pa_cons (pv 6) pa_nil))))))))))))))))), ?_⟩
  rw [t_law_rule]
  try dsimp only [cxOf, Cx.nox, Cx.wish]
  walk_at "rd"
  refine nx En.st (by decide) fun kd H1 a1 b1 S1 => ?_
  have En1 := En.mv S1
  walk_at "rd"
  refine rd_ite (fun h1 => ?_) (fun h1 => ?_)
  · walk_at "rd"
    exact rd_sp4 ⟨l, sn, dz, wd, sz, rfl, rfl, rfl, rfl, En1, fun v t H2 tv sh S2 => q v t H2 tv (shp_mono sh (by omega)) (S1.trans S2)⟩
  walk_at "rd"
  refine rd_ite (fun h2 => ?_) (fun h2 => ?_)
  · walk_at "rd"
    exact rd_sp4 ⟨l, sn, dz, wd, sz, rfl, rfl, rfl, rfl, En1, fun v t H2 tv sh S2 => q v t H2 tv (shp_mono sh (by omega)) (S1.trans S2)⟩
  walk_at "rd"
  obtain ⟨k, rfl⟩ : ∃ k, n = k + 1 := ⟨n - 1, by omega⟩
  refine rd_sp5 ⟨l, sn, dz, wd, sz, k, by omega, rfl, by congr 1; omega, rfl, rfl, rfl, En1, fun v1 t1 H2 tv1 sh1 S2 => ?_⟩
  have En2 := En1.mv S2
  have S02 := S1.trans S2
  have hz := En2.sizes
  walk_at "rd"
  refine rd_ite (fun h3 => ?_) (fun h3 => ?_)
  · walk_at "rd"
    refine nx En2.st (by decide) fun r3 H3 a3 b3 S3 => ?_
    walk_at "rd"
    refine new_lst fun o H4 ho E4 h4 => ?_
    walk_at "rd"
    refine nx (by walk_at "sta") (by decide) fun r5 H5 a5 b5 S5 => ?_
    walk_at "rd"
    refine rd_ixLm (.of (lst_st h4 S5 (ne_st S3.st ho))) a5 (by simp; omega) fun v hv => ?_
    have S25 : St1 l H2 H5 := (S3.trans (.ex S3.st E4)).trans S5
    obtain ⟨i, rfl⟩ : ∃ i, v = V.int i := by
      simp only [List.mem_cons, List.not_mem_nil, or_false] at hv
      rcases hv with rfl | rfl | rfl <;> exact ⟨_, rfl⟩
    walk_at "rd"
    refine new_tup fun p H6 hp E6 h6 => ?_
    exact q _ _ _ (.tup (.of h6) (.cons (.str _ (by decide)) (.cons (tv_ex (tv_st tv1 S25) E6) (.cons (.int i) .nil)))) (shp_two (fun _ => sh1) (fun z => by cases z)) ((S02.trans S25).trans (.ex S25.st E6))
  walk_at "rd"
  refine (fun rest => rd_ite (fun h4 => ?_) (fun _ => rest)) ?_
  · walk_at "rda"
    refine rd_ite (fun h5 => ?_) (fun _ => rest)
    walk_at "rda"
    refine nx En2.st (by omega) fun r3 H3 a3 b3 S3 => ?_
    walk_at "rda"
    rename_i p H4 _ E4 h4
    exact q _ _ _ (.tup (.of h4) (.cons (.str _ (by decide)) (.cons (.int _) (.cons (tv_ex (tv_st tv1 S3) E4) .nil)))) (shp_two (fun z => by cases z) (fun _ => sh1)) ((S02.trans S3).trans (.ex S3.st E4))
  walk_at "rd"
  refine rd_ite (fun h4 => ?_) (fun h4 => ?_)
  · walk_at "rd"
    exact q _ _ _ tv1 (shp_mono sh1 (by omega)) S02
  walk_at "rd"
  obtain ⟨j, hj, ej⟩ : ∃ j : Nat, j ≤ k ∧ (if (2 : Int) < ((k + 1 : Nat) : Int) + 1 - 1 then (2 : Int) else ((k + 1 : Nat) : Int) + 1 - 1) = (j : Nat) + 1 := by
    by_cases h : 2 < k + 1
    · exact ⟨1, by omega, by rw [if_pos (by omega)]; rfl⟩
    · exact ⟨k, by omega, by rw [if_neg (by omega)]; omega⟩
  rw [ej]
  refine rd_sp5 ⟨l, sn, dz, wd, sz, j, by omega, rfl, rfl, rfl, rfl, rfl, En2, fun v2 t2 H3 tv2 sh2 S3 => ?_⟩
  have En3 := En2.mv S3
  have S03 := S02.trans S3
  walk_at "rd"
  refine rd_cut (fun σ H' => ∃ u v tu tv, σ = [some (.ref l), some (.int (((k + 1 : Nat) : Int) + 1)), some (.ref sn), some (.ref dz), some (.ref wd), some (.int kd), some u, some v] ∧ Tv K H' u tu ∧ Tv K H' v tv ∧ shp (k + 1) tu ∧ shp (k + 1) tv ∧ St1 l H H') ?_ ?_
  · walk_at "rd"
    refine nx En3.st (by decide) fun r4 H4 a4 b4 S4 => ?_
    walk_at "rd"
    have x1 := tv_st (tv_st tv1 S3) S4
    have x2 := tv_st tv2 S4
    refine rd_ite (fun h5 => ?_) (fun h5 => ?_)
    · walk_at "rd"
      refine rd_par2 rfl ?_
      exact ⟨_, _, _, _, rfl, x2, x1, shp_mono sh2 (by omega), sh1, S03.trans S4⟩
    · walk_at "rd"
      exact ⟨_, _, _, _, rfl, x1, x2, sh1, shp_mono sh2 (by omega), S03.trans S4⟩
  rintro σ H4 ⟨u, v, tu, tv, rfl, hu, hv, su, sv, S4⟩
  have En4 := En.mv S4
  have hz4 := En4.sizes
  walk_at "rd"
  refine rd_ite (fun h5 => ?_) (fun h5 => ?_)
  · walk_at "rd"
    refine new_lst fun o H5 ho E5 h5 => ?_
    walk_at "rd"
    refine rd_ixLm (.of h5) (by omega) (by simp; omega) fun y hy => ?_
    obtain ⟨z, rfl, hz⟩ : ∃ z : Str, y = V.str z ∧ z.length ≤ 1000 := by
      simp only [List.mem_cons, List.not_mem_nil, or_false] at hy
      rcases hy with rfl | rfl | rfl | rfl <;> exact ⟨_, rfl, by decide⟩
    walk_at "rd"
    refine new_tup fun p H6 hp E6 h6 => ?_
    have E46 : Ex H4 H6 := E5.trans E6
    exact q _ _ _ (.tup (.of h6) (.cons (.str z hz) (.cons (tv_ex hu E46) (.cons (tv_ex hv E46) .nil)))) (shp_two (fun _ => su) (fun _ => sv)) (S4.trans (.ex S4.st E46))
  walk_at "rd"
  refine rd_ite (fun h6 => ?_) (fun h6 => ?_)
  · walk_at "rd"
    rw [ej]
    refine rd_sp5 ⟨l, sn, dz, wd, sz, j, by omega, rfl, rfl, rfl, rfl, rfl, En4, fun v3 t3 H5 tv3 sh3 S5 => ?_⟩
    walk_at "rd"
    refine new_tup fun p H6 hp E6 h6 => ?_
    exact q _ _ _ (.tup (.of h6) (.cons (.str _ (by decide)) (.cons (tv_ex (tv_st hu S5) E6) (.cons (tv_ex (tv_st hv S5) E6) (.cons (tv_ex tv3 E6) .nil))))) (shp_three (fun _ => su) (fun _ => sv) (fun _ => shp_mono sh3 (by omega))) ((S4.trans S5).trans (.ex S5.st E6))
  walk_at "rda"
  refine rd_ite (fun h7 => ?_) (fun h7 => ?_)
  · walk_at "rda"
    refine nx En4.st (by omega) fun r5 H5 a5 b5 S5 => ?_
    walk_at "rd"
    refine new_tup fun p H6 hp E6 h6 => ?_
    exact q _ _ _ (.tup (.of h6) (.cons (.str _ (by decide)) (.cons (.int _) (.cons (tv_ex (tv_st hu S5) E6) (.cons (tv_ex (tv_st hv S5) E6) .nil))))) (shp_three (fun z => by cases z) (fun _ => su) (fun _ => sv)) ((S4.trans S5).trans (.ex S5.st E6))
  · walk_at "rd"
    refine new_tup fun p H6 hp E6 h6 => ?_
    exact q _ _ _ (.tup (.of h6) (.cons (.str _ (by decide)) (.cons (tv_ex hv E6) (.cons (tv_ex hu E6) .nil)))) (shp_two (fun _ => sv) (fun _ => su)) (S4.trans (.ex S4.st E6))
theorem k_lrule0 (T : Tx K w mg) (c__law_next : Cal P w K mg base "_law_next" 1 p_law_next (spNext K)) (c__law_plain : Cal P w K mg base "_law_plain" 3 p_law_plain (spPlain K)) : Cal P w K mg base "_law_rule" 4 p_law_rule (spRule K 0) := by
  have c__law_rule : Cal P w K mg base "_law_rule" 1 p_law_rule spNo := cal_no T.F__law_rule sc_law_rule b_law_rule
  refine cal5 T.F__law_rule sc_law_rule b_law_rule rfl fun g cdv A outer s H a b c d e Q E hr h => ?_
  obtain ⟨l, sn, dz, wd, sz, n, hn, rfl, rfl, rfl, rfl, rfl, En, q⟩ := h
  obtain rfl : n = 0 := by omega
  refine ⟨_, (pss_cons (ps_set (i := 5) (sc_law_rule).nd rfl (by first | exact Or.inl rfl | exact Or.inr rfl) (pe_cal c__law_next (hr.mono (by omega)) (pa_cons (pv 0) (pa_cons pe_int pa_nil)))) (pss_cons (ps_if (PW.pt (pw_or (pt_cmpR op_lt (pv 1) pe_int (nomark _)) (pw_or1 (pt_cmpR op_lt (pv 5) pe_int (nomark _))))) (pss_one (ps_ret (pe_cal c__law_plain (hr.mono (by omega)) (pa_cons (pv 0) (pa_cons (pv 2) (pa_cons (pv 3) (pa_cons (pv 4) pa_nil))))))) pss_nil) (pss_cons (ps_set (i := 6) (sc_law_rule).nd rfl (by first | exact Or.inl rfl | exact Or.inr rfl) (pe_cal c__law_rule (hr.mono (by omega)) (pa_cons (pv 0) (pa_cons (pe_op op_sub (pv 1) pe_int) (pa_cons (pv 2) (pa_cons (pv 3) (pa_cons (pv 4) pa_nil))))))) (pss_cons (ps_if (pt_cmpR (op_eqA hr) (pv 5) pe_int (nomark _)) (pss_one (ps_ret (pe_tup (pa_cons pe_str (pa_cons (pv 6) (pa_cons (pe_ix ix_seq (pe_lst (pa_cons pe_int (pa_cons pe_int (pa_cons (pe_cal c__law_next (hr.mono (by omega)) (pa_cons (pv 0) (pa_cons pe_int pa_nil))) pa_nil)))) (pe_cal c__law_next (hr.mono (by omega)) (pa_cons (pv 0) (pa_cons pe_int pa_nil))) (fun _ _ => rfl)) pa_nil)))))) pss_nil) (pss_cons (ps_if (PW.pt (pw_and (pt_cmpR (op_eqA hr) (pv 5) pe_int (nomark _)) (pw_and1 (pt_cmpR op_gt (pe_ix ix_seq (pv 3) pe_int (fun _ _ => rfl)) pe_int (nomark _))))) (pss_one (ps_ret (pe_tup (pa_cons pe_str (pa_cons (pe_cal c__law_next (hr.mono (by omega)) (pa_cons (pv 0) (pa_cons (pe_ix ix_seq (pv 3) pe_int (fun _ _ => rfl)) pa_nil))) (pa_cons (pv 6) pa_nil)))))) pss_nil) (pss_cons (ps_if (pt_cmpR (op_eqA hr) (pv 5) pe_int (nomark _)) (pss_one (ps_ret (pv 6))) pss_nil) (pss_cons (ps_set (i := 7) (sc_law_rule).nd rfl (by first | exact Or.inl rfl | exact Or.inr rfl) (pe_cal c__law_rule (hr.mono (by omega)) (pa_cons (pv 0) (pa_cons (pe_callB (cr_min2 rfl) (by rfl) T.m_min (by decide +kernel) (pa_cons (pe_op op_sub (pv 1) pe_int) (pa_cons pe_int pa_nil))) (pa_cons (pv 2) (pa_cons (pv 3) (pa_cons (pv 4) pa_nil))))))) (Evl.pss_cut (ps_if (pt_cmpR (op_eqA hr) (pe_cal c__law_next (hr.mono (by omega)) (pa_cons (pv 0) (pa_cons pe_int pa_nil))) pe_int (nomark _)) (pss_one (ps_par (i := 6) (j := 7) rfl (sc_law_rule).nd rfl rfl (by decide) rfl rfl (pa_cons (pv 7) (pa_cons (pv 6) pa_nil)) (by rfl))) pss_nil) (pss_cons (ps_if (pt_cmpR op_lt (pv 5) pe_int (nomark _)) (pss_one (ps_ret (pe_tup (pa_cons (pe_ix ix_seq (pe_lst (pa_cons pe_str (pa_cons pe_str (pa_cons pe_str (pa_cons pe_str pa_nil))))) (pe_op op_sub (pv 5) pe_int) (fun _ _ => rfl)) (pa_cons (pv 6) (pa_cons (pv 7) pa_nil)))))) pss_nil) (pss_cons (ps_if (pt_cmpR op_lt (pv 5) pe_int (nomark _)) (pss_one (ps_ret (pe_tup (pa_cons pe_str (pa_cons (pv 6) (pa_cons (pv 7) (pa_cons (pe_cal c__law_rule (hr.mono (by omega)) (pa_cons (pv 0) (pa_cons (pe_callB (cr_min2 rfl) (by rfl) T.m_min (by decide +kernel) (pa_cons (pe_op op_sub (pv 1) pe_int) (pa_cons pe_int pa_nil))) (pa_cons (pv 2) (pa_cons (pv 3) (pa_cons (pv 4) pa_nil)))))) pa_nil))))))) pss_nil) (pss_cons (ps_if (pt_cmpR op_gt (pe_ix ix_seq (pv 3) pe_int (fun _ _ => rfl)) pe_int (nomark _)) (pss_one (ps_ret (pe_tup (pa_cons pe_str (pa_cons (pe_cal c__law_next (hr.mono (by omega)) (pa_cons (pv 0) (pa_cons (pe_ix ix_seq (pv 3) pe_int (fun _ _ => rfl)) pa_nil))) (pa_cons (pv 6) (pa_cons (pv 7) pa_nil))))))) pss_nil) (pss_one (ps_ret (pe_tup (pa_cons pe_str (pa_cons (pv 7) (pa_cons (pv 6) pa_nil))))))))))))))))), ?_⟩
  rw [t_law_rule]
  try dsimp only [cxOf, Cx.nox, Cx.wish]
  walk_at "rd"
  refine nx En.st (by decide) fun kd H1 a1 b1 S1 => ?_
  have En1 := En.mv S1
  walk_at "rd"
  first
  | exact rd_sp4 ⟨l, sn, dz, wd, sz, rfl, rfl, rfl, rfl, En1, fun v t H2 tv sh S2 => q v t H2 tv (shp_mono sh (by omega)) (S1.trans S2)⟩
  | (refine rd_ite (fun h1 => ?_) (fun h1 => by omega)
     walk_at "rd"
     exact rd_sp4 ⟨l, sn, dz, wd, sz, rfl, rfl, rfl, rfl, En1, fun v t H2 tv sh S2 => q v t H2 tv (shp_mono sh (by omega)) (S1.trans S2)⟩)
theorem k_lrulen (T : Tx K w mg) (c__law_next : Cal P w K mg base "_law_next" 1 p_law_next (spNext K)) (c__law_plain : Cal P w K mg base "_law_plain" 3 p_law_plain (spPlain K)) : ∀ n : Nat, Cal P w K mg base "_law_rule" (4 + n) p_law_rule (spRule K n)
  | 0 => k_lrule0 T c__law_next c__law_plain
  | n + 1 => k_lrule T c__law_next c__law_plain (k_lrulen T c__law_next c__law_plain n) (show 3 ≤ 4 + n by omega)
end
end K2
open PySem PySem.Spec PyProof.Rows L2 Qa


local macro_rules | `(tactic| walk_at "tvo") => `(tactic| first
  | exact TvA.nil
  | exact Tv.int _
  | exact Tv.bl _
  | exact Tv.str _ (by first | assumption | decide | decide +kernel)
  | exact Tv.non
  | walk_at "tv"
  | ((refine' Tv.tup ?h ?a); (case h => walk_at "sqt"); (case a => walk_at "tvo"))
  | ((refine' Tv.lst ?h); (case h => walk_at "sql"))
  | ((with_reducible refine' TvA.append ?h ?a); (case h => walk_at "tva"); (case a => walk_at "tvo"))
  | ((with_reducible refine' TvA.cut ?h _ _); (case h => walk_at "tva"))
  | ((refine' TvA.cons ?h ?a); (case h => walk_at "tvo"); (case a => walk_at "tvo")))
local macro_rules | `(tactic| walk_at "stg") => `(tactic| (
  refine' ⟨_, _, _, rfl, ?h, ?n, ?l1, ?l2, ?a, ?e⟩
  (case h => assumption)
  (case n =>
    refine' ne_st ?x ?y
    (case y => assumption)
    (case x => walk_at "sta"))
  (case l1 => (simp only [List.length_append, List.length_cons, List.length_nil]; omega))
  (case l2 => (simp only [List.length_append, List.length_cons, List.length_nil]; omega))
  (case a => walk_at "tvo")
  (case e => walk_at "exx")))
namespace K2
section
variable {P : Program} {w : World} {K : PySem.W.Frag} {mg : Str → Option Value} {base : Heap} {H : Hp} {Q : VK} {E : XK}
def spOdd (K : PySem.W.Frag) : Sp := sp3 fun a b c H Q => ∃ (l dz : Addr) (sz : Sz) (ts : List T), a = .ref l ∧ c = .ref dz ∧ (∃ s, H l = some (.lst [.int s])) ∧ SqT K H dz [.int sz.l, .int sz.tb, .int sz.ch] ∧ Tv K H b (.tup ts) ∧ ts.length ≤ 4 ∧ ∀ v t H', Tv K H' v t → St1 l H H' → Q v H'
theorem k__law_odd (T : Tx K w mg) (c__law_next : Cal P w K mg base "_law_next" 1 p_law_next (spNext K)) : Cal P w K mg base "_law_odd" 2 p_law_odd (spOdd K) := by
  refine cal3 T.F__law_odd sc_law_odd b_law_odd rfl fun g cdv A outer s H a b c Q E hr h => ?_
  obtain ⟨l, dz, sz, ts, rfl, rfl, hl, hz, ht, lt, q⟩ := h
  refine ⟨_, (pss_cons (ps_set (i := 3) (sc_law_odd).nd rfl (by first | exact Or.inl rfl | exact Or.inr rfl) (pe_cal c__law_next (hr.mono (by omega)) (pa_cons (pv 0) (pa_cons (pe_op op_pow pe_int pe_int) pa_nil)))) (Evl.pss_cut (ps_set (i := 4) (sc_law_odd).nd rfl (by first | exact Or.inl rfl | exact Or.inr rfl) (pe_lst (pa_cons (pe_op op_addA (pv 1) (pe_tup (pa_cons (pv 1) pa_nil))) (pa_cons (pe_slice sl_any (pv 1) po_none (po_some (pe_un un_neg pe_int))) (pa_cons (pe_callTy cr_lstOf (by rfl) T.m_list (by decide +kernel) (pa_cons (pv 1) pa_nil)) (pa_cons pe_non (pa_cons pe_str (pa_cons (pe_tup pa_nil) (pa_cons (pe_tup (pa_cons pe_str (pa_cons (pe_ix ix_seq (pv 2) pe_int (fun _ _ => rfl)) pa_nil))) (pa_cons (pe_tup (pa_cons pe_str (pa_cons (pe_un un_neg pe_int) pa_nil))) pa_nil)))))))))) (Evl.pss_cut (ps_set (i := 4) (sc_law_odd).nd rfl (by first | exact Or.inl rfl | exact Or.inr rfl) (pe_op op_addA (pv 4) (pe_lst (pa_cons (pe_tup (pa_cons pe_str (pa_cons pe_bl pa_nil))) (pa_cons (pe_tup (pa_cons pe_str (pa_cons (pe_ix ix_seq (pv 2) pe_int (fun _ _ => rfl)) (pa_cons (pv 1) pa_nil)))) (pa_cons (pe_tup (pa_cons pe_str (pa_cons (pe_ix ix_seq (pv 2) pe_int (fun _ _ => rfl)) (pa_cons (pv 1) (pa_cons (pv 1) pa_nil))))) (pa_cons (pe_tup (pa_cons pe_str (pa_cons (pv 1) (pa_cons pe_int pa_nil)))) pa_nil))))))) (Evl.pss_cut (ps_set (i := 4) (sc_law_odd).nd rfl (by first | exact Or.inl rfl | exact Or.inr rfl) (pe_op op_addA (pv 4) (pe_lst (pa_cons (pe_tup (pa_cons pe_str (pa_cons (pe_op op_addA (pe_op op_addA (pe_op op_pow pe_int pe_int) pe_int) (pv 3)) pa_nil))) (pa_cons (pe_tup (pa_cons pe_str (pa_cons pe_non pa_nil))) (pa_cons (pe_tup (pa_cons pe_str (pa_cons pe_str pa_nil))) (pa_cons (pe_tup (pa_cons pe_str (pa_cons pe_str pa_nil))) pa_nil))))))) (Evl.pss_cut (ps_set (i := 4) (sc_law_odd).nd rfl (by first | exact Or.inl rfl | exact Or.inr rfl) (pe_op op_addA (pv 4) (pe_lst (pa_cons (pe_tup (pa_cons pe_str (pa_cons (pv 1) (pa_cons (pe_un un_neg pe_int) pa_nil)))) (pa_cons (pe_tup (pa_cons pe_str (pa_cons pe_str pa_nil))) pa_nil))))) (Evl.pss_cut (ps_set (i := 4) (sc_law_odd).nd rfl (by first | exact Or.inl rfl | exact Or.inr rfl) (pe_op op_addA (pv 4) (pe_lst (pa_cons (pe_tup (pa_cons pe_str (pa_cons (pe_op op_addA (pe_ix ix_seq (pv 2) pe_int (fun _ _ => rfl)) (pv 3)) pa_nil))) (pa_cons (pe_tup (pa_cons pe_str (pa_cons (pv 1) (pa_cons (pv 1) pa_nil)))) (pa_cons (pe_tup (pa_cons pe_str (pa_cons (pv 1) (pa_cons (pv 1) pa_nil)))) (pa_cons pe_int (pa_cons pe_bl pa_nil)))))))) (Evl.pss_cut (ps_set (i := 4) (sc_law_odd).nd rfl (by first | exact Or.inl rfl | exact Or.inr rfl) (pe_op op_addA (pv 4) (pe_lst (pa_cons (pe_tup (pa_cons pe_non (pa_cons (pv 1) (pa_cons (pv 1) pa_nil)))) (pa_cons (pe_tup (pa_cons pe_str (pa_cons (pv 1) (pa_cons (pe_lst (pa_cons (pv 1) pa_nil)) pa_nil)))) (pa_cons (pe_tup (pa_cons pe_str (pa_cons (pe_lst (pa_cons pe_str pa_nil)) pa_nil))) (pa_cons (pe_tup (pa_cons pe_str (pa_cons (pv 1) (pa_cons pe_int pa_nil)))) pa_nil))))))) (Evl.pss_cut (ps_set (i := 4) (sc_law_odd).nd rfl (by first | exact Or.inl rfl | exact Or.inr rfl) (pe_op op_addA (pv 4) (pe_lst (pa_cons (pe_tup (pa_cons pe_str (pa_cons (pe_op op_sub (pe_un un_neg (pe_op op_pow pe_int pe_int)) pe_int) pa_nil))) (pa_cons (pe_tup (pa_cons pe_str (pa_cons pe_str pa_nil))) (pa_cons (pe_tup (pa_cons pe_str (pa_cons pe_bl pa_nil))) (pa_cons (pe_tup (pa_cons pe_str (pa_cons pe_bl pa_nil))) (pa_cons (pe_tup (pa_cons pe_str (pa_cons (pv 1) (pa_cons pe_bl pa_nil)))) pa_nil)))))))) (Evl.pss_cut (ps_set (i := 4) (sc_law_odd).nd rfl (by first | exact Or.inl rfl | exact Or.inr rfl) (pe_op op_addA (pv 4) (pe_lst (pa_cons (pe_tup (pa_cons pe_str (pa_cons pe_bl (pa_cons (pv 1) pa_nil)))) (pa_cons (pe_tup (pa_cons pe_str (pa_cons pe_bl (pa_cons (pv 1) (pa_cons (pv 1) pa_nil))))) (pa_cons (pe_tup (pa_cons pe_str (pa_cons pe_str pa_nil))) (pa_cons (pe_tup (pa_cons pe_str (pa_cons pe_str pa_nil))) pa_nil))))))) (Evl.pss_cut (ps_set (i := 4) (sc_law_odd).nd rfl (by first | exact Or.inl rfl | exact Or.inr rfl) (pe_op op_addA (pv 4) (pe_lst (pa_cons (pe_tup (pa_cons pe_str (pa_cons (pe_ix ix_seq (pe_lst (pa_cons pe_str (pa_cons pe_str (pa_cons pe_str (pa_cons pe_str (pa_cons pe_str (pa_cons pe_str pa_nil))))))) (pe_op op_mod (pv 3) pe_int) (fun _ _ => rfl)) pa_nil))) pa_nil)))) (pss_one (ps_ret (pe_ix ix_seq (pv 4) (pe_cal c__law_next (hr.mono (by omega)) (pa_cons (pv 0) (pa_cons (pe_callB cr_lenA (by rfl) T.m_len (by decide +kernel) (pa_cons (pv 4) pa_nil)) pa_nil))) (fun _ _ => rfl)))))))))))))), ?_⟩
  rw [t_law_odd]
  try dsimp only [cxOf, Cx.nox, Cx.wish]
  walk_at "rd"
  refine nx hl (by decide) fun far H1 a1 b1 S1 => ?_
  have hz1 := sqt_st hz S1
  have ht1 := tv_st ht S1
  obtain ⟨p, xs, rfl, hs1, ha1⟩ := ht1.tupE
  have lx : xs.length ≤ 4 := by rw [ha1.len]; exact lt
  have ht2 : Tv K H1 (.ref p) (.tup ts) := .tup hs1 ha1
  clear ht1 ht
  have hl1 := S1.st
  let M : Nat → L2.St → Hp → Prop := fun n σ H' => ∃ o vs us, σ = [some (.ref l), some (.ref p), some (.ref dz), some (.int far), some (.ref o)] ∧ H' o = some (.lst vs) ∧ o ≠ l ∧ 1 ≤ vs.length ∧ vs.length ≤ 10 * n ∧ TvA K H' vs us ∧ Ex H1 H'
  refine rd_cut (M 1) ?_ ?_
  · walk_at "rda"
    walk_at "stg"
  rintro σ Ha ⟨o, vs, us, rfl, ho, no, lo1, lo2, hus, Ea⟩
  have hza := sqt_ex hz1 Ea
  have hta := tv_ex ht2 Ea
  have hsa := sqt_ex hs1 Ea
  have hla := sta_ex hl1 Ea
  refine rd_cut (M 2) ?_ ?_
  · walk_at "rda"
    walk_at "stg"
  rintro σ Ha ⟨o, vs, us, rfl, ho, no, lo1, lo2, hus, Ea⟩
  have hza := sqt_ex hz1 Ea
  have hta := tv_ex ht2 Ea
  have hsa := sqt_ex hs1 Ea
  have hla := sta_ex hl1 Ea
  refine rd_cut (M 3) ?_ ?_
  · walk_at "rda"
    walk_at "stg"
  rintro σ Ha ⟨o, vs, us, rfl, ho, no, lo1, lo2, hus, Ea⟩
  have hza := sqt_ex hz1 Ea
  have hta := tv_ex ht2 Ea
  have hsa := sqt_ex hs1 Ea
  have hla := sta_ex hl1 Ea
  refine rd_cut (M 4) ?_ ?_
  · walk_at "rda"
    walk_at "stg"
  rintro σ Ha ⟨o, vs, us, rfl, ho, no, lo1, lo2, hus, Ea⟩
  have hza := sqt_ex hz1 Ea
  have hta := tv_ex ht2 Ea
  have hsa := sqt_ex hs1 Ea
  have hla := sta_ex hl1 Ea
  refine rd_cut (M 5) ?_ ?_
  · walk_at "rda"
    walk_at "stg"
  rintro σ Ha ⟨o, vs, us, rfl, ho, no, lo1, lo2, hus, Ea⟩
  have hza := sqt_ex hz1 Ea
  have hta := tv_ex ht2 Ea
  have hsa := sqt_ex hs1 Ea
  have hla := sta_ex hl1 Ea
  refine rd_cut (M 6) ?_ ?_
  · walk_at "rda"
    walk_at "stg"
  rintro σ Ha ⟨o, vs, us, rfl, ho, no, lo1, lo2, hus, Ea⟩
  have hza := sqt_ex hz1 Ea
  have hta := tv_ex ht2 Ea
  have hsa := sqt_ex hs1 Ea
  have hla := sta_ex hl1 Ea
  refine rd_cut (M 7) ?_ ?_
  · walk_at "rda"
    walk_at "stg"
  rintro σ Ha ⟨o, vs, us, rfl, ho, no, lo1, lo2, hus, Ea⟩
  have hza := sqt_ex hz1 Ea
  have hta := tv_ex ht2 Ea
  have hsa := sqt_ex hs1 Ea
  have hla := sta_ex hl1 Ea
  refine rd_cut (M 8) ?_ ?_
  · walk_at "rda"
    walk_at "stg"
  rintro σ Ha ⟨o, vs, us, rfl, ho, no, lo1, lo2, hus, Ea⟩
  have hza := sqt_ex hz1 Ea
  have hta := tv_ex ht2 Ea
  have hsa := sqt_ex hs1 Ea
  have hla := sta_ex hl1 Ea
  refine rd_cut (M 9) ?_ ?_
  · walk_at "rda"
    rename_i pw Hw _ Ew hw
    refine rd_ixLm (.of hw) (by omega) (by simp; omega) fun v hv => ?_
    obtain ⟨z, rfl, hz⟩ : ∃ z : Str, v = .str z ∧ z.length ≤ 1000 := by
      simp only [List.mem_cons, List.not_mem_nil, or_false] at hv
      rcases hv with rfl | rfl | rfl | rfl | rfl | rfl <;> exact ⟨_, rfl, by decide⟩
    clear hv
    walk_at "rda"
    walk_at "stg"
  rintro σ Ha ⟨o, vs, us, rfl, ho, no, lo1, lo2, hus, Ea⟩
  have hza := sqt_ex hz1 Ea
  have hta := tv_ex ht2 Ea
  have hsa := sqt_ex hs1 Ea
  have hla := sta_ex hl1 Ea
  walk_at "rda"
  have SS : St1 l H Ha := S1.trans (.ex S1.st Ea)
  refine nx SS.st (by omega) fun r2 H2 a2 b2 S2 => ?_
  walk_at "rda"
  refine rd_ixLm (.of (lst_st ho S2 no)) a2 b2 fun v hv => ?_
  obtain ⟨t, _, tv⟩ := hus.mem hv
  exact q v t H2 (tv_st tv S2) (SS.trans S2)
end
end K2
open PySem PySem.Spec PyProof.Rows L2 Qa


namespace K2
section
variable {P : Program} {w : World} {K : PySem.W.Frag} {mg : Str → Option Value} {base : Heap} {H : Hp} {Q : VK} {E : XK}
def spPut (K : PySem.W.Frag) (N : Nat) : Sp := sp3 fun a b c H Q => ∃ (l : Addr) (t u : T), a = .ref l ∧ (∃ s, H l = some (.lst [.int s])) ∧ Tv K H b t ∧ shp N t ∧ Tv K H c u ∧ ∀ v t H', Tv K H' v t → St1 l H H' → Q v H'
theorem k_putin {N m : Nat} (T : Tx K w mg) (c__law_next : Cal P w K mg base "_law_next" 1 p_law_next (spNext K)) (c__law_put_in : Cal P w K mg base "_law_put_in" m p_law_put_in (spPut K N)) (hm : 1 ≤ m) : Cal P w K mg base "_law_put_in" (m + 1) p_law_put_in (spPut K (N + 1)) := by
  refine cal3 T.F__law_put_in sc_law_put_in b_law_put_in rfl fun g cdv A outer s H a b c Q E hr h => ?_
  obtain ⟨l, t, u, rfl, hl, ht, sh, hu, q⟩ := h
  obtain ⟨ts, rfl, l2, l4, hk⟩ := sh
  obtain ⟨p, xs, rfl, hs, ha⟩ := ht.tupE
  have el : xs.length = ts.length := ha.len
  refine ⟨_, (pss_cons (ps_setLc (i := 3) (own := [("_law_k", 4)]) rfl (sc_law_put_in).nd rfl rfl (sw_true rfl rfl rfl (by decide +kernel)) (pi_range2 (by rfl) T.m_range (pa_cons pe_int (pa_cons (pe_callB cr_lenA (by rfl) T.m_len (by decide +kernel) (pa_cons (pv 1) pa_nil)) pa_nil))) (blkOk_by (N := n_law_put_in) (sc := defScope s_law_put_in) (by decide +kernel)) (fun _ _ _ _ _ => (pg_name (i := 4) (sc_law_put_in).nd rfl (by first | exact Or.inl rfl | exact Or.inr rfl))) (fun _ _ _ _ _ => (pts_one (pt_truK (K := K) rfl (pe_callB (isiK (K := K) rfl) (by rfl) T.m_isinstance (by decide +kernel) (pa_cons (pe_ix (ixK (K := K) rfl) (pv 1) (pv 4) (fun _ _ => rfl)) (pa_cons (pe_ty (n := "tuple") T.m_tuple (by decide +kernel)) pa_nil)))))) (fun _ _ _ _ _ => (pv 4))) (pss_cons (ps_if (PW.pt (pw_or (pt_cmpR (op_eqA hr) (pv 3) (pe_lst pa_nil) (nomark _)) (pw_or1 (pt_cmpR (op_eqA hr) (pe_cal c__law_next (hr.mono (by omega)) (pa_cons (pv 0) (pa_cons pe_int pa_nil))) pe_int (nomark _))))) (pss_one (ps_ret (pv 2))) pss_nil) (pss_cons (ps_set (i := 5) (sc_law_put_in).nd rfl (by first | exact Or.inl rfl | exact Or.inr rfl) (pe_ix ix_seq (pv 3) (pe_cal c__law_next (hr.mono (by omega)) (pa_cons (pv 0) (pa_cons (pe_callB cr_lenA (by rfl) T.m_len (by decide +kernel) (pa_cons (pv 3) pa_nil)) pa_nil))) (fun _ _ => rfl))) (pss_one (ps_ret (pe_op op_addA (pe_op op_addA (pe_slice sl_any (pv 1) po_none (po_some (pv 5))) (pe_tup (pa_cons (pe_cal c__law_put_in (hr.mono (by omega)) (pa_cons (pv 0) (pa_cons (pe_ix ix_seq (pv 1) (pv 5) (fun _ _ => rfl)) (pa_cons (pv 2) pa_nil)))) pa_nil))) (pe_slice sl_any (pv 1) (po_some (pe_op op_addA (pv 5) pe_int)) po_none))))))), ?_⟩
  rw [t_law_put_in]
  try dsimp only [cxOf, Cx.nox, Cx.wish]
  walk_at "rda"
  refine rd_fr2 ⟨by decide, by decide, by omega, by omega⟩ ?_
  refine lcW_R (fun D i H' => ∃ ns : List Int, H' D = some (.lst (ns.map V.int)) ∧ ns.length ≤ i ∧ (∀ v ∈ ns, ∃ j : Nat, v = (j : Nat) ∧ j < xs.length ∧ ∃ u, ts[j]? = some u ∧ isTup u = true) ∧ Ex H H') ?_ ?_ ?_
  · exact fun D H' hD e h => ⟨[], h, Nat.le_refl _, by simp, e⟩
  · rintro D i H5 hD hi ⟨ns, hacc, la, hall, E5⟩
    walk_at "lcn"
    walk_at "rd"
    have hj : 1 + i < xs.length := by omega
    have hx := List.getElem?_eq_getElem hj
    obtain ⟨y, hy, ty⟩ := (tva_ex ha E5).getV hx
    refine rd_ixTk (n := 1 + i) (sqt_ex hs E5) (by omega) hx ?_
    walk_at "rd"
    cases ety : isTup y with
    | true =>
      walk_at "rd"
      refine ⟨_, hacc, small1000 (by rw [List.length_map]; omega), ?_⟩
      refine ⟨ns ++ [1 + (i : Int)], by rw [upd_same, List.map_append]; rfl, by rw [List.length_append]; simp; omega, ?_, ex_new hD E5⟩
      intro v hv
      rcases List.mem_append.mp hv with hv | hv
      · exact hall v hv
      · cases List.mem_singleton.mp hv
        exact ⟨1 + i, by omega, hj, y, hy, ety⟩
    | false =>
      walk_at "rd"
      exact ⟨ns, hacc, by omega, hall, E5⟩
  · rintro D H5 hD ⟨ns, hacc, la, hall, E5⟩
    walk_at "rda"
    rename_i e0 H6 _ E6 h6
    have E06 : Ex H H6 := E5.trans E6
    have hacc6 := lst_ex hacc E6
    have S6 : St1 l H H6 := .ex hl E06
    have hDl : D ≠ l := ne_st hl hD
    refine rd_eqNil (ns := ns.map Sum.inl) (fun k hk => by obtain ⟨z, _, rfl⟩ := List.mem_map.mp hk; rfl) (.of (by rw [List.map_map]; exact hacc6)) (.of h6) ?_
    walk_at "rd"
    cases ens : (ns.map Sum.inl : List Key).isEmpty with
    | true =>
      walk_at "rd"
      exact q c u H6 (tv_ex hu E06) S6
    | false =>
      walk_at "rd"
      have lns : 0 < ns.length := by
        cases ns with
        | nil => cases ens
        | cons _ _ => simp
      refine nx S6.st (by decide) fun r7 H7 a7 b7 S7 => ?_
      have S07 := S6.trans S7
      walk_at "rd"
      refine rd_ite (fun h1 => ?_) (fun h1 => ?_)
      · walk_at "rd"
        exact q c u H7 (tv_st hu S07) S07
      have hacc7 : H7 D = _ := lst_st hacc6 S7 hDl
      walk_at "rda"
      rw [List.length_map]
      refine nx S7.st (by omega) fun r8 H8 a8 b8 S8 => ?_
      have S08 := S07.trans S8
      walk_at "rda"
      refine rd_ixLm (.of (lst_st hacc7 S8 hDl)) a8 (by rw [List.length_map]; omega) fun v hv => ?_
      obtain ⟨z, hz, rfl⟩ := List.mem_map.mp hv
      obtain ⟨j, rfl, hj, y, hy, ety⟩ := hall z hz
      have hx := List.getElem?_eq_getElem hj
      have hs8 := sqt_st hs S08
      have ha8 := tva_st ha S08
      obtain ⟨y', hy', ty⟩ := ha8.getV hx
      rw [hy] at hy'
      cases hy'
      walk_at "rda"
      rename_i p9 H9 E9 s9
      rw [cutV_to] at s9
      refine rd_ixTk (sqt_ex hs8 E9) rfl hx ?_
      walk_at "rda"
      refine rd_sp3 ⟨l, y, u, rfl, by walk_at "sta", tv_ex ty E9, hk y (List.mem_of_getElem? hy) ety, tv_ex (tv_st hu S08) E9, fun v t H10 tv S10 => ?_⟩
      have S9 : St1 l H H9 := S08.trans (.ex S08.st E9)
      have S010 := S9.trans S10
      walk_at "rd"
      refine new_tup fun p11 H11 hp11 E11 h11 => ?_
      walk_at "rd"
      refine rd_addT (sqt_ex (sqt_st s9 S10) E11) (.of h11) (by rw [List.length_take]; simp; omega) fun p12 H12 E12 s12 => ?_
      walk_at "rd"
      have E1012 := E11.trans E12
      have hs12 := sqt_ex (sqt_st (sqt_ex hs8 E9) S10) E1012
      refine rd_slT hs12 fun p13 H13 E13 s13 => ?_
      have ej : ((j : Nat) : Int) + 1 = ((j + 1 : Nat) : Int) := by omega
      rw [ej, cutV_from] at s13
      refine rd_addT (sqt_ex s12 E13) s13 (by rw [List.length_append, List.length_take, List.length_drop]; simp; omega) fun p14 H14 E14 s14 => ?_
      have EE := (E1012.trans E13).trans E14
      have ha14 : TvA K H14 xs ts := tva_ex (tva_st ha S010) EE
      exact q _ _ H14 (.tup s14 (((ha14.take j).append (.one (tv_ex tv EE))).append (ha14.drop (j + 1)))) (S010.trans (.ex S010.st EE))
theorem k_putinn (T : Tx K w mg) (c__law_next : Cal P w K mg base "_law_next" 1 p_law_next (spNext K)) : ∀ n : Nat, Cal P w K mg base "_law_put_in" (1 + n) p_law_put_in (spPut K n)
  | 0 => cal_mk (k := 0) T.F__law_put_in sc_law_put_in b_law_put_in (fun vs H Q E h => by obtain ⟨a, b, c, rfl, _⟩ := h; rfl) fun _ _ _ _ _ _ vs Q E _ h => by
      obtain ⟨a, b, c, rfl, l, t, u, _, _, _, sh, _⟩ := h
      exact sh.elim
  | n + 1 => k_putin T c__law_next (k_putinn T c__law_next n) (show 1 ≤ 1 + n by omega)
end
end K2
open PySem PySem.Spec PyProof.Rows L2 Qa


namespace K2
section
variable {P : Program} {w : World} {K : PySem.W.Frag} {mg : Str → Option Value} {base : Heap} {H : Hp} {Q : VK} {E : XK}
def keyT : T → List Key
  | .int i => [.inl i]
  | .str x => [.inr x]
  | _ => []
def headK : List T → List Key
  | t :: _ => keyT t
  | [] => []
def behs (f : T → List Key) : List T → List Str → List Key
  | t :: ts, k :: ks => (if k = "rule" then f t else []) ++ behs f ts ks
  | _, _ => []
def kindsD (x : Str) : List Str := match kindsOf x with | some ks => ks | none => []
def beh (wd : Str) : Nat → T → List Key
  | 0, _ => []
  | n + 1, .tup (.str x :: ts) => (if x = wd then headK ts else []) ++ behs (beh wd n) ts (kindsD x)
  | _ + 1, _ => []
theorem beh_at (wd : Str) (n : Nat) (x : Str) (ts : List T) : beh wd (n + 1) (.tup (.str x :: ts)) = (if x = wd then headK ts else []) ++ behs (beh wd n) ts (kindsD x) := rfl
def B : Nat → Nat
  | 0 => 0
  | n + 1 => 1 + 3 * B n
theorem B_mono : ∀ {m n : Nat}, m ≤ n → B m ≤ B n
  | 0, n, _ => Nat.zero_le _
  | m + 1, 0, h => by omega
  | m + 1, n + 1, h => by
    have := B_mono (m := m) (n := n) (by omega)
    show 1 + 3 * B m ≤ 1 + 3 * B n
    omega
theorem headK_len (ts : List T) : (headK ts).length ≤ 1 := by
  cases ts with
  | nil => exact Nat.zero_le _
  | cons t _ => cases t <;> simp [headK, keyT]
theorem behs_len {f : T → List Key} {M : Nat} (h : ∀ t, (f t).length ≤ M) : ∀ (ts : List T) (ks : List Str), (behs f ts ks).length ≤ ks.length * M
  | [], ks => by show 0 ≤ _; exact Nat.zero_le _
  | _ :: _, [] => by show 0 ≤ _; exact Nat.zero_le _
  | t :: ts, k :: ks => by
    have ih := behs_len h ts ks
    have h1 : (if k = "rule" then f t else []).length ≤ M := by
      split
      · exact h t
      · exact Nat.zero_le _
    show ((if k = "rule" then f t else []) ++ behs f ts ks).length ≤ (ks.length + 1) * M
    rw [List.length_append, Nat.add_mul, Nat.one_mul]
    omega
theorem kindsD_len (x : Str) : (kindsD x).length ≤ 3 := by
  unfold kindsD
  cases e : kindsOf x with
  | none => exact Nat.zero_le _
  | some ks => exact (kinds_len e).2
theorem beh_len (wd : Str) : ∀ (n : Nat) (t : T), (beh wd n t).length ≤ B n
  | 0, _ => Nat.le_refl _
  | n + 1, t => by
    match t with
    | .tup (.str x :: ts) =>
      rw [beh_at, List.length_append]
      have h1 : (if x = wd then headK ts else []).length ≤ 1 := by
        split
        · exact headK_len ts
        · exact Nat.zero_le _
      have h2 := behs_len (beh_len wd n) ts (kindsD x)
      have h3 : (kindsD x).length * B n ≤ 3 * B n := Nat.mul_le_mul_right _ (kindsD_len x)
      show _ ≤ 1 + 3 * B n
      omega
    | .non => exact Nat.zero_le _
    | .bl _ => exact Nat.zero_le _
    | .int _ => exact Nat.zero_le _
    | .str _ => exact Nat.zero_le _
    | .lst => exact Nat.zero_le _
    | .tup [] => exact Nat.zero_le _
    | .tup (.non :: _) => exact Nat.zero_le _
    | .tup (.bl _ :: _) => exact Nat.zero_le _
    | .tup (.int _ :: _) => exact Nat.zero_le _
    | .tup (.tup _ :: _) => exact Nat.zero_le _
    | .tup (.lst :: _) => exact Nat.zero_le _
/-- the five words that name something -/
def five : List Str := ["line", "earlier", "paper", "table", "choose"]
def kd (wd : Str) : Key → Prop
  | .inl _ => wd ≠ "paper"
  | .inr x => wd = "paper" ∧ PySem.PyData.strOk x = true
theorem isWord_ok {x : Str} (h : isWord (.str x) = true) : PySem.PyData.strOk x = true := by
  rw [isWord_str, Bool.and_eq_true] at h
  have h2 := List.all_eq_true.mp h.2
  have big : ∀ c ∈ letters.cps.toList, c < 0x110000 := by decide +kernel
  unfold PySem.PyData.strOk
  rw [← Array.all_toList, List.all_eq_true]
  intro c hc
  exact decide_eq_true (big c (of_decide_eq_true (h2 c hc)))
theorem place_int {t : T} {n : Int} (h : isPlace t n = true) : ∃ i, t = .int i := by
  cases t with
  | int i => exact ⟨i, rfl⟩
  | _ => cases h
theorem word_str {t : T} (h : isWord t = true) : ∃ x, t = .str x := by
  cases t with
  | str x => exact ⟨x, rfl⟩
  | _ => cases h
theorem head_key {sz : Sz} {n : Nat} {x : Str} {ts : List T} {ks : List Str} (hx : x ∈ five) (e : kindsOf x = some ks) (hl : ts.length = ks.length) (hz : zipOk (partOk (isRule sz n) sz) ts ks = true) : ∃ t r k, ts = t :: r ∧ keyT t = [k] ∧ kd x k := by
  have e' : kindsD x = ks := by unfold kindsD; rw [e]
  simp only [five, List.mem_cons, List.not_mem_nil, or_false] at hx
  cases ts with
  | nil =>
    have := (kinds_len e).1
    rw [List.length_nil] at hl
    omega
  | cons t r =>
    rcases hx with rfl | rfl | rfl | rfl | rfl
    · cases e
      have h : (isPlace t sz.l && _) = true := hz
      obtain ⟨i, rfl⟩ := place_int (Bool.and_eq_true_iff.mp h).1
      exact ⟨_, _, _, rfl, rfl, (fun z => by cases z)⟩
    · cases e
      have h : (isPlace t sz.l && _) = true := hz
      obtain ⟨i, rfl⟩ := place_int (Bool.and_eq_true_iff.mp h).1
      exact ⟨_, _, _, rfl, rfl, (fun z => by cases z)⟩
    · cases e
      have h : (isWord t && _) = true := hz
      obtain ⟨i, rfl⟩ := word_str (Bool.and_eq_true_iff.mp h).1
      exact ⟨_, _, _, rfl, rfl, rfl, isWord_ok (Bool.and_eq_true_iff.mp h).1⟩
    · cases e
      have h : (isPlace t sz.tb && _) = true := hz
      obtain ⟨i, rfl⟩ := place_int (Bool.and_eq_true_iff.mp h).1
      exact ⟨_, _, _, rfl, rfl, (fun z => by cases z)⟩
    · cases e
      have h : (isPlace t sz.ch && _) = true := hz
      obtain ⟨i, rfl⟩ := place_int (Bool.and_eq_true_iff.mp h).1
      exact ⟨_, _, _, rfl, rfl, (fun z => by cases z)⟩
/-- what an accepted rule is -/
theorem rule_of {sz : Sz} {n : Nat} {t : T} (h : isRule sz (n + 1) t = true) : ∃ x ts ks, t = .tup (.str x :: ts) ∧ kindsOf x = some ks ∧ ts.length = ks.length ∧ zipOk (partOk (isRule sz n) sz) ts ks = true := by
  have hf : hasForm t = true := by
    cases e : hasForm t with
    | true => rfl
    | false => rw [isRule_noform sz n e] at h; cases h
  obtain ⟨x, ts, ks, rfl, e, hl⟩ := form_of hf
  rw [isRule_form sz n e hl] at h
  exact ⟨x, ts, ks, rfl, e, hl, h⟩
theorem zipOk_at {f : Str → T → Bool} : ∀ {ts : List T} {ks : List Str} {i : Nat} {t : T} {k : Str}, zipOk f ts ks = true → ts[i]? = some t → ks[i]? = some k → f k t = true
  | [], _, i, _, _, _, h, _ => by simp at h
  | _ :: _, [], i, _, _, _, _, h => by simp at h
  | _ :: _, _ :: _, 0, _, _, hz, h, h2 => by cases (Option.some.inj h); cases (Option.some.inj h2); exact (Bool.and_eq_true_iff.mp hz).1
  | _ :: ts, _ :: ks, i + 1, t, k, hz, h, h2 => zipOk_at (i := i) (Bool.and_eq_true_iff.mp hz).2 h h2
theorem behs_kd {sz : Sz} {n : Nat} {wd : Str} {f : T → List Key} (ih : ∀ t, isRule sz n t = true → ∀ k ∈ f t, kd wd k) : ∀ (ts : List T) (ks : List Str), zipOk (partOk (isRule sz n) sz) ts ks = true → ∀ k ∈ behs f ts ks, kd wd k
  | [], _, _, _, h => by cases h
  | _ :: _, [], _, _, h => by cases h
  | t :: ts, k :: ks, hz, j, h => by
    have hz' : (partOk (isRule sz n) sz k t && zipOk (partOk (isRule sz n) sz) ts ks) = true := hz
    rw [Bool.and_eq_true] at hz'
    have h' : j ∈ (if k = "rule" then f t else []) ++ behs f ts ks := h
    rcases List.mem_append.mp h' with h2 | h2
    · by_cases e : k = "rule"
      · rw [if_pos e] at h2
        subst e
        exact ih t hz'.1 j h2
      · rw [if_neg e] at h2
        cases h2
    · exact behs_kd ih ts ks hz'.2 j h2
theorem beh_kd {sz : Sz} {wd : Str} (hw : wd ∈ five) : ∀ (n : Nat) (t : T), isRule sz n t = true → ∀ k ∈ beh wd n t, kd wd k
  | 0, _, _, _, h => by cases h
  | n + 1, t, ht, k, h => by
    obtain ⟨x, ts, ks, rfl, e, hl, hz⟩ := rule_of ht
    rw [beh_at] at h
    rcases List.mem_append.mp h with h2 | h2
    · by_cases e2 : x = wd
      · rw [if_pos e2] at h2
        subst e2
        obtain ⟨t, r, j, rfl, ej, hj⟩ := head_key hw e hl hz
        have h3 : k ∈ keyT t := h2
        rw [ej, List.mem_singleton] at h3
        subst h3
        exact hj
      · rw [if_neg e2] at h2
        cases h2
    · rw [show kindsD x = ks by unfold kindsD; rw [e]] at h2
      exact behs_kd (beh_kd hw n) ts ks hz k h2
theorem hom_kd {wd : Str} : ∀ {ks : List Key}, (∀ k ∈ ks, kd wd k) → hom ks := by
  intro ks h
  by_cases e : wd = "paper"
  · refine .inr ?_
    induction ks with
    | nil => exact ⟨[], rfl⟩
    | cons k ks ih =>
      obtain ⟨xs, rfl⟩ := ih fun k hk => h k (List.mem_cons_of_mem _ hk)
      cases k with
      | inl i => exact absurd e (h _ List.mem_cons_self)
      | inr x => exact ⟨x :: xs, rfl⟩
  · refine .inl ?_
    induction ks with
    | nil => exact ⟨[], rfl⟩
    | cons k ks ih =>
      obtain ⟨xs, rfl⟩ := ih fun k hk => h k (List.mem_cons_of_mem _ hk)
      cases k with
      | inl i => exact ⟨i :: xs, rfl⟩
      | inr x => exact absurd (h _ List.mem_cons_self).1 e
theorem ok_kd {wd : Str} {ks : List Key} (h : ∀ k ∈ ks, kd wd k) : ∀ k ∈ ks, okK k = true := by
  intro k hk
  have := h k hk
  cases k with
  | inl i => rfl
  | inr x => exact this.2
end
end K2
open PySem PySem.Spec PyProof.Rows L2 Qa


namespace K2
section
variable {P : Program} {w : World} {K : PySem.W.Frag} {mg : Str → Option Value} {base : Heap} {H : Hp} {Q : VK} {E : XK}
theorem behs_drop (f : T → List Key) : ∀ (ts : List T) (ks : List Str) (i : Nat) (t : T) (k : Str), ts[i]? = some t → ks[i]? = some k → behs f (ts.drop i) (ks.drop i) = (if k = "rule" then f t else []) ++ behs f (ts.drop (i + 1)) (ks.drop (i + 1))
  | [], _, i, _, _, h, _ => by simp at h
  | _ :: _, [], i, _, _, _, h => by simp at h
  | _ :: _, _ :: _, 0, _, _, h, h2 => by cases (Option.some.inj h); cases (Option.some.inj h2); rfl
  | _ :: ts, _ :: ks, i + 1, t, k, h, h2 => behs_drop f ts ks i t k h h2
theorem behs_end (f : T → List Key) (ts : List T) (ks : List Str) (i : Nat) (h : ts.length ≤ i) : behs f (ts.drop i) (ks.drop i) = [] := by
  rw [List.drop_eq_nil_of_le h]
  cases ks.drop i <;> rfl
theorem keyT_tv {v : V} {t : T} {k : Key} (h : Tv K H v t) (e : keyT t = [k]) : v = kV k := by
  cases h with
  | int i => cases e; rfl
  | str x _ => cases e; rfl
  | _ => cases e
def spBeh (K : PySem.W.Frag) (n : Nat) : Sp := sp2 fun a b H Q => ∃ t sz x, Tv K H a t ∧ b = .str x ∧ x ∈ five ∧ isRule sz n t = true ∧ n ≤ 8 ∧ ∀ p H', H p = none → Ex H H' → H' p = some (.lst ((beh x n t).map kV)) → Q (.ref p) H'
theorem k_beh {n m : Nat} (T : Tx K w mg) (c__behind : Cal P w K mg base "_behind" m p_behind (spBeh K n)) : Cal P w K mg base "_behind" (m + 1) p_behind (spBeh K (n + 1)) := by
  refine cal2 T.F__behind sc_behind b_behind rfl fun g cdv A outer s H a b Q E hr h => ?_
  obtain ⟨t, sz, wd, ht, rfl, hx, hrule, hn, q⟩ := h
  obtain ⟨dP, h_PARTS, tP⟩ := T.g_PARTS
  refine ⟨_, (pss_cons (ps_set (i := 2) (sc_behind).nd rfl (by first | exact Or.inl rfl | exact Or.inr rfl) (pe_lst pa_nil)) (Evl.pss_cut (ps_if (pt_cmpR (op_eqA hr) (pe_ix ix_seq (pv 0) pe_int (fun _ _ => rfl)) (pv 1) (nomark _)) (pss_one (ps_expr (pe_bm PySem.F.plainAttrs_list PySem.F.slot_list_append PySem.F.type_list_append mt_append (pv 2) (pa_cons (pe_ix ix_seq (pv 0) pe_int (fun _ _ => rfl)) pa_nil)))) pss_nil) (pss_cons (ps_for PassesOwn.never rfl (RZ.pi_zipA (by rfl) T.m_zip (pa_cons (pe_slice sl_any (pv 0) (po_some pe_int) po_none) (pa_cons (pe_ix ix_kdict (pe_gtab h_PARTS) (pe_ix ix_seq (pv 0) pe_int (fun _ _ => rfl)) (fun _ _ => rfl)) pa_nil))) (pg_tup (n := 2) rfl (pgs_cons (pg_name (i := 3) (sc_behind).nd rfl (by first | exact Or.inl rfl | exact Or.inr rfl)) (pgs_cons (pg_name (i := 4) (sc_behind).nd rfl (by first | exact Or.inl rfl | exact Or.inr rfl)) pgs_nil))) (pss_one (ps_if (pt_cmpR (op_eqA hr) (pv 4) pe_str (nomark _)) (pss_one (ps_expr (pe_bm PySem.F.plainAttrs_list PySem.F.slot_list_extend PySem.F.type_list_extend mt_extend (pv 2) (pa_cons (pe_cal c__behind (hr.mono (by omega)) (pa_cons (pv 3) (pa_cons (pv 1) pa_nil))) pa_nil)))) pss_nil))) (pss_one (ps_ret (pv 2)))))), ?_⟩
  rw [t_behind]
  try dsimp only [cxOf, Cx.nox, Cx.wish]
  obtain ⟨x, ts, ks, rfl, e, hl, hz⟩ := rule_of hrule
  have ekd : kindsD x = ks := by unfold kindsD; rw [e]
  have bl : (beh wd (n + 1) (.tup (.str x :: ts))).length ≤ 3280 := Nat.le_trans (beh_len wd (n + 1) _) (Nat.le_trans (B_mono hn) (by decide))
  rw [beh_at, ekd] at q bl
  obtain ⟨p, xs, rfl, hs, ha⟩ := ht.tupE
  walk_at "rd"
  refine new_lst fun f H1 hf E1 h1 => ?_
  walk_at "rd"
  refine rd_cut (fun σ H' => σ = [some (.ref p), some (.str wd), some (.ref f), none, none] ∧ Ex H H' ∧ H' f = some (.lst ((if x = wd then headK ts else []).map kV))) ?_ ?_
  · walk_at "rd"
    refine rd_ixD (n := 0) (tv_ex ht E1) rfl rfl fun v hv => ?_
    cases hv
    walk_at "rd"
    refine rd_ite (fun h2 => ?_) (fun h2 => ?_)
    · subst h2
      obtain ⟨t1, r, k, rfl, ek, _⟩ := head_key hx e hl hz
      walk_at "rd"
      refine rd_ixD (n := 1) (tv_ex ht E1) rfl rfl fun v hv => ?_
      rw [keyT_tv hv ek]
      walk_at "rd"
      refine rd_append h1 (by decide) ?_
      walk_at "rd"
      refine ⟨rfl, ex_new hf E1, ?_⟩
      rw [upd_same, if_pos rfl]
      show _ = some (HO.lst ((keyT t1).map kV))
      rw [ek]
      rfl
    · walk_at "rd"
      refine ⟨rfl, E1, ?_⟩
      rw [if_neg h2]
      exact h1
  rintro σ H2 ⟨rfl, E2, h2⟩
  walk_at "rd"
  refine rd_slT (sqt_ex hs E2) fun r H3 E3 hr3 => ?_
  rw [cutV_tail] at hr3
  walk_at "rd"
  refine rd_ixD (n := 0) (tv_ex (tv_ex ht E2) E3) rfl rfl fun v hv => ?_
  cases hv
  walk_at "rd"
  refine rd_ixTab tP e fun r2 hr2 => ?_
  walk_at "rd"
  refine rd_fzT hr3 hr2 ?_
  have ha' : TvA K H (xs.drop 1) ts := ha.drop 1
  have lx : (xs.drop 1).length = ts.length := ha'.len
  have E03 : Ex H H3 := E2.trans E3
  refine forW_Z (xs.drop 1) (ks.map V.str) (n := ts.length) (by rw [List.length_map, lx]; omega) (fun i σ H' => (∃ y z, σ = [some (.ref p), some (.str wd), some (.ref f), y, z]) ∧ Ex H H' ∧ SqT K H' r (xs.drop 1) ∧ SqT K H' r2 (ks.map V.str) ∧ ∃ acc, H' f = some (.lst (acc.map kV)) ∧ acc ++ behs (beh wd n) (ts.drop i) (ks.drop i) = (if x = wd then headK ts else []) ++ behs (beh wd n) ts ks) ?_ ?_ ?_ ?_
  · exact ⟨⟨_, _, rfl⟩, E03, hr3, hr2, _, lst_ex h2 E3, rfl⟩
  · rintro i σ H' hi ⟨_, _, a, b, _⟩
    exact ⟨a, b⟩
  · rintro i y z c σ H4 H5 hi ⟨⟨y0, z0, rfl⟩, E4, sr, sr2, acc, hacc, eacc⟩ hy hzz hc e5 hcT
    have a5 : TvA K H5 (xs.drop 1) ts := tva_ex (tva_ex ha' E4) e5
    obtain ⟨ty, hty, vy⟩ := a5.getV hy
    rw [List.getElem?_map] at hzz
    cases ek : ks[i]? with
    | none => rw [ek] at hzz; cases hzz
    | some k =>
      rw [ek] at hzz
      cases (Option.some.inj hzz)
      refine rd_gtup (SqT.of hcT) rfl ?_
      walk_at "rd"
      have ed := behs_drop (beh wd n) ts ks i ty k hty ek
      rw [ed] at eacc
      refine rd_ite (fun h6 => ?_) (fun h6 => ?_)
      · subst h6
        rw [if_pos rfl] at eacc
        have hacc5 : H5 f = _ := lst_ex hacc e5
        walk_at "rd"
        have hrt : isRule sz n ty = true := zipOk_at hz hty ek
        refine rd_sp2 ⟨ty, sz, wd, vy, rfl, hx, hrt, by omega, fun p6 H6 hp6 E6 h6 => ?_⟩
        walk_at "rd"
        have la : acc.length + (beh wd n ty).length ≤ 3280 := by
          have := congrArg List.length eacc
          rw [List.length_append, List.length_append] at this
          omega
        refine rd_extend (lst_ex hacc5 E6) h6 (by rw [List.length_map, List.length_map]; omega) ?_
        walk_at "rd"
        refine ⟨⟨_, _, rfl⟩, ex_new hf ((E4.trans e5).trans E6), ?_, ?_, acc ++ beh wd n ty, by rw [upd_same, List.map_append], by rw [List.append_assoc]; exact eacc⟩
        · exact (Tame.upd (lst_ex hacc5 E6)).sqT (sqt_ex (sqt_ex sr e5) E6)
        · exact (Tame.upd (lst_ex hacc5 E6)).sqT (sqt_ex (sqt_ex sr2 e5) E6)
      · rw [if_neg h6, List.nil_append] at eacc
        walk_at "rd"
        exact ⟨⟨_, _, rfl⟩, E4.trans e5, sqt_ex sr e5, sqt_ex sr2 e5, acc, lst_ex hacc e5, eacc⟩
  · rintro σ H' ⟨⟨y, z, rfl⟩, E4, _, _, acc, hacc, eacc⟩
    walk_at "rd"
    rw [behs_end _ _ _ _ (Nat.le_refl _), List.append_nil] at eacc
    rw [← eacc] at q
    exact q f H' hf E4 hacc
theorem k_behn (T : Tx K w mg) : ∀ n : Nat, Cal P w K mg base "_behind" (1 + n) p_behind (spBeh K n)
  | 0 => cal_mk (k := 0) T.F__behind sc_behind b_behind (fun vs H Q E h => by obtain ⟨a, b, rfl, _⟩ := h; rfl) fun _ _ _ _ _ _ vs Q E _ h => by
      obtain ⟨a, b, rfl, t, sz, x, _, _, _, hr, _⟩ := h
      cases hr
  | n + 1 => k_beh T (k_behn T n)
/-- the same keys, each once, in order -/
def keysOf (ks : List Key) (ls : List Key) : Prop := srt ls ∧ ls.Nodup ∧ ∀ k, k ∈ ls ↔ k ∈ ks
theorem keysOf_uniq {ks ls ms : List Key} (a : keysOf ks ls) (b : keysOf ks ms) : ls = ms := by
  refine srt_uniq ((List.perm_ext_iff_of_nodup a.2.1 b.2.1).mpr fun k => (a.2.2 k).trans (b.2.2 k).symm) a.1 b.1
theorem addK_nodup {ks : List Key} (k : Key) (h : ks.Nodup) : (Qs.addK ks k).Nodup := by
  unfold Qs.addK
  split
  · exact h
  · next e => exact List.nodup_cons.mpr ⟨fun z => e (Qs.any_mem.mpr z), h⟩
theorem foldl_nodup : ∀ (xs ks : List Key), ks.Nodup → (xs.foldl Qs.addK ks).Nodup
  | [], _, h => h
  | x :: xs, ks, h => foldl_nodup xs (Qs.addK ks x) (addK_nodup x h)
def spNamed (K : PySem.W.Frag) : Sp := sp2 fun a b H Q => ∃ t sz x, Tv K H a t ∧ b = .str x ∧ x ∈ five ∧ isRule sz 8 t = true ∧ ∀ p H' ls, keysOf (beh x 8 t) ls → H p = none → Ex H H' → H' p = some (.lst (ls.map kV)) → Q (.ref p) H'
theorem k_named (T : Tx K w mg) (c__behind : Cal P w K mg base "_behind" 9 p_behind (spBeh K 8)) : Cal P w K mg base "named" 10 pnamed (spNamed K) := by
  refine cal2 T.F_named scnamed bnamed rfl fun g cdv A outer s H a b Q E hr h => ?_
  obtain ⟨t, sz, wd, ht, rfl, hx, hrule, q⟩ := h
  refine ⟨_, (pss_one (ps_ret (pe_callB (cr_sortedA rfl) (by rfl) T.m_sorted (by decide +kernel) (pa_cons (pe_callTy (Qs.cr_setL rfl) (by rfl) T.m_set (by decide +kernel) (pa_cons (pe_cal c__behind (hr.mono (by omega)) (pa_cons (pv 0) (pa_cons (pv 1) pa_nil))) pa_nil)) pa_nil)))), ?_⟩
  rw [tnamed]
  try dsimp only [cxOf, Cx.nox, Cx.wish]
  walk_at "rd"
  refine rd_sp2 ⟨t, sz, wd, ht, rfl, hx, hrule, by omega, fun p H1 hp E1 h1 => ?_⟩
  walk_at "rd"
  have bl : (beh wd 8 t).length ≤ 3280 := Nat.le_trans (beh_len wd 8 t) (by decide)
  refine rd_setK (.of h1) (by omega) fun p2 H2 hp2 E2 h2 => ?_
  walk_at "rd"
  have hk : ∀ k ∈ Qs.foldK (beh wd 8 t), kd wd k := fun k hk => beh_kd hx 8 t hrule k (Qs.mem_foldK.mp hk)
  refine rd_sortSetK h2 (hom_kd hk) fun ks' p3 H3 pm sr hp3 E3 h3 => ?_
  have E13 := (E1.trans E2).trans E3
  refine q p3 H3 ks' ⟨sr, pm.nodup_iff.mpr (foldl_nodup _ [] .nil), fun k => (pm.mem_iff).trans Qs.mem_foldK⟩ ?_ E13 h3
  cases e : H p3 with
  | none => rfl
  | some o =>
    have := (E1.trans E2) p3 o e
    rw [hp3] at this
    cases this
end
end K2
open PySem PySem.Spec PyProof.Rows L2 Qa


namespace K2
section
variable {P : Program} {w : World} {K : PySem.W.Frag} {mg : Str → Option Value} {base : Heap} {H : Hp} {Q : VK} {E : XK}
theorem rd_addLb {a b : Addr} {xs ys : List V} (ha : H a = some (.lst xs)) (hb : H b = some (.lst ys)) (hl : xs.length + ys.length ≤ 4000) (q : ∀ p H', H p = none → Ex H H' → H' p = some (.lst (xs ++ ys)) → Q (.ref p) H') : rAddA K (.ref a) (.ref b) H Q :=
  .inr (.inr ⟨a, b, xs, ys, rfl, rfl, ha, hb, by rw [sizeLine_eq]; omega, fun p hp => q p _ hp (Evl.Ex.new hp) upd_same⟩)
theorem part_tup {sz : Sz} {n : Nat} {k : Str} {t : T} (hk : k ∈ kinds) (h : partOk (isRule sz n) sz k t = true) : isTup t = decide (k = "rule") := by
  have tup : isRule sz n t = true → isTup t = true := by
    intro z
    cases n with
    | zero => cases z
    | succ n =>
      obtain ⟨x, ts, ks, rfl, _⟩ := rule_of z
      rfl
  have int : ∀ {c : Int}, isPlace t c = true → isTup t = false := by
    intro c z
    obtain ⟨i, rfl⟩ := place_int z
    rfl
  simp only [kinds, List.mem_cons, List.not_mem_nil, or_false] at hk
  rcases hk with rfl | rfl | rfl | rfl | rfl | rfl | rfl
  · have h' : isNum t = true := h
    cases t with
    | tup _ => cases h'
    | _ => rfl
  · have h' : isWord t = true := h
    obtain ⟨x, rfl⟩ := word_str h'
    rfl
  · exact int (c := sz.l) h
  · exact tup h
  · have h' : isPct t = true := h
    cases t with
    | tup _ => cases h'
    | _ => rfl
  · exact int (c := sz.tb) h
  · exact int (c := sz.ch) h
def spLN (K : PySem.W.Frag) (n : Nat) : Sp := sp2 fun a b H Q => ∃ t sz x, Tv K H a t ∧ b = .str x ∧ x ∈ five ∧ isRule sz n t = true ∧ n ≤ 8 ∧ ∀ p H' ls, keysOf (beh x n t) ls → ls.length ≤ (beh x n t).length → H p = none → Ex H H' → H' p = some (.lst (ls.map kV)) → Q (.ref p) H'
theorem k_lnamed {n m : Nat} (T : Tx K w mg) (c__law_named : Cal P w K mg base "_law_named" m p_law_named (spLN K n)) : Cal P w K mg base "_law_named" (m + 1) p_law_named (spLN K (n + 1)) := by
  refine cal2 T.F__law_named sc_law_named b_law_named rfl fun g cdv A outer s H a b Q E hr h => ?_
  obtain ⟨t, sz, wd, ht, rfl, hx, hrule, hn, q⟩ := h
  refine ⟨_, (pss_cons (ps_set (i := 2) (sc_law_named).nd rfl (by first | exact Or.inl rfl | exact Or.inr rfl) (pe_lst pa_nil)) (Evl.pss_cut (ps_if (pt_cmpR (op_eqA hr) (pe_ix ix_seq (pv 0) pe_int (fun _ _ => rfl)) (pv 1) (nomark _)) (pss_one (ps_expr (pe_bm PySem.F.plainAttrs_list PySem.F.slot_list_append PySem.F.type_list_append mt_append (pv 2) (pa_cons (pe_ix ix_seq (pv 0) pe_int (fun _ _ => rfl)) pa_nil)))) pss_nil) (pss_cons (ps_for PassesOwn.never rfl (pi_seq (pe_slice sl_any (pv 0) (po_some pe_int) po_none)) (pg_name (i := 3) (sc_law_named).nd rfl (by first | exact Or.inl rfl | exact Or.inr rfl)) (pss_one (ps_if (pt_tru (pe_callB call_isi (by rfl) T.m_isinstance (by decide +kernel) (pa_cons (pv 3) (pa_cons (pe_ty (n := "tuple") T.m_tuple (by decide +kernel)) pa_nil)))) (pss_one (ps_set (i := 2) (sc_law_named).nd rfl (by first | exact Or.inl rfl | exact Or.inr rfl) (pe_op op_addA (pv 2) (pe_lc (own := [("_law_more", 4)]) rfl (sc_law_named).nd (pi_seq (pe_cal c__law_named (hr.mono (by omega)) (pa_cons (pv 3) (pa_cons (pv 1) pa_nil)))) (blkOk_by (N := n_law_named) (sc := defScope s_law_named) (by decide +kernel)) (fun _ _ _ _ _ => (pg_name (i := 4) (sc_law_named).nd rfl (by first | exact Or.inl rfl | exact Or.inr rfl))) (fun _ _ _ _ _ => (pts_one (pt_cmpR (notInK (K := K) rfl) (pv 4) (pv 2) (by rfl)))) (fun _ _ _ _ _ => (pv 4)))))) pss_nil))) (pss_one (ps_ret (pe_callB (cr_sortedA rfl) (by rfl) T.m_sorted (by decide +kernel) (pa_cons (pv 2) pa_nil))))))), ?_⟩
  rw [t_law_named]
  try dsimp only [cxOf, Cx.nox, Cx.wish]
  have hkd := beh_kd hx (n + 1) t hrule
  obtain ⟨x, ts, ks, rfl, e, hl, hz⟩ := rule_of hrule
  have ekd : kindsD x = ks := by unfold kindsD; rw [e]
  have bl : (beh wd (n + 1) (.tup (.str x :: ts))).length ≤ 3280 := Nat.le_trans (beh_len wd (n + 1) _) (Nat.le_trans (B_mono hn) (by decide))
  rw [beh_at, ekd] at q bl hkd
  obtain ⟨p, xs, rfl, hs, ha⟩ := ht.tupE
  walk_at "rd"
  refine new_lst fun f H1 hf E1 h1 => ?_
  walk_at "rd"
  refine rd_cut (fun σ H' => ∃ acc : List Key, σ = [some (.ref p), some (.str wd), some (.ref f), none, none] ∧ Ex H H' ∧ H' f = some (.lst (acc.map kV)) ∧ acc = (if x = wd then headK ts else [])) ?_ ?_
  · walk_at "rd"
    refine rd_ixD (n := 0) (tv_ex ht E1) rfl rfl fun v hv => ?_
    cases hv
    walk_at "rd"
    refine rd_ite (fun h2 => ?_) (fun h2 => ?_)
    · subst h2
      obtain ⟨t1, r, k, rfl, ek, _⟩ := head_key hx e hl hz
      walk_at "rd"
      refine rd_ixD (n := 1) (tv_ex ht E1) rfl rfl fun v hv => ?_
      rw [keyT_tv hv ek]
      walk_at "rd"
      refine rd_append h1 (by decide) ?_
      walk_at "rd"
      refine ⟨_, rfl, ex_new hf E1, ?_, rfl⟩
      rw [upd_same, if_pos rfl]
      show _ = some (HO.lst ((keyT t1).map kV))
      rw [ek]
      rfl
    · walk_at "rd"
      refine ⟨[], rfl, E1, h1, ?_⟩
      rw [if_neg h2]
  rintro σ H2 ⟨acc0, rfl, E2, h2, eacc0⟩
  have nd0 : acc0.Nodup := by
    have l1 : acc0.length ≤ 1 := by
      rw [eacc0]
      split
      · exact headK_len ts
      · exact Nat.zero_le _
    match acc0, l1 with
    | [], _ => exact .nil
    | [a], _ => simp
  rw [← eacc0] at q bl hkd
  walk_at "rd"
  refine rd_slT (sqt_ex hs E2) fun r H3 E3 hr3 => ?_
  rw [cutV_tail] at hr3
  walk_at "rd"
  have ha' : TvA K H (xs.drop 1) ts := ha.drop 1
  have lx : (xs.drop 1).length = ts.length := ha'.len
  have E03 : Ex H H3 := E2.trans E3
  refine forW_T (xs.drop 1) (fun i σ H' => ∃ (f' : Addr) (y z : Option V) (acc : List Key), σ = [some (.ref p), some (.str wd), some (.ref f'), y, z] ∧ Ex H H' ∧ SqT K H' r (xs.drop 1) ∧ H' f' = some (.lst (acc.map kV)) ∧ acc.Nodup ∧ acc.length + (behs (beh wd n) (ts.drop i) (ks.drop i)).length ≤ (acc0 ++ behs (beh wd n) ts ks).length ∧
    ∀ k, (k ∈ acc ∨ k ∈ behs (beh wd n) (ts.drop i) (ks.drop i)) ↔ k ∈ acc0 ++ behs (beh wd n) ts ks) ?_ ?_ ?_ ?_
  · exact ⟨f, _, _, acc0, rfl, E03, hr3, lst_ex h2 E3, nd0, by rw [List.length_append]; exact Nat.le_refl _, fun k => List.mem_append.symm⟩
  · rintro i σ H' hi ⟨f', y, z, acc, _, _, a, _⟩
    exact a
  · rintro i v σ H4 hv ⟨f', y, z, acc, rfl, E4, sr, hacc, nd, lacc, mem⟩
    obtain ⟨ty, hty, vy⟩ := (tva_ex ha' E4).getV hv
    walk_at "rd"
    obtain ⟨k, ek⟩ : ∃ k, ks[i]? = some k := by
      have : i < ts.length := (List.getElem?_eq_some_iff.mp hty).1
      exact ⟨ks[i]'(by omega), List.getElem?_eq_getElem (by omega)⟩
    have hpk := zipOk_at hz hty ek
    have ed := behs_drop (beh wd n) ts ks i ty k hty ek
    rw [part_tup (kinds_of e k (List.mem_of_getElem? ek)) hpk]
    refine rd_ite (fun h6 => ?_) (fun h6 => ?_)
    · subst h6
      rw [if_pos rfl] at ed
      rw [ed] at mem lacc
      rw [List.length_append] at lacc
      walk_at "rd"
      have hrt : isRule sz n ty = true := hpk
      refine rd_sp2 ⟨ty, sz, wd, vy, rfl, hx, hrt, by omega, fun p5 H5 ls hls lls hp5 E5 h5 => ?_⟩
      walk_at "rd"
      have hacc5 : H5 f' = _ := lst_ex hacc E5
      refine lcW_L (ls.map kV) (fun D j H' => ∃ new : List Key, H' D = some (.lst (new.map kV)) ∧ new.length ≤ j ∧ new.Nodup ∧ (∀ k, k ∈ new ↔ k ∈ ls.take j ∧ k ∉ acc) ∧ Ex H5 H') ?_ ?_ ?_ ?_
      · exact fun D H' hD e h => ⟨[], h, Nat.le_refl _, .nil, by simp, e⟩
      · rintro D j H' hD hj ⟨new, hnew, _, _, _, e⟩
        exact sql_ex (.of h5) e
      · rintro D j u H6 hD hu ⟨new, hnew, lnew, ndn, memn, E6⟩
        rw [List.getElem?_map] at hu
        cases eu : ls[j]? with
        | none => rw [eu] at hu; cases hu
        | some k =>
          rw [eu] at hu
          cases (Option.some.inj hu)
          have hj : j < ls.length := (List.getElem?_eq_some_iff.mp eu).1
          have et : ls.take (j + 1) = ls.take j ++ [k] := by rw [List.take_add_one, eu]; rfl
          have nin : k ∉ ls.take j := by
            intro z
            have nd2 : (ls.take (j + 1)).Nodup := hls.2.1.sublist (List.take_sublist _ _)
            rw [et] at nd2
            exact (List.nodup_append.mp nd2).2.2 k z k (by simp) rfl
          walk_at "lcn"
          walk_at "rd"
          refine rd_outK (.of (lst_ex hacc5 E6)) ?_
          walk_at "rd"
          cases em : memK k acc with
          | true =>
            walk_at "rd"
            refine ⟨new, hnew, by omega, ndn, fun k' => ?_, E6⟩
            rw [memn, et, List.mem_append]
            refine ⟨fun z => ⟨.inl z.1, z.2⟩, fun z => ?_⟩
            rcases z with ⟨z | z, z2⟩
            · exact ⟨z, z2⟩
            · cases List.mem_singleton.mp z
              exact absurd (memK_iff.mp em) z2
          | false =>
            have nacc : k ∉ acc := fun z => by rw [memK_iff.mpr z] at em; cases em
            walk_at "rd"
            refine ⟨_, hnew, by rw [List.length_map, sizeLine_eq]; omega, ?_⟩
            refine ⟨new ++ [k], by rw [upd_same, List.map_append]; rfl, by rw [List.length_append]; simp; omega, ?_, fun k' => ?_, ex_new hD E6⟩
            · rw [List.nodup_append]
              refine ⟨ndn, by simp, fun a ha b hb => ?_⟩
              cases List.mem_singleton.mp hb
              rintro rfl
              exact nin ((memn a).mp ha).1
            · rw [List.mem_append, memn, et, List.mem_append, List.mem_singleton]
              refine ⟨fun z => ?_, fun z => ?_⟩
              · rcases z with z | rfl
                · exact ⟨.inl z.1, z.2⟩
                · exact ⟨.inr rfl, nacc⟩
              · rcases z with ⟨z | z, z2⟩
                · exact .inl ⟨z, z2⟩
                · exact .inr z
      · rintro D H6 hD ⟨new, hnew, lnew, ndn, memn, E6⟩
        walk_at "rd"
        rw [List.length_map] at lnew
        rw [List.length_map, List.take_length] at memn
        refine rd_addLb (lst_ex hacc5 E6) hnew (by rw [List.length_map, List.length_map]; omega) fun p7 H7 hp7 E7 h7 => ?_
        walk_at "rd"
        have E47 := (E5.trans E6).trans E7
        refine ⟨p7, _, _, acc ++ new, rfl, E4.trans E47, sqt_ex sr E47, by rw [h7, List.map_append], ?_, by rw [List.length_append]; omega, fun k => ?_⟩
        · rw [List.nodup_append]
          refine ⟨nd, ndn, fun a ha b hb => ?_⟩
          rintro rfl
          exact ((memn a).mp hb).2 ha
        · rw [← mem k, List.mem_append, List.mem_append, memn, hls.2.2 k]
          by_cases z : k ∈ acc <;> simp [z]
    · rw [if_neg h6, List.nil_append] at ed
      walk_at "rd"
      rw [ed] at mem lacc
      exact ⟨f', _, _, acc, rfl, E4, sr, hacc, nd, lacc, mem⟩
  · rintro σ H4 ⟨f', y, z, acc, rfl, E4, _, hacc, nd, lacc, mem⟩
    walk_at "rd"
    rw [lx, behs_end _ _ _ _ (Nat.le_refl _)] at mem lacc
    have mem' : ∀ k, k ∈ acc ↔ k ∈ acc0 ++ behs (beh wd n) ts ks := fun k => by rw [← mem k]; simp
    have hk : ∀ k ∈ acc, kd wd k := fun k hk => hkd k ((mem' k).mp hk)
    refine rd_sortK (.of hacc) (hom_kd hk) fun ks' p5 H5 pm sr hp5 E5 h5 => ?_
    refine q p5 H5 ks' ⟨sr, pm.nodup_iff.mpr nd, fun k => (pm.mem_iff).trans (mem' k)⟩ (by rw [pm.length_eq]; exact lacc) ?_ (E4.trans E5) h5
    cases e : H p5 with
    | none => rfl
    | some o =>
      have := E4 p5 o e
      rw [hp5] at this
      cases this
theorem k_lnamedn (T : Tx K w mg) : ∀ n : Nat, Cal P w K mg base "_law_named" (1 + n) p_law_named (spLN K n)
  | 0 => cal_mk (k := 0) T.F__law_named sc_law_named b_law_named (fun vs H Q E h => by obtain ⟨a, b, rfl, _⟩ := h; rfl) fun _ _ _ _ _ _ vs Q E _ h => by
      obtain ⟨a, b, rfl, t, sz, x, _, _, _, hr, _⟩ := h
      cases hr
  | n + 1 => k_lnamed T (k_lnamedn T n)
end
end K2
open PySem PySem.Spec PyProof.Rows L2 Qa


namespace K2
section
variable {P : Program} {w : World} {K : PySem.W.Frag} {mg : Str → Option Value} {base : Heap} {H : Hp} {Q : VK} {E : XK}
theorem rgV_ints (n : Int) : ∃ ns : List Int, rgV 0 n = ns.map V.int ∧ ns.length = n.toNat :=
  ⟨(List.range (n - 0).toNat).map fun i => 0 + ((i : Nat) : Int), by unfold rgV; rw [List.map_map]; rfl, by rw [List.length_map, List.length_range]; omega⟩
theorem rd_lstRg {σ : L2.St} {te : L2.St → Hp → (Int → Int → Hp → Prop) → Prop} (q : te σ H fun a b H1 => RgOk a b ∧ ∀ q, H1 q = none → Q (.ref q) (upd H1 q (.lst (rgV a b)))) : tLstRg te σ H Q := q
theorem rd_rg1 {σ : L2.St} {ta : TE} {R : Int → Int → Hp → Prop} (q : ta σ H fun x H1 => ∃ n, x = .int n ∧ R 0 n H1) : tRg1 ta σ H R := q
theorem rd_rg1I {n : Int} {R : Int → Prop} (q : R n) : ∃ m, V.int n = .int m ∧ R m := ⟨n, rfl, q⟩
def spLaw (K : PySem.W.Frag) : Sp := sp1 fun a H Q => ∃ (l : Addr) (ns : List Int), a = .ref l ∧ SqL K H l (ns.map V.int) ∧ ∀ H', Q (.bl true) H'
theorem k_law (T : Tx K w mg) (c__law_mixed : Cal P w K mg base "_law_mixed" 1 p_law_mixed (spMixed K)) (c__law_cell_at : Cal P w K mg base "_law_cell_at" 1 p_law_cell_at (spCell K)) (c__law_next : Cal P w K mg base "_law_next" 1 p_law_next (spNext K))
    (c__law_words : Cal P w K mg base "_law_words" 2 p_law_words (spWords K)) (c__law_rule : Cal P w K mg base "_law_rule" 11 p_law_rule (spRule K 7)) (c__law_put_in : Cal P w K mg base "_law_put_in" 9 p_law_put_in (spPut K 8)) (c__law_odd : Cal P w K mg base "_law_odd" 2 p_law_odd (spOdd K))
    (c__law_is : Cal P w K mg base "_law_is" 10 p_law_is (spLawIs K 8)) (c_is_rule : Cal P w K mg base "is_rule" 20 pis_rule (spIsRule K)) (c_named : Cal P w K mg base "named" 10 pnamed (spNamed K)) (c__law_named : Cal P w K mg base "_law_named" 9 p_law_named (spLN K 8)) :
    Cal P w K mg base "law" 21 plaw (spLaw K) := by
  refine cal1 T.F_law sclaw blaw rfl fun g cdv A outer s H a Q E hr h => ?_
  obtain ⟨l, ns, rfl, hl, q⟩ := h
  refine ⟨_, (pss_cons (ps_set (i := 1) (sclaw).nd rfl (by first | exact Or.inl rfl | exact Or.inr rfl) (pe_lst (pa_cons (pe_cal c__law_mixed (hr.mono (by omega)) (pa_cons (pe_cal c__law_cell_at (hr.mono (by omega)) (pa_cons (pv 0) (pa_cons pe_int pa_nil))) (pa_cons pe_int pa_nil))) pa_nil))) (pss_cons (ps_set (i := 2) (sclaw).nd rfl (by first | exact Or.inl rfl | exact Or.inr rfl) (pe_cal c__law_mixed (hr.mono (by omega)) (pa_cons (pe_cal c__law_cell_at (hr.mono (by omega)) (pa_cons (pv 0) (pa_cons pe_int pa_nil))) (pa_cons pe_int pa_nil)))) (pss_cons (ps_set (i := 3) (sclaw).nd rfl (by first | exact Or.inl rfl | exact Or.inr rfl) (pe_tup (pa_cons (pe_op op_addA pe_int (pe_op op_mod (pv 2) pe_int)) (pa_cons (pe_op op_mod (pe_op op_fdiv (pv 2) pe_int) pe_int) (pa_cons (pe_op op_mod (pe_op op_fdiv (pv 2) pe_int) pe_int) pa_nil))))) (pss_cons (ps_set (i := 4) (sclaw).nd rfl (by first | exact Or.inl rfl | exact Or.inr rfl) (pe_cal c__law_words (hr.mono (by omega)) (pa_cons (pv 1) pa_nil))) (pss_cons (ps_set (i := 5) (sclaw).nd rfl (by first | exact Or.inl rfl | exact Or.inr rfl) (pe_cal c__law_rule (hr.mono (by omega)) (pa_cons (pv 1) (pa_cons (pe_op op_addA pe_int (pe_op op_mod (pe_op op_fdiv (pv 2) pe_int) pe_int)) (pa_cons (pe_listRg rfl (by rfl) T.m_list (prg_1 (by rfl) T.m_range (pe_ix ix_seq (pv 3) pe_int (fun _ _ => rfl)))) (pa_cons (pv 3) (pa_cons (pv 4) pa_nil))))))) (Evl.pss_cut (ps_if (pt_cmpR (op_eqA hr) (pe_op op_mod (pe_op op_fdiv (pv 2) pe_int) pe_int) pe_int (nomark _)) (pss_one (ps_set (i := 5) (sclaw).nd rfl (by first | exact Or.inl rfl | exact Or.inr rfl) (pe_cal c__law_put_in (hr.mono (by omega)) (pa_cons (pv 1) (pa_cons (pv 5) (pa_cons (pe_cal c__law_odd (hr.mono (by omega)) (pa_cons (pv 1) (pa_cons (pv 5) (pa_cons (pv 3) pa_nil)))) pa_nil)))))) pss_nil) (Evl.pss_cut (ps_if (pt_cmpR (op_eqA hr) (pe_op op_mod (pe_op op_fdiv (pv 2) pe_int) pe_int) pe_int (nomark _)) (pss_one (ps_for PassesOwn.never rfl (pi_range1 (by rfl) T.m_range (pa_cons (pe_ix ix_seq (pe_lst (pa_cons (pe_cal c__law_next (hr.mono (by omega)) (pa_cons (pv 1) (pa_cons pe_int pa_nil))) (pa_cons pe_int pa_nil))) (pe_callTy cr_int1 (by rfl) T.m_int (by decide +kernel) (pa_cons (pe_cmpR (op_eqA hr) (pe_cal c__law_next (hr.mono (by omega)) (pa_cons (pv 1) (pa_cons pe_int pa_nil))) pe_int (nomark _)) pa_nil)) (fun _ _ => rfl)) pa_nil)) (pg_name (i := 6) (sclaw).nd rfl (by first | exact Or.inl rfl | exact Or.inr rfl)) (pss_cons (ps_set (i := 7) (sclaw).nd rfl (by first | exact Or.inl rfl | exact Or.inr rfl) (pe_tup (pa_cons pe_str (pa_cons (pv 6) pa_nil)))) (pss_one (ps_set (i := 5) (sclaw).nd rfl (by first | exact Or.inl rfl | exact Or.inr rfl) (pe_ix ix_seq (pe_lst (pa_cons (pe_tup (pa_cons pe_str (pa_cons (pv 5) (pa_cons pe_int pa_nil)))) (pa_cons (pe_tup (pa_cons pe_str (pa_cons (pv 7) (pa_cons (pv 5) pa_nil)))) (pa_cons (pe_tup (pa_cons pe_str (pa_cons (pv 7) (pa_cons (pv 5) (pa_cons (pv 7) pa_nil))))) pa_nil)))) (pe_op op_mod (pv 6) pe_int) (fun _ _ => rfl))))))) pss_nil) (pss_cons (ps_set (i := 8) (sclaw).nd rfl (by first | exact Or.inl rfl | exact Or.inr rfl) (pe_cal c__law_is (hr.mono (by omega)) (pa_cons (pv 5) (pa_cons (pv 3) (pa_cons pe_int pa_nil))))) (pss_cons (ps_set (i := 9) (sclaw).nd rfl (by first | exact Or.inl rfl | exact Or.inr rfl) (pe_cal c_is_rule (hr.mono (by omega)) (pa_cons (pv 5) (pa_cons (pe_ix ix_seq (pv 3) pe_int (fun _ _ => rfl)) (pa_cons (pe_ix ix_seq (pv 3) pe_int (fun _ _ => rfl)) (pa_cons (pe_ix ix_seq (pv 3) pe_int (fun _ _ => rfl)) pa_nil)))))) (pss_cons (ps_if (PW.pt (pw_or (pt_not (pt_tru (pe_callB call_isi (by rfl) T.m_isinstance (by decide +kernel) (pa_cons (pv 9) (pa_cons (pe_ty (n := "bool") T.m_bool (by decide +kernel)) pa_nil))))) (pw_or1 (pt_cmpR (op_neA hr) (pv 9) (pv 8) (nomark _))))) (pss_one (ps_ret pe_bl)) pss_nil) (pss_cons (ps_if (pt_not (pt_tru (pv 8))) (pss_one (ps_ret pe_bl)) pss_nil) (pss_cons (ps_for PassesOwn.never rfl (pi_seq (pe_lst (pa_cons pe_str (pa_cons pe_str (pa_cons pe_str (pa_cons pe_str (pa_cons pe_str pa_nil))))))) (pg_name (i := 10) (sclaw).nd rfl (by first | exact Or.inl rfl | exact Or.inr rfl)) (pss_cons (ps_set (i := 11) (sclaw).nd rfl (by first | exact Or.inl rfl | exact Or.inr rfl) (pe_cal c_named (hr.mono (by omega)) (pa_cons (pv 5) (pa_cons (pv 10) pa_nil)))) (pss_one (ps_if (PW.pt (pw_or (pt_not (pt_tru (pe_callB call_isi (by rfl) T.m_isinstance (by decide +kernel) (pa_cons (pv 11) (pa_cons (pe_ty (n := "list") T.m_list (by decide +kernel)) pa_nil))))) (pw_or1 (pt_cmpR (op_neA hr) (pv 11) (pe_cal c__law_named (hr.mono (by omega)) (pa_cons (pv 5) (pa_cons (pv 10) pa_nil))) (nomark _))))) (pss_one (ps_ret pe_bl)) pss_nil)))) (pss_one (ps_ret pe_bl)))))))))))))), ?_⟩
  rw [tlaw]
  try dsimp only [cxOf, Cx.nox, Cx.wish]
  walk_at "rd"
  refine rd_sp2 ⟨l, ns, 0, rfl, rfl, hl, fun r1 => ?_⟩
  walk_at "rd"
  refine rd_sp2 ⟨_, _, rfl, rfl, fun r2 r20 r21 => ?_⟩
  walk_at "rd"
  refine new_lst fun st H1 hst E1 h1 => ?_
  walk_at "rd"
  refine rd_sp2 ⟨l, ns, 1, rfl, rfl, sql_ex hl E1, fun r3 => ?_⟩
  walk_at "rd"
  refine rd_sp2 ⟨_, _, rfl, rfl, fun c c0 c1 => ?_⟩
  walk_at "rd"
  refine new_tup fun dz H2 hdz E2 h2 => ?_
  generalize esz : (⟨1 + c % 40, c / 40 % 6, c / 240 % 9⟩ : Sz) = sz
  have hz2 : SqT K H2 dz [.int sz.l, .int sz.tb, .int sz.ch] := by rw [← esz]; exact .of h2
  have zl : 1 ≤ sz.l ∧ sz.l ≤ 40 := by rw [← esz]; show 1 ≤ 1 + c % 40 ∧ 1 + c % 40 ≤ 40; omega
  clear h2
  have hs2 : ∃ s, H2 st = some (.lst [.int s]) := ⟨_, lst_ex h1 E2⟩
  walk_at "rd"
  refine rd_sp1 ⟨st, rfl, hs2, fun wd ws H3 W hwd S3 => ?_⟩
  walk_at "rd"
  have hz3 := sqt_st hz2 S3
  refine rd_lstRg ?_
  refine rd_rg1 ?_
  walk_at "rda"
  refine ⟨.of_le (by decide) (by omega) (by decide) (by omega), fun sn hsn => ?_⟩
  obtain ⟨ns2, en2, ln2⟩ := rgV_ints sz.l
  rw [en2]
  generalize eH : upd H3 sn (.lst (ns2.map V.int)) = H4
  have h4 : H4 sn = some (.lst (ns2.map V.int)) := by rw [← eH]; exact upd_same
  have E4 : Ex H3 H4 := by rw [← eH]; exact Evl.Ex.new hsn
  clear eH
  walk_at "rda"
  have hz4 := sqt_ex hz3 E4
  have Dr4 : Dr K H4 st sn dz wd sz := ⟨sta_ex S3.st E4, ⟨ns2, h4, by omega⟩, ne_st S3.st hsn, hz4, ⟨ws, lst_ex W.at_ E4, W.one, W.few, W.short⟩, hwd, by omega⟩
  obtain ⟨n, hn, en⟩ : ∃ n : Nat, n ≤ 7 ∧ 1 + c / 2160 % 8 = (n : Nat) + 1 := ⟨(c / 2160 % 8).toNat, by omega, by omega⟩
  rw [en]
  refine rd_sp5 ⟨st, sn, dz, wd, sz, n, hn, rfl, rfl, rfl, rfl, rfl, Dr4, fun v t H5 tv sh S5 => ?_⟩
  have sh8 : shp 8 t := shp_mono sh (by omega)
  have hz5 := sqt_st hz4 S5
  walk_at "rd"
  refine rd_cut (fun σ H' => ∃ v t, σ = [some (.ref l), some (.ref st), some (.int c), some (.ref dz), some (.ref wd), some v, none, none, none, none, none, none] ∧ Tv K H' v t ∧ SqT K H' dz [.int sz.l, .int sz.tb, .int sz.ch] ∧ ∃ s, H' st = some (.lst [.int s])) ?_ ?_
  · walk_at "rd"
    refine rd_ite (fun h6 => ?_) (fun h6 => ?_)
    · walk_at "rd"
      obtain ⟨ts, rfl, t2, t4, _⟩ := id sh8
      refine rd_sp3 ⟨st, dz, sz, ts, rfl, rfl, S5.st, hz5, tv, t4, fun v' t' H6 tv' S6 => ?_⟩
      walk_at "rd"
      refine rd_sp3 ⟨st, _, t', rfl, S6.st, tv_st tv S6, sh8, tv', fun v2 t2 H7 tv2 S7 => ?_⟩
      walk_at "rd"
      exact ⟨_, _, rfl, tv2, sqt_st (sqt_st hz5 S6) S7, S7.st⟩
    · walk_at "rd"
      exact ⟨_, _, rfl, tv, hz5, S5.st⟩
  clear tv sh sh8 hz5 S5 t v
  rintro σ H6 ⟨v, t, rfl, tv, hz6, hs6⟩
  refine rd_cut (fun σ H' => ∃ v t y z, σ = [some (.ref l), some (.ref st), some (.int c), some (.ref dz), some (.ref wd), some v, y, z, none, none, none, none] ∧ Tv K H' v t ∧ SqT K H' dz [.int sz.l, .int sz.tb, .int sz.ch]) ?_ ?_
  · walk_at "rd"
    refine rd_ite (fun h7 => ?_) (fun h7 => ?_)
    · walk_at "rd"
      refine nx hs6 (by decide) fun r7 H7 a7 b7 S7 => ?_
      walk_at "rd"
      refine new_lst fun o H8 ho E8 h8 => ?_
      walk_at "rd"
      refine nx (sta_ex S7.st E8) (by decide) fun r9 H9 a9 b9 S9 => ?_
      walk_at "rd"
      have h9 : H9 o = _ := lst_st h8 S9 (ne_st S7.st ho)
      refine rd_ixLm (.of h9) (by split <;> omega) (by split <;> simp) fun u hu => ?_
      obtain ⟨m, rfl, m0, m1⟩ : ∃ m : Int, u = .int m ∧ 0 ≤ m ∧ m ≤ 300 := by
        simp only [List.mem_cons, List.not_mem_nil, or_false] at hu
        rcases hu with rfl | rfl
        · exact ⟨_, rfl, a7, by omega⟩
        · exact ⟨_, rfl, by decide, by decide⟩
      walk_at "rd"
      refine forW_R (fun i σ H' => ∃ v t y z, σ = [some (.ref l), some (.ref st), some (.int c), some (.ref dz), some (.ref wd), some v, y, z, none, none, none, none] ∧ Tv K H' v t ∧ SqT K H' dz [.int sz.l, .int sz.tb, .int sz.ch]) ?_ ?_ ?_
      · exact ⟨_, _, _, _, rfl, tv_st (tv_ex (tv_st tv S7) E8) S9, sqt_st (sqt_ex (sqt_st hz6 S7) E8) S9⟩
      · rintro i σ H10 hi ⟨v, t, y, z, rfl, tv, hz⟩
        walk_at "rda"
        rename_i pp Hp _ Ep hp p1 H11 _ E11 h11 p2 H12 _ E12 h12 p3 H13 _ E13 h13 pl H14 _ E14 h14
        refine rd_ixLm (.of h14) (by omega) (by simp; omega) fun u hu => ?_
        have tv14 := tv_ex tv (show Ex H10 H14 by walk_at "exx")
        have pt : Tv K H14 (.ref pp) (.tup [.str "number", .int (0 + i)]) := .tup (by walk_at "sqt") (.cons (.str _ (by decide)) (.cons (.int _) .nil))
        obtain ⟨t', tu⟩ : ∃ t', Tv K H14 u t' := by
          simp only [List.mem_cons, List.not_mem_nil, or_false] at hu
          rcases hu with rfl | rfl | rfl
          · exact ⟨_, .tup (by walk_at "sqt") (.cons (.str _ (by decide)) (.cons tv14 (.cons (.int _) .nil)))⟩
          · exact ⟨_, .tup (by walk_at "sqt") (.cons (.str _ (by decide)) (.cons pt (.cons tv14 .nil)))⟩
          · exact ⟨_, .tup (by walk_at "sqt") (.cons (.str _ (by decide)) (.cons pt (.cons tv14 (.cons pt .nil))))⟩
        walk_at "rd"
        exact ⟨_, _, _, _, rfl, tu, by walk_at "sqt"⟩
      · rintro σ H10 ⟨v, t, y, z, rfl, tv, hz⟩
        walk_at "rd"
        exact ⟨_, _, _, _, rfl, tv, hz⟩
    · walk_at "rd"
      exact ⟨_, _, _, _, rfl, tv, hz6⟩
  clear tv hz6 hs6 t v
  rintro σ H7 ⟨v, t, y, z, rfl, tv, hz⟩
  walk_at "rd"
  refine rd_sp3 ⟨t, sz, dz, tv, rfl, hz, rfl, by omega, fun H8 E8 => ?_⟩
  have hz8 := sqt_ex hz E8
  have tv8 := tv_ex tv E8
  walk_at "rda"
  refine rd_sp4 ⟨t, sz, tv8, rfl, rfl, rfl, fun H9 E9 => ?_⟩
  have tv9 := tv_ex tv8 E9
  walk_at "rd"
  refine rd_iteN (fun h => absurd rfl h) (fun _ => ?_)
  walk_at "rd"
  cases hg : isRule sz 8 t with
  | false =>
    walk_at "rd"
    exact q _
  | true =>
    walk_at "rda"
    rename_i pl H10 _ E10 h10
    refine forW_Lx (.of h10) (fun i σ H' => (∃ x1 y1, σ = [some (.ref l), some (.ref st), some (.int c), some (.ref dz), some (.ref wd), some v, y, z, some (.bl true), some (.bl true), x1, y1]) ∧ Ex H10 H') ?_ ?_ ?_ ?_
    · exact ⟨⟨_, _, rfl⟩, Evl.Ex.refl _⟩
    · rintro i σ H5 hi ⟨_, e⟩
      exact .of (e _ _ h10)
    · rintro i u σ H11 hu ⟨⟨x0, y0, rfl⟩, E11⟩
      obtain ⟨x, rfl, hx⟩ : ∃ x : Str, u = .str x ∧ x ∈ five := by
        have hm := List.mem_of_getElem? hu
        simp only [List.mem_cons, List.not_mem_nil, or_false] at hm
        rcases hm with rfl | rfl | rfl | rfl | rfl <;> exact ⟨_, rfl, by decide⟩
      have tv11 := tv_ex (tv_ex tv9 E10) E11
      walk_at "rd"
      refine rd_sp2 ⟨t, sz, x, tv11, rfl, hx, hg, fun p12 H12 ls hls hp12 E12 h12 => ?_⟩
      walk_at "rd"
      refine rd_isLst (t := .lst) (.lst (.of h12)) ?_
      walk_at "rd"
      refine rd_sp2 ⟨t, sz, x, tv_ex tv11 E12, rfl, hx, hg, by omega, fun p13 H13 ls' hls' _ hp13 E13 h13 => ?_⟩
      walk_at "rd"
      have e := keysOf_uniq hls hls'
      subst e
      have hk : ∀ k ∈ ls, kd x k := fun k hk => beh_kd hx 8 t hg k ((hls.2.2 k).mp hk)
      refine rd_neSame (ok_kd hk) (.of (lst_ex h12 E13)) (.of h13) ?_
      walk_at "rd"
      exact ⟨⟨_, _, rfl⟩, (E11.trans E12).trans E13⟩
    · rintro σ H11 ⟨⟨x0, y0, rfl⟩, E11⟩
      walk_at "rd"
      exact q _
theorem all (T : Tx K w mg) : Cal P w K mg base "law" 30 plaw (spLaw K) := by
  have a1 := k_is_whole (P := P) (base := base) T
  have a2 := k_is_within T a1
  have a3 := k_is_number T a2
  have a4 := k_is_percent T a2
  have a5 := k_is_place T a1 a2
  have a6 := k_is_word (P := P) (base := base) T
  have a7 := k__has_form (P := P) (base := base) T
  have a8 := k_is_rule T (k_rwn T a7 a3 a4 a6 a5 8)
  have a9 := k_named T (k_behn (P := P) (base := base) T 8)
  have b1 := k__law_next (P := P) (base := base) T
  have b2 := k__law_number T b1
  have b3 := k__law_plain T b1 b2
  have b4 := k_lrulen T b1 b3 7
  have b5 := k_lawisn (P := P) (base := base) T (k__law_whole T) (k__law_is_word T) 8
  exact (k_law T (k__law_mixed T) (k__law_cell_at T) b1 (k__law_words T b1) b4 (k_putinn T b1 8) (k__law_odd T b1) b5 a8 a9 (k_lnamedn T 8)).mono (by omega)
end
end K2
open PySem PySem.Spec PyProof.Rows L2 Qa


namespace K2
section
variable {P : Program} {w : World} {K : PySem.W.Frag} {mg : Str → Option Value} {base : Heap} {H : Hp} {Q : VK} {E : XK}
end

theorem tx_mk {K : PySem.W.Frag} {w : World} {mg : Str → Option Value} {h : Heap} (X : K.In h) (G : h.Ns mainGlobals mg) {f0 f1 f2 f3 f4 f5 f6 f7 f8 f9 f10 f11 f12 f13 f14 f15 f16 f17 f18 f19 f20 f21 f22 f23 f24 f25 : Addr} {od0 an0 od1 an1 od2 an2 od3 an3 od4 an4 od5 an5 od6 an6 od7 an7 od8 an8 od9 an9 od10 an10 od11 an11 od12 an12 od13 an13 od14 an14 od15 an15 od16 an16 od17 an17 od18 an18 od19 an19 od20 an20 od21 an21 od22 an22 od23 an23 od24 an24 od25 an25 : Option Addr} {sl0 sl1 sl2 sl3 sl4 sl5 sl6 sl7 sl8 sl9 sl10 sl11 sl12 sl13 sl14 sl15 sl16 sl17 sl18 sl19 sl20 sl21 sl22 sl23 sl24 sl25 : Array (Option Value)} {oc0 kV0 dc0 pm0 cd0 ct0 oc1 kV1 dc1 pm1 cd1 ct1 oc2 kV2 dc2 pm2 cd2 ct2 oc3 kV3 dc3 pm3 cd3 ct3 oc4 kV4 dc4 pm4 cd4 ct4 oc5 kV5 dc5 pm5 cd5 ct5 oc6 kV6 dc6 pm6 cd6 ct6 oc7 kV7 dc7 pm7 cd7 ct7 oc8 kV8 dc8 pm8 cd8 ct8 oc9 kV9 dc9 pm9 cd9 ct9 oc10 kV10 dc10 pm10 cd10 ct10 oc11 kV11 dc11 pm11 cd11 ct11 oc12 kV12 dc12 pm12 cd12 ct12 oc13 kV13 dc13 pm13 cd13 ct13 oc14 kV14 dc14 pm14 cd14 ct14 oc15 kV15 dc15 pm15 cd15 ct15 oc16 kV16 dc16 pm16 cd16 ct16 oc17 kV17 dc17 pm17 cd17 ct17 oc18 kV18 dc18 pm18 cd18 ct18 oc19 kV19 dc19 pm19 cd19 ct19 oc20 kV20 dc20 pm20 cd20 ct20 oc21 kV21 dc21 pm21 cd21 ct21 oc22 kV22 dc22 pm22 cd22 ct22 oc23 kV23 dc23 pm23 cd23 ct23 oc24 kV24 dc24 pm24 cd24 ct24 oc25 kV25 dc25 pm25 cd25 ct25 : Value} {t0 t1 t2 t3 t4 : Tok} {e0 : Addr} {es0 : Array DictEntry} {n0 : Nat}
    (z0 : PySem.W.nsIn K mainGlobals "sorted" = some none)
    (z1 : PySem.W.nsIn K mainGlobals "zip" = some none)
    (z2 : PySem.W.nsIn K mainGlobals "range" = some none)
    (z3 : PySem.W.nsIn K mainGlobals "isinstance" = some none)
    (z4 : PySem.W.nsIn K mainGlobals "int" = some none)
    (z5 : PySem.W.nsIn K mainGlobals "set" = some none)
    (z6 : PySem.W.nsIn K mainGlobals "len" = some none)
    (z7 : PySem.W.nsIn K mainGlobals "min" = some none)
    (z8 : PySem.W.nsIn K mainGlobals "list" = some none)
    (z9 : PySem.W.nsIn K mainGlobals "tuple" = some none)
    (z10 : PySem.W.nsIn K mainGlobals "bool" = some none)
    (z11 : PySem.W.nsIn K mainGlobals "str" = some none)
    (w0 : PySem.W.nsIn K mainGlobals "FARTHEST" = some (some (.int 1000000000 t0)))
    (w1 : PySem.W.nsIn K mainGlobals "FULL_PERCENT" = some (some (.int 100 t1)))
    (w2 : PySem.W.nsIn K mainGlobals "DEEPEST" = some (some (.int 8 t2)))
    (w3 : PySem.W.nsIn K mainGlobals "LONGEST_WORD" = some (some (.int 8 t3)))
    (w4 : PySem.W.nsIn K mainGlobals "LETTERS" = some (some (.str "abcdefghijklmnopqrstuvwxyz" t4)))
    (da0 : PySem.W.nsIn K mainGlobals "PARTS" = some (some (.ref e0))) (dl0 : K.lookup e0 = some ⟨.type "dict", none, .dict es0 n0, #[]⟩) (dm0 : (e0 == sysModules) = false) (dp0 : Paired (EntIs K w) es0.toList tPARTS)
    (a0 : PySem.W.nsIn K mainGlobals "is_whole" = some (some (.ref f0))) (l0 : K.lookup f0 = some ⟨oc0, od0, .func (PySem.W.fnOf "is_whole" "is_whole" (defArgs sis_whole) (defBody sis_whole) (defScope sis_whole) .none kV0 dc0 pm0 an0 cd0 ct0), sl0⟩) (c0 : PySem.W.codeIn K cd0 "is_whole" = true) (k0 : PySem.W.keepIn K (.ref f0) = true)
    (a1 : PySem.W.nsIn K mainGlobals "is_within" = some (some (.ref f1))) (l1 : K.lookup f1 = some ⟨oc1, od1, .func (PySem.W.fnOf "is_within" "is_within" (defArgs sis_within) (defBody sis_within) (defScope sis_within) .none kV1 dc1 pm1 an1 cd1 ct1), sl1⟩) (c1 : PySem.W.codeIn K cd1 "is_within" = true) (k1 : PySem.W.keepIn K (.ref f1) = true)
    (a2 : PySem.W.nsIn K mainGlobals "is_number" = some (some (.ref f2))) (l2 : K.lookup f2 = some ⟨oc2, od2, .func (PySem.W.fnOf "is_number" "is_number" (defArgs sis_number) (defBody sis_number) (defScope sis_number) .none kV2 dc2 pm2 an2 cd2 ct2), sl2⟩) (c2 : PySem.W.codeIn K cd2 "is_number" = true) (k2 : PySem.W.keepIn K (.ref f2) = true)
    (a3 : PySem.W.nsIn K mainGlobals "is_percent" = some (some (.ref f3))) (l3 : K.lookup f3 = some ⟨oc3, od3, .func (PySem.W.fnOf "is_percent" "is_percent" (defArgs sis_percent) (defBody sis_percent) (defScope sis_percent) .none kV3 dc3 pm3 an3 cd3 ct3), sl3⟩) (c3 : PySem.W.codeIn K cd3 "is_percent" = true) (k3 : PySem.W.keepIn K (.ref f3) = true)
    (a4 : PySem.W.nsIn K mainGlobals "is_place" = some (some (.ref f4))) (l4 : K.lookup f4 = some ⟨oc4, od4, .func (PySem.W.fnOf "is_place" "is_place" (defArgs sis_place) (defBody sis_place) (defScope sis_place) .none kV4 dc4 pm4 an4 cd4 ct4), sl4⟩) (c4 : PySem.W.codeIn K cd4 "is_place" = true) (k4 : PySem.W.keepIn K (.ref f4) = true)
    (a5 : PySem.W.nsIn K mainGlobals "is_rule" = some (some (.ref f5))) (l5 : K.lookup f5 = some ⟨oc5, od5, .func (PySem.W.fnOf "is_rule" "is_rule" (defArgs sis_rule) (defBody sis_rule) (defScope sis_rule) .none kV5 dc5 pm5 an5 cd5 ct5), sl5⟩) (c5 : PySem.W.codeIn K cd5 "is_rule" = true) (k5 : PySem.W.keepIn K (.ref f5) = true)
    (a6 : PySem.W.nsIn K mainGlobals "is_word" = some (some (.ref f6))) (l6 : K.lookup f6 = some ⟨oc6, od6, .func (PySem.W.fnOf "is_word" "is_word" (defArgs sis_word) (defBody sis_word) (defScope sis_word) .none kV6 dc6 pm6 an6 cd6 ct6), sl6⟩) (c6 : PySem.W.codeIn K cd6 "is_word" = true) (k6 : PySem.W.keepIn K (.ref f6) = true)
    (a7 : PySem.W.nsIn K mainGlobals "named" = some (some (.ref f7))) (l7 : K.lookup f7 = some ⟨oc7, od7, .func (PySem.W.fnOf "named" "named" (defArgs snamed) (defBody snamed) (defScope snamed) .none kV7 dc7 pm7 an7 cd7 ct7), sl7⟩) (c7 : PySem.W.codeIn K cd7 "named" = true) (k7 : PySem.W.keepIn K (.ref f7) = true)
    (a8 : PySem.W.nsIn K mainGlobals "_is_rule_within" = some (some (.ref f8))) (l8 : K.lookup f8 = some ⟨oc8, od8, .func (PySem.W.fnOf "_is_rule_within" "_is_rule_within" (defArgs s_is_rule_within) (defBody s_is_rule_within) (defScope s_is_rule_within) .none kV8 dc8 pm8 an8 cd8 ct8), sl8⟩) (c8 : PySem.W.codeIn K cd8 "_is_rule_within" = true) (k8 : PySem.W.keepIn K (.ref f8) = true)
    (a9 : PySem.W.nsIn K mainGlobals "_has_form" = some (some (.ref f9))) (l9 : K.lookup f9 = some ⟨oc9, od9, .func (PySem.W.fnOf "_has_form" "_has_form" (defArgs s_has_form) (defBody s_has_form) (defScope s_has_form) .none kV9 dc9 pm9 an9 cd9 ct9), sl9⟩) (c9 : PySem.W.codeIn K cd9 "_has_form" = true) (k9 : PySem.W.keepIn K (.ref f9) = true)
    (a10 : PySem.W.nsIn K mainGlobals "_is_part" = some (some (.ref f10))) (l10 : K.lookup f10 = some ⟨oc10, od10, .func (PySem.W.fnOf "_is_part" "_is_part" (defArgs s_is_part) (defBody s_is_part) (defScope s_is_part) .none kV10 dc10 pm10 an10 cd10 ct10), sl10⟩) (c10 : PySem.W.codeIn K cd10 "_is_part" = true) (k10 : PySem.W.keepIn K (.ref f10) = true)
    (a11 : PySem.W.nsIn K mainGlobals "_behind" = some (some (.ref f11))) (l11 : K.lookup f11 = some ⟨oc11, od11, .func (PySem.W.fnOf "_behind" "_behind" (defArgs s_behind) (defBody s_behind) (defScope s_behind) .none kV11 dc11 pm11 an11 cd11 ct11), sl11⟩) (c11 : PySem.W.codeIn K cd11 "_behind" = true) (k11 : PySem.W.keepIn K (.ref f11) = true)
    (a12 : PySem.W.nsIn K mainGlobals "_law_cell_at" = some (some (.ref f12))) (l12 : K.lookup f12 = some ⟨oc12, od12, .func (PySem.W.fnOf "_law_cell_at" "_law_cell_at" (defArgs s_law_cell_at) (defBody s_law_cell_at) (defScope s_law_cell_at) .none kV12 dc12 pm12 an12 cd12 ct12), sl12⟩) (c12 : PySem.W.codeIn K cd12 "_law_cell_at" = true) (k12 : PySem.W.keepIn K (.ref f12) = true)
    (a13 : PySem.W.nsIn K mainGlobals "_law_mixed" = some (some (.ref f13))) (l13 : K.lookup f13 = some ⟨oc13, od13, .func (PySem.W.fnOf "_law_mixed" "_law_mixed" (defArgs s_law_mixed) (defBody s_law_mixed) (defScope s_law_mixed) .none kV13 dc13 pm13 an13 cd13 ct13), sl13⟩) (c13 : PySem.W.codeIn K cd13 "_law_mixed" = true) (k13 : PySem.W.keepIn K (.ref f13) = true)
    (a14 : PySem.W.nsIn K mainGlobals "_law_next" = some (some (.ref f14))) (l14 : K.lookup f14 = some ⟨oc14, od14, .func (PySem.W.fnOf "_law_next" "_law_next" (defArgs s_law_next) (defBody s_law_next) (defScope s_law_next) .none kV14 dc14 pm14 an14 cd14 ct14), sl14⟩) (c14 : PySem.W.codeIn K cd14 "_law_next" = true) (k14 : PySem.W.keepIn K (.ref f14) = true)
    (a15 : PySem.W.nsIn K mainGlobals "_law_whole" = some (some (.ref f15))) (l15 : K.lookup f15 = some ⟨oc15, od15, .func (PySem.W.fnOf "_law_whole" "_law_whole" (defArgs s_law_whole) (defBody s_law_whole) (defScope s_law_whole) .none kV15 dc15 pm15 an15 cd15 ct15), sl15⟩) (c15 : PySem.W.codeIn K cd15 "_law_whole" = true) (k15 : PySem.W.keepIn K (.ref f15) = true)
    (a16 : PySem.W.nsIn K mainGlobals "_law_number" = some (some (.ref f16))) (l16 : K.lookup f16 = some ⟨oc16, od16, .func (PySem.W.fnOf "_law_number" "_law_number" (defArgs s_law_number) (defBody s_law_number) (defScope s_law_number) .none kV16 dc16 pm16 an16 cd16 ct16), sl16⟩) (c16 : PySem.W.codeIn K cd16 "_law_number" = true) (k16 : PySem.W.keepIn K (.ref f16) = true)
    (a17 : PySem.W.nsIn K mainGlobals "_law_words" = some (some (.ref f17))) (l17 : K.lookup f17 = some ⟨oc17, od17, .func (PySem.W.fnOf "_law_words" "_law_words" (defArgs s_law_words) (defBody s_law_words) (defScope s_law_words) .none kV17 dc17 pm17 an17 cd17 ct17), sl17⟩) (c17 : PySem.W.codeIn K cd17 "_law_words" = true) (k17 : PySem.W.keepIn K (.ref f17) = true)
    (a18 : PySem.W.nsIn K mainGlobals "_law_plain" = some (some (.ref f18))) (l18 : K.lookup f18 = some ⟨oc18, od18, .func (PySem.W.fnOf "_law_plain" "_law_plain" (defArgs s_law_plain) (defBody s_law_plain) (defScope s_law_plain) .none kV18 dc18 pm18 an18 cd18 ct18), sl18⟩) (c18 : PySem.W.codeIn K cd18 "_law_plain" = true) (k18 : PySem.W.keepIn K (.ref f18) = true)
    (a19 : PySem.W.nsIn K mainGlobals "_law_rule" = some (some (.ref f19))) (l19 : K.lookup f19 = some ⟨oc19, od19, .func (PySem.W.fnOf "_law_rule" "_law_rule" (defArgs s_law_rule) (defBody s_law_rule) (defScope s_law_rule) .none kV19 dc19 pm19 an19 cd19 ct19), sl19⟩) (c19 : PySem.W.codeIn K cd19 "_law_rule" = true) (k19 : PySem.W.keepIn K (.ref f19) = true)
    (a20 : PySem.W.nsIn K mainGlobals "_law_is" = some (some (.ref f20))) (l20 : K.lookup f20 = some ⟨oc20, od20, .func (PySem.W.fnOf "_law_is" "_law_is" (defArgs s_law_is) (defBody s_law_is) (defScope s_law_is) .none kV20 dc20 pm20 an20 cd20 ct20), sl20⟩) (c20 : PySem.W.codeIn K cd20 "_law_is" = true) (k20 : PySem.W.keepIn K (.ref f20) = true)
    (a21 : PySem.W.nsIn K mainGlobals "_law_is_word" = some (some (.ref f21))) (l21 : K.lookup f21 = some ⟨oc21, od21, .func (PySem.W.fnOf "_law_is_word" "_law_is_word" (defArgs s_law_is_word) (defBody s_law_is_word) (defScope s_law_is_word) .none kV21 dc21 pm21 an21 cd21 ct21), sl21⟩) (c21 : PySem.W.codeIn K cd21 "_law_is_word" = true) (k21 : PySem.W.keepIn K (.ref f21) = true)
    (a22 : PySem.W.nsIn K mainGlobals "_law_odd" = some (some (.ref f22))) (l22 : K.lookup f22 = some ⟨oc22, od22, .func (PySem.W.fnOf "_law_odd" "_law_odd" (defArgs s_law_odd) (defBody s_law_odd) (defScope s_law_odd) .none kV22 dc22 pm22 an22 cd22 ct22), sl22⟩) (c22 : PySem.W.codeIn K cd22 "_law_odd" = true) (k22 : PySem.W.keepIn K (.ref f22) = true)
    (a23 : PySem.W.nsIn K mainGlobals "_law_put_in" = some (some (.ref f23))) (l23 : K.lookup f23 = some ⟨oc23, od23, .func (PySem.W.fnOf "_law_put_in" "_law_put_in" (defArgs s_law_put_in) (defBody s_law_put_in) (defScope s_law_put_in) .none kV23 dc23 pm23 an23 cd23 ct23), sl23⟩) (c23 : PySem.W.codeIn K cd23 "_law_put_in" = true) (k23 : PySem.W.keepIn K (.ref f23) = true)
    (a24 : PySem.W.nsIn K mainGlobals "_law_named" = some (some (.ref f24))) (l24 : K.lookup f24 = some ⟨oc24, od24, .func (PySem.W.fnOf "_law_named" "_law_named" (defArgs s_law_named) (defBody s_law_named) (defScope s_law_named) .none kV24 dc24 pm24 an24 cd24 ct24), sl24⟩) (c24 : PySem.W.codeIn K cd24 "_law_named" = true) (k24 : PySem.W.keepIn K (.ref f24) = true)
    (a25 : PySem.W.nsIn K mainGlobals "law" = some (some (.ref f25))) (l25 : K.lookup f25 = some ⟨oc25, od25, .func (PySem.W.fnOf "law" "law" (defArgs slaw) (defBody slaw) (defScope slaw) .none kV25 dc25 pm25 an25 cd25 ct25), sl25⟩) (c25 : PySem.W.codeIn K cd25 "law" = true) (k25 : PySem.W.keepIn K (.ref f25) = true) : Tx K w mg :=
  ⟨PySem.W.mg_none_of X G z0,
   PySem.W.mg_none_of X G z1,
   PySem.W.mg_none_of X G z2,
   PySem.W.mg_none_of X G z3,
   PySem.W.mg_none_of X G z4,
   PySem.W.mg_none_of X G z5,
   PySem.W.mg_none_of X G z6,
   PySem.W.mg_none_of X G z7,
   PySem.W.mg_none_of X G z8,
   PySem.W.mg_none_of X G z9,
   PySem.W.mg_none_of X G z10,
   PySem.W.mg_none_of X G z11,
   ⟨_, PySem.W.mg_of X G w0⟩,
   ⟨_, PySem.W.mg_of X G w1⟩,
   ⟨_, PySem.W.mg_of X G w2⟩,
   ⟨_, PySem.W.mg_of X G w3⟩,
   ⟨_, PySem.W.mg_of X G w4⟩,
   ⟨_, PySem.W.mg_of X G da0, _, _, dl0, dm0, dp0⟩,
   ⟨_, _, fun_mk (st := sis_whole) l0 c0 k0, PySem.W.mg_of X G a0⟩,
   ⟨_, _, fun_mk (st := sis_within) l1 c1 k1, PySem.W.mg_of X G a1⟩,
   ⟨_, _, fun_mk (st := sis_number) l2 c2 k2, PySem.W.mg_of X G a2⟩,
   ⟨_, _, fun_mk (st := sis_percent) l3 c3 k3, PySem.W.mg_of X G a3⟩,
   ⟨_, _, fun_mk (st := sis_place) l4 c4 k4, PySem.W.mg_of X G a4⟩,
   ⟨_, _, fun_mk (st := sis_rule) l5 c5 k5, PySem.W.mg_of X G a5⟩,
   ⟨_, _, fun_mk (st := sis_word) l6 c6 k6, PySem.W.mg_of X G a6⟩,
   ⟨_, _, fun_mk (st := snamed) l7 c7 k7, PySem.W.mg_of X G a7⟩,
   ⟨_, _, fun_mk (st := s_is_rule_within) l8 c8 k8, PySem.W.mg_of X G a8⟩,
   ⟨_, _, fun_mk (st := s_has_form) l9 c9 k9, PySem.W.mg_of X G a9⟩,
   ⟨_, _, fun_mk (st := s_is_part) l10 c10 k10, PySem.W.mg_of X G a10⟩,
   ⟨_, _, fun_mk (st := s_behind) l11 c11 k11, PySem.W.mg_of X G a11⟩,
   ⟨_, _, fun_mk (st := s_law_cell_at) l12 c12 k12, PySem.W.mg_of X G a12⟩,
   ⟨_, _, fun_mk (st := s_law_mixed) l13 c13 k13, PySem.W.mg_of X G a13⟩,
   ⟨_, _, fun_mk (st := s_law_next) l14 c14 k14, PySem.W.mg_of X G a14⟩,
   ⟨_, _, fun_mk (st := s_law_whole) l15 c15 k15, PySem.W.mg_of X G a15⟩,
   ⟨_, _, fun_mk (st := s_law_number) l16 c16 k16, PySem.W.mg_of X G a16⟩,
   ⟨_, _, fun_mk (st := s_law_words) l17 c17 k17, PySem.W.mg_of X G a17⟩,
   ⟨_, _, fun_mk (st := s_law_plain) l18 c18 k18, PySem.W.mg_of X G a18⟩,
   ⟨_, _, fun_mk (st := s_law_rule) l19 c19 k19, PySem.W.mg_of X G a19⟩,
   ⟨_, _, fun_mk (st := s_law_is) l20 c20 k20, PySem.W.mg_of X G a20⟩,
   ⟨_, _, fun_mk (st := s_law_is_word) l21 c21 k21, PySem.W.mg_of X G a21⟩,
   ⟨_, _, fun_mk (st := s_law_odd) l22 c22 k22, PySem.W.mg_of X G a22⟩,
   ⟨_, _, fun_mk (st := s_law_put_in) l23 c23 k23, PySem.W.mg_of X G a23⟩,
   ⟨_, _, fun_mk (st := s_law_named) l24 c24 k24, PySem.W.mg_of X G a24⟩,
   ⟨_, _, fun_mk (st := slaw) l25 c25 k25, PySem.W.mg_of X G a25⟩⟩

theorem fin {P : Program} {w : World} {K : PySem.W.Frag} {mg : Str → Option Value} {fa : Addr} (hfa : mg "law" = some (.ref fa)) (T : Tx K w mg) :
    ∃ fd : FuncData, (∀ (s : Shared) (v : Value), BindsTo s fd ⟨[v], []⟩ [("_law_script", v)]) ∧ ∀ base : Heap, K.In base → base.Ns mainGlobals mg → FnOk P w K mg base CX0 30 fa fd ["_law_script"] (spLaw K) := by
  obtain ⟨fd, b, f⟩ := law_fd (P := P) (w := w) (good := fun _ => True) T.F_law blaw hfa fun base _ => all T
  exact ⟨fd, b, fun base _ _ => f base trivial⟩
end K2
open PySem PySem.W PyProof.Rows
set_option maxHeartbeats 0 in
theorem PySem.Challenge.cw_formlines_k02_rules_holds : PySem.Challenge.rw_formlines_k02_rules.Holds := by
  w_on; o_law; k_head; (case hw => w_witness2)
  k_fill
  refine L2.walk_of (l := PySem.Challenge.rw_formlines_k02_rules) (n := 63) (k := 30) (x := "_law_script") (CX := fun _ => L2.CX0) (sp := fun w => K2.spLaw _) rfl (by decide) rfl ⟨rfl, by decide, by decide⟩ (fun w h Y => PySem.W.kIn_of Y) ?F (fun _ _ a ns hl _ hS => ⟨_, rfl, a, ns, rfl, hS, fun _ => rfl⟩) (fun _ _ _ _ _ h => h)
  case F =>
    intro w mg fa h KX G hmg
    refine' K2.fin hmg (K2.tx_mk KX G ?z0 ?z1 ?z2 ?z3 ?z4 ?z5 ?z6 ?z7 ?z8 ?z9 ?z10 ?z11 ?w0 ?w1 ?w2 ?w3 ?w4 ?da0 ?dl0 ?dm0 ?dp0 ?a0 ?l0 ?c0 ?k0 ?a1 ?l1 ?c1 ?k1 ?a2 ?l2 ?c2 ?k2 ?a3 ?l3 ?c3 ?k3 ?a4 ?l4 ?c4 ?k4 ?a5 ?l5 ?c5 ?k5 ?a6 ?l6 ?c6 ?k6 ?a7 ?l7 ?c7 ?k7 ?a8 ?l8 ?c8 ?k8 ?a9 ?l9 ?c9 ?k9 ?a10 ?l10 ?c10 ?k10 ?a11 ?l11 ?c11 ?k11 ?a12 ?l12 ?c12 ?k12 ?a13 ?l13 ?c13 ?k13 ?a14 ?l14 ?c14 ?k14 ?a15 ?l15 ?c15 ?k15 ?a16 ?l16 ?c16 ?k16 ?a17 ?l17 ?c17 ?k17 ?a18 ?l18 ?c18 ?k18 ?a19 ?l19 ?c19 ?k19 ?a20 ?l20 ?c20 ?k20 ?a21 ?l21 ?c21 ?k21 ?a22 ?l22 ?c22 ?k22 ?a23 ?l23 ?c23 ?k23 ?a24 ?l24 ?c24 ?k24 ?a25 ?l25 ?c25 ?k25)
    (case z0 => k_is)
    (case z1 => k_is)
    (case z2 => k_is)
    (case z3 => k_is)
    (case z4 => k_is)
    (case z5 => k_is)
    (case z6 => k_is)
    (case z7 => k_is)
    (case z8 => k_is)
    (case z9 => k_is)
    (case z10 => k_is)
    (case z11 => k_is)
    (case w0 => k_is)
    (case w1 => k_is)
    (case w2 => k_is)
    (case w3 => k_is)
    (case w4 => k_is)
    (case da0 => k_is)
    (case dl0 => k_is)
    (case dm0 => decide)
    (case dp0 => walk_at "tab")
    (case a0 => k_is)
    (case l0 => k_is)
    (case c0 => k_is)
    (case k0 => k_is)
    (case a1 => k_is)
    (case l1 => k_is)
    (case c1 => k_is)
    (case k1 => k_is)
    (case a2 => k_is)
    (case l2 => k_is)
    (case c2 => k_is)
    (case k2 => k_is)
    (case a3 => k_is)
    (case l3 => k_is)
    (case c3 => k_is)
    (case k3 => k_is)
    (case a4 => k_is)
    (case l4 => k_is)
    (case c4 => k_is)
    (case k4 => k_is)
    (case a5 => k_is)
    (case l5 => k_is)
    (case c5 => k_is)
    (case k5 => k_is)
    (case a6 => k_is)
    (case l6 => k_is)
    (case c6 => k_is)
    (case k6 => k_is)
    (case a7 => k_is)
    (case l7 => k_is)
    (case c7 => k_is)
    (case k7 => k_is)
    (case a8 => k_is)
    (case l8 => k_is)
    (case c8 => k_is)
    (case k8 => k_is)
    (case a9 => k_is)
    (case l9 => k_is)
    (case c9 => k_is)
    (case k9 => k_is)
    (case a10 => k_is)
    (case l10 => k_is)
    (case c10 => k_is)
    (case k10 => k_is)
    (case a11 => k_is)
    (case l11 => k_is)
    (case c11 => k_is)
    (case k11 => k_is)
    (case a12 => k_is)
    (case l12 => k_is)
    (case c12 => k_is)
    (case k12 => k_is)
    (case a13 => k_is)
    (case l13 => k_is)
    (case c13 => k_is)
    (case k13 => k_is)
    (case a14 => k_is)
    (case l14 => k_is)
    (case c14 => k_is)
    (case k14 => k_is)
    (case a15 => k_is)
    (case l15 => k_is)
    (case c15 => k_is)
    (case k15 => k_is)
    (case a16 => k_is)
    (case l16 => k_is)
    (case c16 => k_is)
    (case k16 => k_is)
    (case a17 => k_is)
    (case l17 => k_is)
    (case c17 => k_is)
    (case k17 => k_is)
    (case a18 => k_is)
    (case l18 => k_is)
    (case c18 => k_is)
    (case k18 => k_is)
    (case a19 => k_is)
    (case l19 => k_is)
    (case c19 => k_is)
    (case k19 => k_is)
    (case a20 => k_is)
    (case l20 => k_is)
    (case c20 => k_is)
    (case k20 => k_is)
    (case a21 => k_is)
    (case l21 => k_is)
    (case c21 => k_is)
    (case k21 => k_is)
    (case a22 => k_is)
    (case l22 => k_is)
    (case c22 => k_is)
    (case k22 => k_is)
    (case a23 => k_is)
    (case l23 => k_is)
    (case c23 => k_is)
    (case k23 => k_is)
    (case a24 => k_is)
    (case l24 => k_is)
    (case c24 => k_is)
    (case k24 => k_is)
    (case a25 => k_is)
    (case l25 => k_is)
    (case c25 => k_is)
    (case k25 => k_is)

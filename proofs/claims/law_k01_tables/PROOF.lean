import PyProof.Rows.All
import Wide.All
import OpenK.AllK
import Wide.FinOn
import HandS.ForMost
import HandS.Evl
import HandS.IsInst
import HandS.Walk
import HandS.Zip
import HandS.TupAny
import PySem.Challenge.RW_formlines_k01_tables
set_option Elab.async false
set_option linter.all false
set_option maxRecDepth 100000
set_option maxHeartbeats 4000000
namespace Qa
open PySem PySem.Spec PyProof.Rows L2

/-- a def that can be called by its name -/
def Cal (P : Program) (w : World) (K : PySem.W.Frag) (mg : Str → Option Value) (base : Heap) (x : Str) (k : Nat) (ps : List Str) (sp : Sp) : Prop :=
  ∃ f fd, FnOk P w K mg base CX0 k f fd ps sp ∧ mg x = some (.ref f) ∧ PySem.W.keepIn K (.ref f) = true ∧ Binds K fd ps [] ∧ ∃ oc od osl, K.lookup f = some ⟨oc, od, .func fd, osl⟩
def tCal (sp : Sp) (t : TA) : TE := fun σ H Q => t σ H fun vs H1 => sp vs H1 Q E0
theorem pe_cal {X : Cx} {x : Str} {k : Nat} {ps : List Str} {sp : Sp} {e : Expr} {es : List Expr} {t : TA} {p pos : Pos} (c : Cal X.prog X.w X.K X.mg X.base x k ps sp) (hr : Room k X.A) (ha : PA X (e :: es) t) (hg : Gl X x := by rfl)
    (hdb : (x == ("__debug__" : Str)) = false := by decide) (he : starEach (e :: es) X.env = (false, eval e X.env) :: starEach es X.env := by rfl) (hpl : (backTo pos (starEach es X.env)).any (·.1) = false := by rfl) :
    PE X (.Call (.Name x p) (e :: es) [] pos) (tCal sp t) := by
  obtain ⟨f, fd, F, hm, hk, hb, _⟩ := c
  have h := pe_call (p := p) (pos := pos) F hr hg hm hk hb Paired.nil (pass0 (X := X)) ha hdb he hpl
  have e : tCall sp [] E0 t = tCal sp t := by
    funext σ H Q
    show (t σ H fun vs H1 => sp (vs ++ []) H1 Q E0) = t σ H fun vs H1 => sp vs H1 Q E0
    congr 1
    funext vs H1
    rw [List.append_nil]
  rw [e] at h
  exact h
theorem pe_cal0 {X : Cx} {x : Str} {k : Nat} {ps : List Str} {sp : Sp} {p pos : Pos} (c : Cal X.prog X.w X.K X.mg X.base x k ps sp) (hr : Room k X.A) (hg : Gl X x := by rfl)
    (hdb : (x == ("__debug__" : Str)) = false := by decide) : PE X (.Call (.Name x p) [] [] pos) (tCal sp tNil) := by
  obtain ⟨f, fd, F, hm, hk, hb, _⟩ := c
  exact pe_call0 (p := p) (pos := pos) F hr hg hm hk hb Paired.nil (pass0 (X := X)) hdb

/-! promises by the number of arguments -/
def sp1 (f : V → Hp → VK → Prop) : Sp := fun vs H Q _ => ∃ a, vs = [a] ∧ f a H Q
def sp2 (f : V → V → Hp → VK → Prop) : Sp := fun vs H Q _ => ∃ a b, vs = [a, b] ∧ f a b H Q
def sp3 (f : V → V → V → Hp → VK → Prop) : Sp := fun vs H Q _ => ∃ a b c, vs = [a, b, c] ∧ f a b c H Q
def sp4 (f : V → V → V → V → Hp → VK → Prop) : Sp := fun vs H Q _ => ∃ a b c d, vs = [a, b, c, d] ∧ f a b c d H Q
def sp5 (f : V → V → V → V → V → Hp → VK → Prop) : Sp := fun vs H Q _ => ∃ a b c d e, vs = [a, b, c, d, e] ∧ f a b c d e H Q
theorem rd_sp1 {f : V → Hp → VK → Prop} {a : V} {H : Hp} {Q : VK} {E : XK} (h : f a H Q) : sp1 f [a] H Q E := ⟨a, rfl, h⟩
theorem rd_sp2 {f : V → V → Hp → VK → Prop} {a b : V} {H : Hp} {Q : VK} {E : XK} (h : f a b H Q) : sp2 f [a, b] H Q E := ⟨a, b, rfl, h⟩
theorem rd_sp3 {f : V → V → V → Hp → VK → Prop} {a b c : V} {H : Hp} {Q : VK} {E : XK} (h : f a b c H Q) : sp3 f [a, b, c] H Q E := ⟨a, b, c, rfl, h⟩
theorem rd_sp4 {f : V → V → V → V → Hp → VK → Prop} {a b c d : V} {H : Hp} {Q : VK} {E : XK} (h : f a b c d H Q) : sp4 f [a, b, c, d] H Q E := ⟨a, b, c, d, rfl, h⟩
theorem rd_sp5 {f : V → V → V → V → V → Hp → VK → Prop} {a b c d e : V} {H : Hp} {Q : VK} {E : XK} (h : f a b c d e H Q) : sp5 f [a, b, c, d, e] H Q E := ⟨a, b, c, d, e, rfl, h⟩
section
variable {P : Program} {w : World} {K : PySem.W.Frag} {mg : Str → Option Value} {base : Heap} {x : Str} {st : Stmt} {N ps : List Str} {k : Nat}
def FunAt (K : PySem.W.Frag) (mg : Str → Option Value) (x : Str) (st : Stmt) : Prop := ∃ f fd, Fun K x x st f fd ∧ mg x = some (.ref f)
def BindOk (x : Str) (st : Stmt) (ps : List Str) : Prop := ∀ (kV doc pm : Value) (an : Option Addr) (cdv ct : Value) (us : List Value), us.length = ps.length → bindArgs (PySem.W.fnOf x x (defArgs st) (defBody st) (defScope st) .none kV doc pm an cdv ct) ⟨us, []⟩ = pure (ps.zip us)
theorem cal_mk {sp : Sp} (F : FunAt K mg x st) (S : FnScope N ps (defScope st)) (hb : BindOk x st ps) (len : ∀ vs H Q E, sp vs H Q E → vs.length = ps.length)
    (hbody : ∀ (f : Addr) (cdv : Value) (A : Around) (outer : List Env) (s : Shared) (H : Hp) (vs : List V) (Q : VK) (E : XK), Room k (A.deeper (envOfC x (defScope st) s.heap.objs.size f cdv)) → sp vs H Q E →
      ∃ t, PSs (cxOf CX0 P w K mg base N x (defScope st) f cdv A outer s H E).nox (defBody st) t ∧ t { nx := fun _ H' => Q .non H', rt := Q } (start N vs) H) : Cal P w K mg base x (k + 1) ps sp := by
  obtain ⟨f, fd, F, hm⟩ := F
  refine ⟨f, fd, F.ok S len (hbody f), hm, F.kp, F.binds hb, ?_⟩
  obtain ⟨oc, od, kV, doc, pm, an, cdv, ct, osl, _, l, _⟩ := F.ex
  exact ⟨oc, od, osl, l⟩
theorem cal1 {f : V → Hp → VK → Prop} (F : FunAt K mg x st) (S : FnScope N ps (defScope st)) (hb : BindOk x st ps) (hn : ps.length = 1)
    (hbody : ∀ (g : Addr) (cdv : Value) (A : Around) (outer : List Env) (s : Shared) (H : Hp) (a : V) (Q : VK) (E : XK), Room k (A.deeper (envOfC x (defScope st) s.heap.objs.size g cdv)) → f a H Q →
      ∃ t, PSs (cxOf CX0 P w K mg base N x (defScope st) g cdv A outer s H E).nox (defBody st) t ∧ t { nx := fun _ H' => Q .non H', rt := Q } (start N [a]) H) : Cal P w K mg base x (k + 1) ps (sp1 f) :=
  cal_mk F S hb (fun vs H Q E h => by obtain ⟨a, rfl, _⟩ := h; exact hn.symm) fun g cdv A outer s H vs Q E hr h => by obtain ⟨a, rfl, h⟩ := h; exact hbody g cdv A outer s H a Q E hr h
theorem cal2 {f : V → V → Hp → VK → Prop} (F : FunAt K mg x st) (S : FnScope N ps (defScope st)) (hb : BindOk x st ps) (hn : ps.length = 2)
    (hbody : ∀ (g : Addr) (cdv : Value) (A : Around) (outer : List Env) (s : Shared) (H : Hp) (a b : V) (Q : VK) (E : XK), Room k (A.deeper (envOfC x (defScope st) s.heap.objs.size g cdv)) → f a b H Q →
      ∃ t, PSs (cxOf CX0 P w K mg base N x (defScope st) g cdv A outer s H E).nox (defBody st) t ∧ t { nx := fun _ H' => Q .non H', rt := Q } (start N [a, b]) H) : Cal P w K mg base x (k + 1) ps (sp2 f) :=
  cal_mk F S hb (fun vs H Q E h => by obtain ⟨a, b, rfl, _⟩ := h; exact hn.symm) fun g cdv A outer s H vs Q E hr h => by obtain ⟨a, b, rfl, h⟩ := h; exact hbody g cdv A outer s H a b Q E hr h
theorem cal3 {f : V → V → V → Hp → VK → Prop} (F : FunAt K mg x st) (S : FnScope N ps (defScope st)) (hb : BindOk x st ps) (hn : ps.length = 3)
    (hbody : ∀ (g : Addr) (cdv : Value) (A : Around) (outer : List Env) (s : Shared) (H : Hp) (a b c : V) (Q : VK) (E : XK), Room k (A.deeper (envOfC x (defScope st) s.heap.objs.size g cdv)) → f a b c H Q →
      ∃ t, PSs (cxOf CX0 P w K mg base N x (defScope st) g cdv A outer s H E).nox (defBody st) t ∧ t { nx := fun _ H' => Q .non H', rt := Q } (start N [a, b, c]) H) : Cal P w K mg base x (k + 1) ps (sp3 f) :=
  cal_mk F S hb (fun vs H Q E h => by obtain ⟨a, b, c, rfl, _⟩ := h; exact hn.symm) fun g cdv A outer s H vs Q E hr h => by obtain ⟨a, b, c, rfl, h⟩ := h; exact hbody g cdv A outer s H a b c Q E hr h
theorem cal4 {f : V → V → V → V → Hp → VK → Prop} (F : FunAt K mg x st) (S : FnScope N ps (defScope st)) (hb : BindOk x st ps) (hn : ps.length = 4)
    (hbody : ∀ (g : Addr) (cdv : Value) (A : Around) (outer : List Env) (s : Shared) (H : Hp) (a b c d : V) (Q : VK) (E : XK), Room k (A.deeper (envOfC x (defScope st) s.heap.objs.size g cdv)) → f a b c d H Q →
      ∃ t, PSs (cxOf CX0 P w K mg base N x (defScope st) g cdv A outer s H E).nox (defBody st) t ∧ t { nx := fun _ H' => Q .non H', rt := Q } (start N [a, b, c, d]) H) : Cal P w K mg base x (k + 1) ps (sp4 f) :=
  cal_mk F S hb (fun vs H Q E h => by obtain ⟨a, b, c, d, rfl, _⟩ := h; exact hn.symm) fun g cdv A outer s H vs Q E hr h => by obtain ⟨a, b, c, d, rfl, h⟩ := h; exact hbody g cdv A outer s H a b c d Q E hr h
theorem cal5 {f : V → V → V → V → V → Hp → VK → Prop} (F : FunAt K mg x st) (S : FnScope N ps (defScope st)) (hb : BindOk x st ps) (hn : ps.length = 5)
    (hbody : ∀ (g : Addr) (cdv : Value) (A : Around) (outer : List Env) (s : Shared) (H : Hp) (a b c d e : V) (Q : VK) (E : XK), Room k (A.deeper (envOfC x (defScope st) s.heap.objs.size g cdv)) → f a b c d e H Q →
      ∃ t, PSs (cxOf CX0 P w K mg base N x (defScope st) g cdv A outer s H E).nox (defBody st) t ∧ t { nx := fun _ H' => Q .non H', rt := Q } (start N [a, b, c, d, e]) H) : Cal P w K mg base x (k + 1) ps (sp5 f) :=
  cal_mk F S hb (fun vs H Q E h => by obtain ⟨a, b, c, d, e, rfl, _⟩ := h; exact hn.symm) fun g cdv A outer s H vs Q E hr h => by obtain ⟨a, b, c, d, e, rfl, h⟩ := h; exact hbody g cdv A outer s H a b c d e Q E hr h
theorem Cal.mono {sp : Sp} {j : Nat} (c : Cal P w K mg base x k ps sp) (h : k ≤ j) : Cal P w K mg base x j ps sp := by
  obtain ⟨f, fd, F, r⟩ := c
  exact ⟨f, fd, F.mono h, r⟩
end

/-- the law's own def, for the end -/
theorem law_fd {P : Program} {w : World} {K : PySem.W.Frag} {mg : Str → Option Value} {x : Str} {st : Stmt} {p : Str} {k : Nat} {sp : Sp} {fa : Addr} {good : Heap → Prop} (F : FunAt K mg x st) (hb : BindOk x st [p]) (hfa : mg x = some (.ref fa))
    (h : ∀ base : Heap, good base → Cal P w K mg base x k [p] sp) :
    ∃ fd : FuncData, (∀ (s : Shared) (v : Value), BindsTo s fd ⟨[v], []⟩ [(p, v)]) ∧ ∀ base : Heap, good base → FnOk P w K mg base CX0 k fa fd [p] sp := by
  obtain ⟨f, fd, F, hm⟩ := F
  rw [hfa] at hm
  cases hm
  obtain ⟨oc, od, kV, doc, pm, an, cdv, ct, osl, rfl, l, _⟩ := F.ex
  refine ⟨_, fun s v => .of_eq (hb kV doc pm an cdv ct [v] rfl), fun base g => ?_⟩
  obtain ⟨f', fd', F', hm', _, _, oc', od', osl', l'⟩ := h base g
  rw [hfa] at hm'
  cases hm'
  rw [l] at l'
  cases l'
  exact F'

/-! names of the module -/
theorem pe_gint {X : Cx} {x : Str} {i : Int} {pos : Pos} (hm : ∃ t, X.mg x = some (.int i t)) (hg : Gl X x := by rfl) (hd : (x == ("__debug__" : Str)) = false := by decide) : PE X (.Name x pos) (tC (.int i)) := by
  obtain ⟨t, h⟩ := hm
  exact pe_glob hg h ⟨_, rfl⟩ hd
theorem pe_gstr {X : Cx} {x : Str} {i : Str} {pos : Pos} (hm : ∃ t, X.mg x = some (.str i t)) (hg : Gl X x := by rfl) (hd : (x == ("__debug__" : Str)) = false := by decide) : PE X (.Name x pos) (tC (.str i)) := by
  obtain ⟨t, h⟩ := hm
  exact pe_glob hg h ⟨_, rfl⟩ hd
theorem pe_ty {X : Cx} {x : Str} {n : String} {pos : Pos} (hm : X.mg x = none) (hv : bootBuiltins x = some (.type n)) (hg : Gl X x := by rfl) (hn : x ≠ "__name__" := by decide) (hd : (x == ("__debug__" : Str)) = false := by decide) : PE X (.Name x pos) (tC (.ty n)) :=
  pe_bltn hg hm hv rfl hn hd

/-! operators, all kinds -/
abbrev rAddS0 : R2 := fun x y H Q => ∃ i j, x = .str i ∧ y = .str j ∧ i.length + j.length ≤ sizeLine ∧ Q (.str (i ++ j)) H
def rAddA (K : PySem.W.Frag) : R2 := fun x y H Q => (rI0 (fun i j => .int (i + j)) x y H Q ∨ rAddS0 x y H Q) ∨ (rCatA K x y H Q ∨ rCat x y H Q)
theorem op_addA {X : Cx} : OpR X (binaryOp .Add) (rAddA X.K) := (op_add.or op_add_str).or (op_catA.or op_cat)
def rEqA (K : PySem.W.Frag) : R2 := fun x y H Q => rEq x y H Q ∨ rEqD K x y H Q
def rNeA (K : PySem.W.Frag) : R2 := fun x y H Q => rNe x y H Q ∨ rNeD K x y H Q
theorem op_eqA {X : Cx} {k : Nat} (hr : Room k X.A) : OpR X (compareOp .Eq) (rEqA X.K) := op_eq.or (op_eqD hr.units)
theorem op_neA {X : Cx} {k : Nat} (hr : Room k X.A) : OpR X (compareOp .NotEq) (rNeA X.K) := op_ne.or (op_neD hr.units)
def rLenA (K : PySem.W.Frag) : List V → Hp → VK → Prop := fun xs H Q => ∃ x n, xs = [x] ∧ LenV K x H n ∧ Q (.int n) H
theorem cr_lenA {X : Cx} : CallR X (.builtin "len") (rLenA X.K) := call_len
def rTupOf (K : PySem.W.Frag) : List V → Hp → VK → Prop := fun xs H Q => ∃ p ys, xs = [.ref p] ∧ ((SqL K H p ys ∧ ∀ l, H l = none → Q (.ref l) (upd H l (.tup ys))) ∨ (SqT K H p ys ∧ Q (.ref p) H))
theorem cr_tupOf {X : Cx} : CallR X (.type "tuple") (rTupOf X.K) := call_tuple_of
def rLstOf (K : PySem.W.Frag) : List V → Hp → VK → Prop := fun xs H Q => ∃ p ys, xs = [.ref p] ∧ (SqL K H p ys ∨ SqT K H p ys) ∧ ∀ l, H l = none → Q (.ref l) (upd H l (.lst ys))
theorem cr_lstOf {X : Cx} : CallR X (.type "list") (rLstOf X.K) := call_list_of
def rInt1 : List V → Hp → VK → Prop := fun xs H Q => (∃ i, xs = [.int i] ∧ Q (.int i) H) ∨ ∃ k, xs = [.bl k] ∧ Q (.int (if k then 1 else 0)) H
theorem cr_int1 {X : Cx} : CallR X (.type "int") rInt1 := call_int1
def rMin2 : List V → Hp → VK → Prop := fun xs H Q => ∃ i j, xs = [.int i, .int j] ∧ Q (.int (if j < i then j else i)) H
theorem cr_min2 {X : Cx} (hc : X.calm = true) : CallR X (.builtin "min") rMin2 := call_min2 hc
def rMax2 : List V → Hp → VK → Prop := fun xs H Q => ∃ i j, xs = [.int i, .int j] ∧ Q (.int (if j > i then j else i)) H
theorem cr_max2 {X : Cx} (hc : X.calm = true) : CallR X (.builtin "max") rMax2 := call_max2 hc

/-! walked things, all kinds -/
theorem pi_or {X : Cx} {tg e : Expr} {a b : TI} (h : PI X tg e a) (h' : PI X tg e b) : PI X tg e (fun σ H R => a σ H R ∨ b σ H R) :=
  ⟨fun pins s σ H R I hw => hw.elim (fun z => h.run pins s σ H R I z) fun z => h'.run pins s σ H R I z⟩
def iSeq (K : PySem.W.Frag) (t : TE) : TI := fun σ H R => t σ H fun x H1 => ((∃ a, x = .ref a ∧ (∃ xs, SqL K H1 a xs) ∧ R (Itl K a) H1) ∨ (∃ a, x = .ref a ∧ (∃ xs, SqT K H1 a xs) ∧ R (Itt K a) H1)) ∨ ∃ z, x = .str z ∧ R (Its z) H1
theorem pi_seq {X : Cx} {tg e : Expr} {te : TE} (he : PE X e te) : PI X tg e (iSeq X.K te) := by
  refine ⟨fun pins s σ H R I h => ?_⟩
  refine thn (he.run pins s σ H _ I h) fun v s1 ⟨x, H1, I1, r1, q1⟩ => ?_
  rcases q1 with (q | q) | q
  · obtain ⟨a, e, ⟨xs, hq⟩, q⟩ := q
    subst e
    cases r1
    obtain ⟨its, rv, p, hz⟩ := I1.list hq
    refine wpAny_pyIter_list p.isList ?_
    refine ⟨s1.heap.objs.size, [s1.heap.objs.size], _, _, H1, rfl, I1.kept (t' := s1.toks) fun b o e => Heap.get?_push_of_some _ e, turn_list a _, ⟨_, Heap.get?_push_size _ rfl, rfl, rfl⟩, fun b hb => ?_, q⟩
    have e : b = s1.heap.objs.size := by simpa using hb
    subst e
    exact I1.fpOk (Nat.le_refl _) (I1.hok.fresh (Nat.le_refl _))
  · obtain ⟨a, e, ⟨xs, hq⟩, q⟩ := q
    subst e
    cases r1
    obtain ⟨its, rv, p, hz⟩ := I1.tuple hq
    refine wpAny_pyIter_tuple (show s1.heap.IsTuple a its.toArray from p) ?_
    refine ⟨s1.heap.objs.size, [s1.heap.objs.size], _, _, H1, rfl, I1.kept (t' := s1.toks) fun b o e => Heap.get?_push_of_some _ e, turn_tuple a _, ⟨_, Heap.get?_push_size _ rfl, rfl, rfl⟩, fun b hb => ?_, q⟩
    have e : b = s1.heap.objs.size := by simpa using hb
    subst e
    exact I1.fpOk (Nat.le_refl _) (I1.hok.fresh (Nat.le_refl _))
  · obtain ⟨z, e, q⟩ := q
    subst e
    obtain ⟨t, rfl⟩ := r1
    cases ha : z.cps.all (· < 128)
    · exact wpAny_pyIter_wide ha (pi_one (tk := s1.toks) I1 _ (turn_str _ z t "str_iterator" (.inr rfl)) ⟨_, Heap.get?_push_size _ rfl, rfl, rfl⟩ q)
    · exact wpAny_pyIter_ascii ha (pi_one (tk := s1.toks) I1 _ (turn_str _ z t "str_ascii_iterator" (.inl rfl)) ⟨_, Heap.get?_push_size _ rfl, rfl, rfl⟩ q)

/-! slices, all kinds -/
def rSlX (K : PySem.W.Frag) : V → Option Int → Option Int → Hp → VK → Prop := fun x lo hi H Q => (rSlL K x lo hi H Q ∨ rSlA K x lo hi H Q) ∨ rSlS x lo hi H Q
theorem sl_any {X : Cx} : SlR X (rSlX X.K) := (sl_list.or sl_tupA).or sl_str

/-! ### data that stays: None, truths, ints, texts, tuples; of a list only that it is one -/
inductive T where
  | non | bl (b : Bool) | int (i : Int) | str (s : Str) | tup (ts : List T) | lst
mutual
inductive Tv (K : PySem.W.Frag) (H : Hp) : V → T → Prop
  | non : Tv K H .non .non
  | bl (b : Bool) : Tv K H (.bl b) (.bl b)
  | int (i : Int) : Tv K H (.int i) (.int i)
  | str (s : Str) : Tv K H (.str s) (.str s)
  | tup {a : Addr} {xs : List V} {ts : List T} : SqT K H a xs → TvA K H xs ts → Tv K H (.ref a) (.tup ts)
  | lst {a : Addr} {xs : List V} : SqL K H a xs → Tv K H (.ref a) .lst
inductive TvA (K : PySem.W.Frag) (H : Hp) : List V → List T → Prop
  | nil : TvA K H [] []
  | cons {v : V} {vs : List V} {t : T} {ts : List T} : Tv K H v t → TvA K H vs ts → TvA K H (v :: vs) (t :: ts)
end
/-- tuples stay, a list stays one -/
structure Tame (H H' : Hp) : Prop where
  tup : ∀ a xs, Rd H a (.tup xs) → Rd H' a (.tup xs)
  lst : ∀ a xs, Rd H a (.lst xs) → ∃ ys, Rd H' a (.lst ys)
theorem Tame.refl (H : Hp) : Tame H H := ⟨fun _ _ h => h, fun _ xs h => ⟨xs, h⟩⟩
theorem Tame.trans {H H1 H2 : Hp} (a : Tame H H1) (b : Tame H1 H2) : Tame H H2 :=
  ⟨fun x xs h => b.tup x xs (a.tup x xs h), fun x xs h => by obtain ⟨ys, h⟩ := a.lst x xs h; exact b.lst x ys h⟩
abbrev Ex := Evl.Ex
theorem Tame.ex {H H' : Hp} (e : Ex H H') : Tame H H' := ⟨fun _ _ h => Evl.ex_rd e h, fun _ xs h => ⟨xs, Evl.ex_rd e h⟩⟩
theorem Tame.sqT {K : PySem.W.Frag} {H H' : Hp} {a : Addr} {xs : List V} (e : Tame H H') (h : SqT K H a xs) : SqT K H' a xs := h.elim (fun z => .inl (e.tup _ _ z)) .inr
theorem Tame.sqL {K : PySem.W.Frag} {H H' : Hp} {a : Addr} {xs : List V} (e : Tame H H') (h : SqL K H a xs) : ∃ ys, SqL K H' a ys :=
  h.elim (fun z => by obtain ⟨ys, q⟩ := e.lst _ _ z; exact ⟨ys, .inl q⟩) fun z => ⟨xs, .inr z⟩
theorem Tame.upd {H : Hp} {a : Addr} {xs ys : List V} (h : H a = some (.lst xs)) : Tame H (upd H a (.lst ys)) := by
  refine ⟨fun b zs q => ?_, fun b zs q => ?_⟩
  · have ne : b ≠ a := by
      rintro rfl
      rcases q with q | ⟨o, q⟩
      · rw [h] at q; cases q
      · rw [h] at q; cases q
    rcases q with q | ⟨o, q⟩
    · exact .inl (by rw [upd_ne ne]; exact q)
    · exact .inr ⟨o, by rw [upd_ne ne]; exact q⟩
  · by_cases ne : b = a
    · subst ne
      exact ⟨ys, .inl upd_same⟩
    · rcases q with q | ⟨o, q⟩
      · exact ⟨zs, .inl (by rw [upd_ne ne]; exact q)⟩
      · exact ⟨zs, .inr ⟨o, by rw [upd_ne ne]; exact q⟩⟩
section
variable {K : PySem.W.Frag} {H H' : Hp}
mutual
theorem Tame.tv (e : Tame H H') : ∀ {v : V} {t : T}, Tv K H v t → Tv K H' v t
  | _, _, .non => .non
  | _, _, .bl b => .bl b
  | _, _, .int i => .int i
  | _, _, .str s => .str s
  | _, _, .tup h a => .tup (e.sqT h) (Tame.tvA e a)
  | _, _, .lst h => by obtain ⟨ys, q⟩ := e.sqL h; exact .lst q
theorem Tame.tvA (e : Tame H H') : ∀ {v : List V} {t : List T}, TvA K H v t → TvA K H' v t
  | _, _, .nil => .nil
  | _, _, .cons h a => .cons (Tame.tv e h) (Tame.tvA e a)
end
theorem TvA.len : ∀ {vs : List V} {ts : List T}, TvA K H vs ts → vs.length = ts.length
  | _, _, .nil => rfl
  | _, _, .cons _ a => congrArg (· + 1) a.len
theorem TvA.get : ∀ {vs : List V} {ts : List T} {i : Nat} {t : T}, TvA K H vs ts → ts[i]? = some t → ∃ v, vs[i]? = some v ∧ Tv K H v t
  | _, _, i, _, .nil, h => by simp at h
  | _, _, 0, _, .cons h _, e => by cases (Option.some.inj e); exact ⟨_, rfl, h⟩
  | _, _, i + 1, _, .cons _ a, e => a.get (i := i) e
theorem TvA.getV : ∀ {vs : List V} {ts : List T} {i : Nat} {v : V}, TvA K H vs ts → vs[i]? = some v → ∃ t, ts[i]? = some t ∧ Tv K H v t
  | _, _, i, _, .nil, h => by simp at h
  | _, _, 0, _, .cons h _, e => by cases (Option.some.inj e); exact ⟨_, rfl, h⟩
  | _, _, i + 1, _, .cons _ a, e => a.getV (i := i) e
theorem TvA.append : ∀ {xs ys : List V} {ts us : List T}, TvA K H xs ts → TvA K H ys us → TvA K H (xs ++ ys) (ts ++ us)
  | _, _, _, _, .nil, b => b
  | _, _, _, _, .cons h a, b => .cons h (a.append b)
theorem TvA.take : ∀ {xs : List V} {ts : List T} (n : Nat), TvA K H xs ts → TvA K H (xs.take n) (ts.take n)
  | _, _, 0, _ => .nil
  | _, _, n + 1, .nil => .nil
  | _, _, n + 1, .cons h a => .cons h (a.take n)
theorem TvA.drop : ∀ {xs : List V} {ts : List T} (n : Nat), TvA K H xs ts → TvA K H (xs.drop n) (ts.drop n)
  | _, _, 0, a => a
  | _, _, n + 1, .nil => .nil
  | _, _, n + 1, .cons _ a => a.drop n
def cutT (xs : List T) (lo hi : Option Int) : List T := (xs.drop (HT.sIx xs.length 0 lo)).take (HT.sIx xs.length xs.length hi - HT.sIx xs.length 0 lo)
theorem TvA.cut {xs : List V} {ts : List T} (h : TvA K H xs ts) (lo hi : Option Int) : TvA K H (cutV xs lo hi) (cutT ts lo hi) := by
  unfold cutV cutT
  rw [h.len]
  exact (h.drop _).take _
end
theorem TvA.one {K : PySem.W.Frag} {H : Hp} {v : V} {t : T} (h : Tv K H v t) : TvA K H [v] [t] := .cons h .nil
theorem Tv.tupE {K : PySem.W.Frag} {H : Hp} {v : V} {ts : List T} (h : Tv K H v (.tup ts)) : ∃ a xs, v = .ref a ∧ SqT K H a xs ∧ TvA K H xs ts := by
  cases h with | tup h a => exact ⟨_, _, rfl, h, a⟩
theorem TvA.consE {K : PySem.W.Frag} {H : Hp} {vs : List V} {t : T} {ts : List T} (h : TvA K H vs (t :: ts)) : ∃ x xs, vs = x :: xs ∧ Tv K H x t ∧ TvA K H xs ts := by
  cases h with | cons h a => exact ⟨_, _, rfl, h, a⟩
theorem TvA.nilE {K : PySem.W.Frag} {H : Hp} {vs : List V} (h : TvA K H vs []) : vs = [] := by cases h; rfl
theorem Tv.intE {K : PySem.W.Frag} {H : Hp} {v : V} {i : Int} (h : Tv K H v (.int i)) : v = .int i := by cases h; rfl
theorem Tv.strE {K : PySem.W.Frag} {H : Hp} {v : V} {i : Str} (h : Tv K H v (.str i)) : v = .str i := by cases h; rfl
theorem Tv.blE {K : PySem.W.Frag} {H : Hp} {v : V} {i : Bool} (h : Tv K H v (.bl i)) : v = .bl i := by cases h; rfl
theorem Tv.nonE {K : PySem.W.Frag} {H : Hp} {v : V} (h : Tv K H v .non) : v = .non := by cases h; rfl

theorem TvA.mem {K : PySem.W.Frag} {H : Hp} {vs : List V} {ts : List T} {v : V} (h : TvA K H vs ts) (m : v ∈ vs) : ∃ t, t ∈ ts ∧ Tv K H v t := by
  obtain ⟨i, e⟩ := List.getElem?_of_mem m
  obtain ⟨t, e2, hv⟩ := h.getV e
  exact ⟨t, List.mem_of_getElem? e2, hv⟩
/-! isinstance by kind -/
def tyT : T → String
  | .non => "NoneType" | .bl _ => "bool" | .int _ => "int" | .str _ => "str" | .tup _ => "tuple" | .lst => "list"
theorem Tv.ty {K : PySem.W.Frag} {H : Hp} {v : V} {t : T} (h : Tv K H v t) : TyX K H v (.type (tyT t)) := by
  cases h with
  | non => exact .base .non
  | bl b => exact .base (.bl b)
  | int i => exact .base (.int i)
  | str i => exact .base (.str i)
  | tup h _ =>
    rcases h with (h | ⟨o, h⟩) | ⟨o, its, n, h, c, _⟩
    · exact .base (.tup h)
    · exact .fTuple h
    · exact .kTuple h c
  | lst h =>
    rcases h with (h | ⟨o, h⟩) | ⟨o, its, n, h, c, _⟩
    · exact .base (.lst h)
    · exact .base (.frz h)
    · exact .kList h c
def isS (s n : String) : Bool := n == s || (s == "bool" && n == "int")
def isT (t : T) (n : String) : Bool := isS (tyT t) n
theorem kitS : ∀ s ∈ ["NoneType", "bool", "int", "str", "tuple", "list"], ∀ n ∈ ["int", "bool", "str", "tuple", "list"], kitB s n = some (isS s n) := by decide +kernel
theorem isT_kit {K : PySem.W.Frag} (t : T) {n : String} (hn : n ∈ ["int", "bool", "str", "tuple", "list"]) : PySem.W.kitOne K (.type (tyT t)) (.type n) = some (isT t n) := by
  refine kit_ty (kitS _ ?_ n hn)
  cases t <;> simp [tyT]
def isInt : T → Bool | .int _ => true | .bl _ => true | _ => false
def isBool : T → Bool | .bl _ => true | _ => false
def isStr : T → Bool | .str _ => true | _ => false
def isTup : T → Bool | .tup _ => true | _ => false
def isLst : T → Bool | .lst => true | _ => false
section
variable {K : PySem.W.Frag} {H : Hp} {Q : VK} {v : V} {t : T}
theorem rd_isi {n : String} {b : Bool} (h : Tv K H v t) (hn : n ∈ ["int", "bool", "str", "tuple", "list"]) (e : isT t n = b) (q : Q (.bl b) H) : rIsi K [v, .ty n] H Q :=
  ⟨v, .ty n, _, _, _, rfl, .ty n, h.ty, isT_kit t hn, by rw [e]; exact q⟩
theorem rd_isInt (h : Tv K H v t) (q : Q (.bl (isInt t)) H) : rIsi K [v, .ty "int"] H Q := rd_isi h (by decide) (by cases t <;> rfl) q
theorem rd_isBool (h : Tv K H v t) (q : Q (.bl (isBool t)) H) : rIsi K [v, .ty "bool"] H Q := rd_isi h (by decide) (by cases t <;> rfl) q
theorem rd_isStr (h : Tv K H v t) (q : Q (.bl (isStr t)) H) : rIsi K [v, .ty "str"] H Q := rd_isi h (by decide) (by cases t <;> rfl) q
theorem rd_isTup (h : Tv K H v t) (q : Q (.bl (isTup t)) H) : rIsi K [v, .ty "tuple"] H Q := rd_isi h (by decide) (by cases t <;> rfl) q
theorem rd_isLst (h : Tv K H v t) (q : Q (.bl (isLst t)) H) : rIsi K [v, .ty "list"] H Q := rd_isi h (by decide) (by cases t <;> rfl) q
end

/-! ### reading step by step -/
section
variable {K : PySem.W.Frag} {σ : L2.St} {H : Hp} {Q : VK} {ta tb tc te : TE} {tt tu : TT} {x y v : V} {D : Ends} {s1 s2 : TS}
theorem rd_var {i : Nat} (h : σ[i]? = some (some v)) (q : Q v H) : tVar i σ H Q := ⟨v, h, q⟩
theorem rd_c (q : Q v H) : tC v σ H Q := q
theorem rd_op {r : R2} (q : ta σ H fun x H1 => tb σ H1 fun y H2 => r x y H2 Q) : tOp r ta tb σ H Q := q
theorem rd_un {r : V → Hp → VK → Prop} (q : ta σ H fun x H1 => r x H1 Q) : tUn r ta σ H Q := q
theorem rd_cb {r : List V → Hp → VK → Prop} {t : TA} (q : t σ H fun vs H1 => r vs H1 Q) : tCB r t σ H Q := q
theorem rd_cal {sp : Sp} {t : TA} (q : t σ H fun vs H1 => sp vs H1 Q E0) : tCal sp t σ H Q := q
theorem rd_cons {t : TA} {R : List V → Hp → Prop} (q : ta σ H fun x H1 => t σ H1 fun xs H2 => R (x :: xs) H2) : tCons ta t σ H R := q
theorem rd_nil {R : List V → Hp → Prop} (q : R [] H) : tNil σ H R := q
def NewL (xs : List V) (H : Hp) (Q : VK) : Prop := xs.length ≤ sizeLine ∧ ∀ p, H p = none → Q (.ref p) (upd H p (.lst xs))
def NewT (xs : List V) (H : Hp) (Q : VK) : Prop := xs.length ≤ sizeLine ∧ ∀ p, H p = none → Q (.ref p) (upd H p (.tup xs))
theorem rd_tup {t : TA} (q : t σ H fun xs H1 => NewT xs H1 Q) : tTup t σ H Q := q
theorem rd_lst {t : TA} (q : t σ H fun xs H1 => NewL xs H1 Q) : tLst t σ H Q := q
theorem new_tup {xs : List V} (q : ∀ p H', H p = none → Ex H H' → H' p = some (.tup xs) → Q (.ref p) H') (hl : xs.length ≤ 1000 := by first | decide | assumption | simp) : NewT xs H Q :=
  ⟨Nat.le_of_lt (small1000 hl), fun p hp => q p _ hp (Evl.Ex.new hp) upd_same⟩
theorem new_lst {xs : List V} (q : ∀ p H', H p = none → Ex H H' → H' p = some (.lst xs) → Q (.ref p) H') (hl : xs.length ≤ 1000 := by first | decide | assumption | simp) : NewL xs H Q :=
  ⟨Nat.le_of_lt (small1000 hl), fun p hp => q p _ hp (Evl.Ex.new hp) upd_same⟩
theorem rd_test {R : Bool → Hp → Prop} (q : te σ H fun x H' => ∃ k, x = .bl k ∧ R k H') : tTest te σ H R := q
theorem rd_tB {R : Bool → Hp → Prop} (q : te σ H fun x H' => ∃ k, x = .bl k ∧ R k H') : tB te σ H R := q
theorem rd_bl {b : Bool} {R : Bool → Hp → Prop} (q : R b H) : ∃ k, V.bl b = .bl k ∧ R k H := ⟨b, rfl, q⟩
theorem rd_blP {b : Bool} {P : Bool → Prop} (q : P b) : ∃ k, V.bl b = .bl k ∧ P k := ⟨b, rfl, q⟩
def tTru (K : PySem.W.Frag) (ta : TE) : TT := fun σ H Q => ta σ H fun x H' => ∃ k, TruV K x H' k ∧ Q k H'
theorem pt_tru {X : Cx} {a : Expr} {ta : TE} (ha : PE X a ta) (he : ∀ whole, isTrue a X.env whole = (do let v ← whole; standAt a.pos; holding [v] (truthy v)) := by intro _; rfl) : PT X a (tTru X.K ta) := pt_truth ha he
theorem rd_tru {R : Bool → Hp → Prop} (q : ta σ H fun x H' => ∃ k, TruV K x H' k ∧ R k H') : tTru K ta σ H R := q
theorem rd_trub {b : Bool} {R : Bool → Prop} (q : R b) : ∃ k, TruV K (.bl b) H k ∧ R k := ⟨b, rfl, q⟩
theorem rd_trui {i : Int} {R : Bool → Prop} (q : R (i != 0)) : ∃ k, TruV K (.int i) H k ∧ R k := ⟨_, rfl, q⟩
theorem rd_trun {R : Bool → Prop} (q : R false) : ∃ k, TruV K .non H k ∧ R k := ⟨_, rfl, q⟩
theorem rd_truT {ts : List T} (h : Tv K H v (.tup ts)) {R : Bool → Prop} (q : R (!ts.isEmpty)) : ∃ k, TruV K v H k ∧ R k := by
  obtain ⟨a, xs, rfl, hs, ha⟩ := h.tupE
  refine ⟨_, .inr (.inl ⟨xs, hs, rfl⟩), ?_⟩
  have e : xs.isEmpty = ts.isEmpty := by cases ha <;> rfl
  rw [e]; exact q
theorem rd_truL {a : Addr} {xs : List V} (h : SqL K H a xs) {R : Bool → Prop} (q : R (!xs.isEmpty)) : ∃ k, TruV K (.ref a) H k ∧ R k := ⟨_, .inl ⟨xs, h, rfl⟩, q⟩
theorem rd_not {R : Bool → Hp → Prop} (q : tt σ H fun c H1 => R (!c) H1) : tNot tt σ H R := q
theorem rd_and {R : Bool → Hp → Prop} (q : tt σ H fun c H1 => if c = true then tu σ H1 R else R false H1) : tAnd tt tu σ H R := q
theorem rd_or {R : Bool → Hp → Prop} (q : tt σ H fun c H1 => if c = true then R true H1 else tu σ H1 R) : tOr tt tu σ H R := q
theorem rd_andV (q : ta σ H fun x H1 => ∃ c, x = .bl c ∧ if c = true then tb σ H1 Q else Q (.bl false) H1) : tAndV ta tb σ H Q := q
theorem rd_orV (q : ta σ H fun x H1 => ∃ c, x = .bl c ∧ if c = true then Q (.bl true) H1 else tb σ H1 Q) : tOrV ta tb σ H Q := q
theorem rd_notV (q : ta σ H fun x H1 => ∃ c, x = .bl c ∧ Q (.bl (!c)) H1) : tNotV ta σ H Q := q
theorem rd_ifE (q : tt σ H fun c H1 => if c = true then ta σ H1 Q else tb σ H1 Q) : tIf tt ta tb σ H Q := q
theorem rd_chain {r r' : R2} (q : ta σ H fun x H1 => tb σ H1 fun y H2 => r x y H2 fun z H3 => ∃ k, z = .bl k ∧ if k = true then tc σ H3 fun w H4 => r' y w H4 Q else Q (.bl false) H3) : tChain r r' ta tb tc σ H Q := q
theorem rd_seq (q : s1 { D with nx := s2 D } σ H) : tSeq s1 s2 D σ H := q
theorem rd_cut (M : L2.St → Hp → Prop) (h : s1 { D with nx := M } σ H) (k : ∀ σ' H', M σ' H' → s2 D σ' H') : Evl.tCut s1 s2 D σ H := ⟨M, h, k⟩
theorem rd_asg {g : TG} (q : te σ H fun x H1 => g x σ H1 D.nx) : tAsg te g D σ H := q
theorem rd_name {i : Nat} {σ' : L2.St} {R : L2.St → Hp → Prop} (e : σ.set i (some v) = σ') (q : R σ' H) : gName i v σ H R := by subst e; exact q
theorem rd_ifS (q : tt σ H fun b H1 => if b = true then s1 D σ H1 else s2 D σ H1) : tIfS tt s1 s2 D σ H := q
theorem rd_ret (q : te σ H D.rt) : tRet te D σ H := q
theorem rd_retN (q : D.rt .non H) : tRetN D σ H := q
theorem rd_drop (q : te σ H fun _ H1 => D.nx σ H1) : tDrop te D σ H := q
theorem rd_next (q : D.nx σ H) : tNext D σ H := q
theorem rd_brk (q : D.bk σ H) : tBreak D σ H := q
theorem rd_cont (q : D.ct σ H) : tCont D σ H := q
theorem rd_aug {i : Nat} {ti : TIp} {σ' : L2.St → L2.V → L2.St} (h : σ[i]? = some (some x)) (q : te σ H fun y H1 => ti x y H1 fun z H2 => gName i z σ H2 D.nx) : tAug i te ti D σ H := ⟨x, h, q⟩
theorem rd_par {i j : Nat} {t : TA} (q : t σ H fun vs H1 => ∃ v w, vs = [v, w] ∧ D.nx ((σ.set i (some v)).set j (some w)) H1) : tPar i j t D σ H := q
theorem rd_par2 {i j : Nat} {a b : V} {σ' : L2.St} {R : L2.St → Hp → Prop} (e : (σ.set i (some a)).set j (some b) = σ') (q : R σ' H) : ∃ v w, [a, b] = [v, w] ∧ R ((σ.set i (some v)).set j (some w)) H := ⟨a, b, rfl, by rw [e]; exact q⟩
theorem rd_gtup {n : Nat} {t : TGs} {a : Addr} {xs : List V} {R : L2.St → Hp → Prop} (h : SqT K H a xs) (hl : xs.length = n) (q : t xs σ H R) : gTup K n t (.ref a) σ H R := ⟨a, xs, rfl, h, hl, q⟩
theorem rd_gcons {g : TG} {t : TGs} {xs : List V} {R : L2.St → Hp → Prop} (q : g x σ H fun σ' H' => t xs σ' H' R) : gCons g t (x :: xs) σ H R := ⟨x, xs, rfl, q⟩
theorem rd_gnil {R : L2.St → Hp → Prop} (q : R σ H) : gNil [] σ H R := ⟨rfl, q⟩
theorem rd_gsub {to ti : TE} {t : TSet} {R : L2.St → Hp → Prop} (q : to σ H fun o H1 => ti σ H1 fun i H2 => t o i v H2 fun H3 => R σ H3) : gSub to ti t v σ H R := q
theorem rd_setL {p : Addr} {xs : List V} {k : Int} {j : Nat} {R : Hp → Prop} (h : H p = some (.lst xs)) (hk : ixN xs.length k = some j) (q : R (upd H p (.lst (xs.set j v)))) : rSetL (.ref p) (.int k) v H R := ⟨p, xs, k, j, rfl, rfl, h, hk, q⟩
theorem rd_bm {T' : String} {r : V → List V → Hp → VK → Prop} {to : TE} {t : TA} (q : to σ H fun x H1 => tyV K T' x H1 ∧ t σ H1 fun xs H2 => r x xs H2 Q) : tBM K T' r to t σ H Q := q
theorem rd_tyL {a : Addr} {xs : List V} {B : Prop} (h : SqL K H a xs) (q : B) : tyV K "list" (.ref a) H ∧ B := ⟨.inl ⟨rfl, _, h⟩, q⟩
theorem rd_append {l : Addr} {xs : List V} {y : V} (h : H l = some (.lst xs)) (hl : xs.length < 1000) (q : Q .non (upd H l (.lst (xs ++ [y])))) : rAppend (.ref l) [y] H Q := ⟨l, xs, y, rfl, rfl, h, small1000 (Nat.le_of_lt hl), q⟩
theorem rd_sl {r : V → Option Int → Option Int → Hp → VK → Prop} {tl th : TO} (q : te σ H fun x H1 => tl σ H1 fun l H2 => th σ H2 fun u H3 => r x l u H3 Q) : tSl r te tl th σ H Q := q
theorem rd_part {R : Option Int → Hp → Prop} (q : te σ H fun x H1 => ∃ i, x = .int i ∧ R (some i) H1) : tPart te σ H R := q
theorem rd_partI {i : Int} {R : Int → Prop} (q : R i) : ∃ j, V.int i = .int j ∧ R j := ⟨i, rfl, q⟩
theorem rd_nopart {R : Option Int → Hp → Prop} (q : R none H) : tNoPart σ H R := q
/-! values -/
theorem rd_addI {i j : Int} (q : Q (.int (i + j)) H) : rAddA K (.int i) (.int j) H Q := .inl (.inl ⟨i, j, rfl, rfl, q⟩)
theorem rd_addS {i j : Str} (hl : i.length + j.length ≤ 1000) (q : Q (.str (i ++ j)) H) : rAddA K (.str i) (.str j) H Q := .inl (.inr ⟨i, j, rfl, rfl, Nat.le_of_lt (small1000 hl), q⟩)
theorem rd_addT {a b : Addr} {xs ys : List V} (ha : SqT K H a xs) (hb : SqT K H b ys) (hl : xs.length + ys.length ≤ 1000) (q : ∀ p H', Ex H H' → SqT K H' p (xs ++ ys) → Q (.ref p) H') : rAddA K (.ref a) (.ref b) H Q := by
  refine .inr (.inl ⟨a, b, xs, ys, rfl, rfl, ha, hb, Nat.le_of_lt (small1000 hl), fun e => ?_, fun e e' => ?_, fun _ _ p hp => q p _ (Evl.Ex.new hp) (.inl (.inl upd_same))⟩)
  · subst e
    exact q b H (Evl.Ex.refl H) hb
  · subst e'
    exact q a H (Evl.Ex.refl H) (by rw [List.append_nil]; exact ha)
theorem rd_addL {a b : Addr} {xs ys : List V} (ha : H a = some (.lst xs)) (hb : H b = some (.lst ys)) (hl : xs.length + ys.length ≤ 1000) (q : ∀ p H', H p = none → Ex H H' → H' p = some (.lst (xs ++ ys)) → Q (.ref p) H') : rAddA K (.ref a) (.ref b) H Q :=
  .inr (.inr ⟨a, b, xs, ys, rfl, rfl, ha, hb, Nat.le_of_lt (small1000 hl), fun p hp => q p _ hp (Evl.Ex.new hp) upd_same⟩)
theorem rd_I0 {i j : Int} {g : Int → Int → V} (q : Q (g i j) H) : rI0 g (.int i) (.int j) H Q := ⟨i, j, rfl, rfl, q⟩
theorem rd_I {i j : Int} {C : Int → Int → Prop} {g : Int → Int → V} (h : C i j) (q : Q (g i j) H) : rI C g (.int i) (.int j) H Q := ⟨i, j, rfl, rfl, h, q⟩
theorem rd_pow9 (q : Q (.int 1000000000) H) : rI CPow (fun i j => .int (i ^ j.toNat)) (.int 10) (.int 9) H Q := ⟨10, 9, rfl, rfl, ⟨by decide, by decide, by decide⟩, q⟩
theorem rd_pow12 (q : Q (.int 1000000000000) H) : rI CPow (fun i j => .int (i ^ j.toNat)) (.int 10) (.int 12) H Q := ⟨10, 12, rfl, rfl, ⟨by decide, by decide, by decide⟩, q⟩
theorem rd_U {i : Int} {g : Int → V} (q : Q (g i) H) : rU g (.int i) H Q := ⟨i, rfl, q⟩
theorem rd_eqI {i j : Int} (q : Q (.bl (decide (i = j))) H) : rEqA K (.int i) (.int j) H Q := .inl ⟨rfl, by rw [show decide (V.int i = V.int j) = decide (i = j) from by rw [Bool.eq_iff_iff]; simp]; exact q⟩
theorem rd_eqS {i j : Str} (q : Q (.bl (decide (i = j))) H) : rEqA K (.str i) (.str j) H Q := .inl ⟨rfl, by rw [show decide (V.str i = V.str j) = decide (i = j) from by rw [Bool.eq_iff_iff]; simp]; exact q⟩
theorem rd_eqB {i j : Bool} (q : Q (.bl (decide (i = j))) H) : rEqA K (.bl i) (.bl j) H Q := .inl ⟨rfl, by rw [show decide (V.bl i = V.bl j) = decide (i = j) from by rw [Bool.eq_iff_iff]; simp]; exact q⟩
theorem rd_neI {i j : Int} (q : Q (.bl (!decide (i = j))) H) : rNeA K (.int i) (.int j) H Q := .inl ⟨rfl, by rw [show decide (V.int i = V.int j) = decide (i = j) from by rw [Bool.eq_iff_iff]; simp]; exact q⟩
theorem rd_neS {i j : Str} (q : Q (.bl (!decide (i = j))) H) : rNeA K (.str i) (.str j) H Q := .inl ⟨rfl, by rw [show decide (V.str i = V.str j) = decide (i = j) from by rw [Bool.eq_iff_iff]; simp]; exact q⟩
theorem rd_neB {i j : Bool} (q : Q (.bl (!decide (i = j))) H) : rNeA K (.bl i) (.bl j) H Q := .inl ⟨rfl, by rw [show decide (V.bl i = V.bl j) = decide (i = j) from by rw [Bool.eq_iff_iff]; simp]; exact q⟩
theorem rd_lenL {a : Addr} {xs : List V} (h : SqL K H a xs) (q : Q (.int (xs.length : Nat)) H) : rLenA K [.ref a] H Q := ⟨_, xs.length, rfl, .inl ⟨xs, h, rfl⟩, q⟩
theorem rd_lenT {a : Addr} {xs : List V} (h : SqT K H a xs) (q : Q (.int (xs.length : Nat)) H) : rLenA K [.ref a] H Q := ⟨_, xs.length, rfl, .inr ⟨xs, h, rfl⟩, q⟩
theorem rd_lenS {s : Str} (h : s.length ≤ 1000) (q : Q (.int (s.length : Nat)) H) : rLenA K [.str s] H Q := ⟨_, s.length, rfl, ⟨Nat.le_of_lt (small1000 h), rfl⟩, q⟩
theorem rd_ixL {a : Addr} {xs : List V} {i : Int} {v : V} (h : SqL K H a xs) (e : atI xs i = some v) (q : Q v H) : rIx K (.ref a) (.int i) H Q := .inl ⟨a, xs, i, v, rfl, rfl, h, e, q⟩
theorem rd_ixT {a : Addr} {xs : List V} {i : Int} {v : V} (h : SqT K H a xs) (e : atI xs i = some v) (q : Q v H) : rIx K (.ref a) (.int i) H Q := .inr (.inl ⟨a, xs, i, v, rfl, rfl, h, e, q⟩)
theorem rd_ixS {z : Str} {i : Int} {c : Nat} (h : z.length ≤ 1000) (e : atI z.cps.toList i = some c) (q : Q (.str ⟨#[c]⟩) H) : rIx K (.str z) (.int i) H Q := .inr (.inr ⟨z, i, c, rfl, rfl, Nat.le_of_lt (small1000 h), e, q⟩)
theorem rd_tupOfL {a : Addr} {xs : List V} (h : SqL K H a xs) (q : ∀ p H', H p = none → Ex H H' → H' p = some (.tup xs) → Q (.ref p) H') : rTupOf K [.ref a] H Q := ⟨a, xs, rfl, .inl ⟨h, fun p hp => q p _ hp (Evl.Ex.new hp) upd_same⟩⟩
theorem rd_lstOfT {a : Addr} {xs : List V} (h : SqT K H a xs) (q : ∀ p H', H p = none → Ex H H' → H' p = some (.lst xs) → Q (.ref p) H') : rLstOf K [.ref a] H Q := ⟨a, xs, rfl, .inr h, fun p hp => q p _ hp (Evl.Ex.new hp) upd_same⟩
theorem rd_lstOfL {a : Addr} {xs : List V} (h : SqL K H a xs) (q : ∀ p H', H p = none → Ex H H' → H' p = some (.lst xs) → Q (.ref p) H') : rLstOf K [.ref a] H Q := ⟨a, xs, rfl, .inl h, fun p hp => q p _ hp (Evl.Ex.new hp) upd_same⟩
theorem rd_intB {b : Bool} (q : Q (.int (if b then 1 else 0)) H) : rInt1 [.bl b] H Q := .inr ⟨b, rfl, q⟩
theorem rd_intI {i : Int} (q : Q (.int i) H) : rInt1 [.int i] H Q := .inl ⟨i, rfl, q⟩
theorem rd_min2 {i j : Int} (q : Q (.int (if j < i then j else i)) H) : rMin2 [.int i, .int j] H Q := ⟨i, j, rfl, q⟩
theorem rd_max2 {i j : Int} (q : Q (.int (if j > i then j else i)) H) : rMax2 [.int i, .int j] H Q := ⟨i, j, rfl, q⟩
theorem rd_slT {a : Addr} {xs : List V} {lo hi : Option Int} (h : SqT K H a xs) (q : ∀ p H', Ex H H' → SqT K H' p (cutV xs lo hi) → Q (.ref p) H') : rSlX K (.ref a) lo hi H Q := by
  refine .inl (.inr ⟨a, xs, rfl, h, fun e => ?_, fun _ p hp => q p _ (Evl.Ex.new hp) (.inl (.inl upd_same))⟩)
  have ec : cutV xs lo hi = xs := by
    unfold cutV
    rw [e.1, e.2, List.drop_zero, Nat.sub_zero, List.take_length]
  exact q a H (Evl.Ex.refl H) (by rw [ec]; exact h)
theorem rd_slL {a : Addr} {xs : List V} {lo hi : Option Int} (h : SqL K H a xs) (q : ∀ p H', H p = none → Ex H H' → H' p = some (.lst (cutV xs lo hi)) → Q (.ref p) H') : rSlX K (.ref a) lo hi H Q :=
  .inl (.inl ⟨a, xs, rfl, h, fun p hp => q p _ hp (Evl.Ex.new hp) upd_same⟩)
theorem rd_slS {z : Str} {lo hi : Option Int} (h : z.length ≤ 1000) (q : Q (.str (cutS z lo hi)) H) : rSlX K (.str z) lo hi H Q := .inr ⟨z, rfl, Nat.le_of_lt (small1000 h), q⟩
theorem rd_ite {p A B : Prop} [Decidable p] (h1 : p → A) (h2 : ¬ p → B) : if decide p = true then A else B := by
  by_cases h : p
  · rw [if_pos (decide_eq_true h)]; exact h1 h
  · rw [if_neg (by rw [decide_eq_false h]; exact Bool.false_ne_true)]; exact h2 h
theorem rd_iteN {p A B : Prop} [Decidable p] (h1 : ¬ p → A) (h2 : p → B) : if (!decide p) = true then A else B := by
  by_cases h : p
  · rw [decide_eq_true h]; exact iteF (h2 h)
  · rw [decide_eq_false h]; exact iteT (h1 h)
theorem rd_iteB {b : Bool} {A B : Prop} (h1 : b = true → A) (h2 : b = false → B) : if b = true then A else B := by
  cases b
  · exact iteF (h2 rfl)
  · exact iteT (h1 rfl)
theorem rd_iteK {b c : Bool} {A B : Prop} (e : b = c) (q : if c = true then A else B) : if b = true then A else B := by rw [e]; exact q
end

theorem cutV_tail (xs : List V) : cutV xs (some 1) none = xs.drop 1 := by
  unfold cutV
  rw [show HT.sIx xs.length 0 (some 1) = min 1 xs.length from HT.sIx_nat xs.length 0 1, HT.sIx_none]
  cases xs with
  | nil => rfl
  | cons x r =>
    rw [show min 1 (x :: r).length = 1 by rw [List.length_cons]; omega]
    show (List.take ((x :: r).length - 1) r) = r
    rw [List.length_cons, Nat.add_sub_cancel]
    exact List.take_length
theorem cutV_from (xs : List V) (n : Nat) : cutV xs (some (n : Int)) none = xs.drop n := by
  unfold cutV
  rw [HT.sIx_nat xs.length 0 n, HT.sIx_none]
  by_cases h : n ≤ xs.length
  · rw [Nat.min_eq_left h]
    exact List.take_of_length_le (by rw [List.length_drop]; exact Nat.le_refl _)
  · rw [Nat.min_eq_right (by omega), Nat.sub_self, List.take_zero, List.drop_eq_nil_of_le (by omega)]
theorem cutV_to (xs : List V) (n : Nat) : cutV xs none (some (n : Int)) = xs.take n := by
  unfold cutV
  rw [HT.sIx_nat xs.length xs.length n, HT.sIx_none, List.drop_zero, Nat.sub_zero]
  by_cases h : n ≤ xs.length
  · rw [Nat.min_eq_left h]
  · rw [Nat.min_eq_right (by omega), List.take_length, List.take_of_length_le (by omega)]
/-! ### loops -/
def ForW (J : It) (g : TG) (tb : TS) (D : Ends) (σ : L2.St) (H : Hp) : Prop :=
  ∃ W : Nat → Nat → L2.St → Hp → Prop, (∃ m, W 0 m σ H) ∧ ∀ i m σ H, W i m σ H →
    (J.stop i H ∧ D.nx σ H) ∨ (J.go i H ∧ ∃ N : L2.St → Hp → Prop, (∀ σ' H', N σ' H' → ∃ m', m' < m ∧ W (i + 1) m' σ' H') ∧ ∀ x H', J.yld i H x H' → g x σ H' fun σ2 H2 => tb { D with nx := N, ct := N, bk := D.nx } σ2 H2)
section
variable {K : PySem.W.Frag} {σ : L2.St} {H : Hp} {g : TG} {tb : TS} {D : Ends} {te : TE} {ta : TA} {J : It}
theorem rd_forS (q : te σ H fun x H1 => ((∃ a, x = .ref a ∧ (∃ xs, SqL K H1 a xs) ∧ ForW (Itl K a) g tb D σ H1) ∨ (∃ a, x = .ref a ∧ (∃ xs, SqT K H1 a xs) ∧ ForW (Itt K a) g tb D σ H1)) ∨ ∃ z, x = .str z ∧ ForW (Its z) g tb D σ H1) : tFor (iSeq K te) g tb D σ H := q
theorem rd_fsT {a : Addr} {xs : List V} {R : Addr → Prop} {A B : Prop} (h : SqT K H a xs) (q : R a) : (A ∨ (∃ b, V.ref a = .ref b ∧ (∃ xs, SqT K H b xs) ∧ R b)) ∨ B := .inl (.inr ⟨a, rfl, ⟨xs, h⟩, q⟩)
theorem rd_fsL {a : Addr} {xs : List V} {R : Addr → Prop} {A B : Prop} (h : SqL K H a xs) (q : R a) : ((∃ b, V.ref a = .ref b ∧ (∃ xs, SqL K H b xs) ∧ R b) ∨ A) ∨ B := .inl (.inl ⟨a, rfl, ⟨xs, h⟩, q⟩)
theorem rd_fsS {z : Str} {R : Str → Prop} {A : Prop} (q : R z) : A ∨ ∃ y, V.str z = .str y ∧ R y := .inr ⟨z, rfl, q⟩
theorem rd_forR1 (q : ta σ H fun vs H1 => ∃ j : Int, vs = [.int j] ∧ -(2 ^ 62) ≤ j ∧ j < 2 ^ 62 ∧ ForW (Itr 0 j.toNat) g tb D σ H1) : tFor (iRng1 ta) g tb D σ H := q
theorem rd_fr1 {j : Int} {R : Int → Prop} (h : 0 ≤ j) (h' : j < 2 ^ 62) (q : R j) : ∃ k : Int, [V.int j] = [.int k] ∧ -(2 ^ 62) ≤ k ∧ k < 2 ^ 62 ∧ R k := ⟨j, rfl, by omega, h', q⟩
theorem rd_forR2 (q : ta σ H fun vs H1 => ∃ i j : Int, vs = [.int i, .int j] ∧ (-(2 ^ 62) ≤ i ∧ i < 2 ^ 62 ∧ -(2 ^ 62) ≤ j ∧ j < 2 ^ 62) ∧ ForW (Itr i (j - i).toNat) g tb D σ H1) : tFor (iRng2 ta) g tb D σ H := q
theorem rd_fr2 {i j : Int} {R : Int → Int → Prop} (h : -(2 ^ 62) ≤ i ∧ i < 2 ^ 62 ∧ -(2 ^ 62) ≤ j ∧ j < 2 ^ 62) (q : R i j) : ∃ k l : Int, [V.int i, V.int j] = [.int k, .int l] ∧ (-(2 ^ 62) ≤ k ∧ k < 2 ^ 62 ∧ -(2 ^ 62) ≤ l ∧ l < 2 ^ 62) ∧ R k l := ⟨i, j, rfl, h, q⟩
theorem rd_forZ (q : ta σ H fun vs H1 => ∃ a b xs ys, vs = [.ref a, .ref b] ∧ ((SqL K H1 a xs ∧ SqL K H1 b ys ∧ ForW (Itz K a b) g tb D σ H1) ∨ (SqT K H1 a xs ∧ SqT K H1 b ys ∧ ForW (RZ.ItzT K a b) g tb D σ H1))) : tFor (RZ.iZipA K ta) g tb D σ H := q
theorem rd_fzT {a b : Addr} {xs ys : List V} {R R' : Addr → Addr → Prop} (h1 : SqT K H a xs) (h2 : SqT K H b ys) (q : R' a b) : ∃ c d xs ys, [V.ref a, V.ref b] = [.ref c, .ref d] ∧ ((SqL K H c xs ∧ SqL K H d ys ∧ R c d) ∨ (SqT K H c xs ∧ SqT K H d ys ∧ R' c d)) := ⟨a, b, xs, ys, rfl, .inr ⟨h1, h2, q⟩⟩
theorem rd_fzL {a b : Addr} {xs ys : List V} {R R' : Addr → Addr → Prop} (h1 : SqL K H a xs) (h2 : SqL K H b ys) (q : R a b) : ∃ c d xs ys, [V.ref a, V.ref b] = [.ref c, .ref d] ∧ ((SqL K H c xs ∧ SqL K H d ys ∧ R c d) ∨ (SqT K H c xs ∧ SqT K H d ys ∧ R' c d)) := ⟨a, b, xs, ys, rfl, .inl ⟨h1, h2, q⟩⟩
/-- the loop by its invariant: over a tuple, a list, a range, zip of two tuples -/
theorem forW_T {a : Addr} (xs : List V) (Pv : Nat → L2.St → Hp → Prop) (h0 : Pv 0 σ H) (hl : ∀ i σ H, i ≤ xs.length → Pv i σ H → SqT K H a xs)
    (hs : ∀ i x σ H, xs[i]? = some x → Pv i σ H → g x σ H fun σ2 H2 => tb { D with nx := Pv (i + 1), ct := Pv (i + 1), bk := D.nx } σ2 H2) (hd : ∀ σ H, Pv xs.length σ H → D.nx σ H) : ForW (Itt K a) g tb D σ H := for_tup Pv h0 hl hs hd
theorem forW_L {a : Addr} (xs : List V) (Pv : Nat → L2.St → Hp → Prop) (h0 : Pv 0 σ H) (hl : ∀ i σ H, i ≤ xs.length → Pv i σ H → SqL K H a xs)
    (hs : ∀ i x σ H, xs[i]? = some x → Pv i σ H → g x σ H fun σ2 H2 => tb { D with nx := Pv (i + 1), ct := Pv (i + 1), bk := D.nx } σ2 H2) (hd : ∀ σ H, Pv xs.length σ H → D.nx σ H) : ForW (Itl K a) g tb D σ H := for_list Pv h0 hl hs hd
theorem forW_Lx {a : Addr} {xs : List V} (_ : SqL K H a xs) (Pv : Nat → L2.St → Hp → Prop) (h0 : Pv 0 σ H) (hl : ∀ i σ H, i ≤ xs.length → Pv i σ H → SqL K H a xs)
    (hs : ∀ i x σ H, xs[i]? = some x → Pv i σ H → g x σ H fun σ2 H2 => tb { D with nx := Pv (i + 1), ct := Pv (i + 1), bk := D.nx } σ2 H2) (hd : ∀ σ H, Pv xs.length σ H → D.nx σ H) : ForW (Itl K a) g tb D σ H := for_list Pv h0 hl hs hd
theorem forW_R {lo : Int} {n : Nat} (Pv : Nat → L2.St → Hp → Prop) (h0 : Pv 0 σ H)
    (hs : ∀ i σ H, i < n → Pv i σ H → g (.int (lo + i)) σ H fun σ2 H2 => tb { D with nx := Pv (i + 1), ct := Pv (i + 1), bk := D.nx } σ2 H2) (hd : ∀ σ H, Pv n σ H → D.nx σ H) : ForW (Itr lo n) g tb D σ H := for_range Pv h0 hs hd
theorem forW_it {n : Nat} {G : Hp → Prop} {Y : Nat → Hp → V → Hp → Prop} (w : Walk J n G Y) (Pv : Nat → L2.St → Hp → Prop) (h0 : Pv 0 σ H) (hG : ∀ i σ H, i ≤ n → Pv i σ H → G H)
    (hs : ∀ i x σ H H', i < n → Pv i σ H → Y i H x H' → g x σ H' fun σ2 H2 => tb { D with nx := Pv (i + 1), ct := Pv (i + 1), bk := D.nx } σ2 H2) (hd : ∀ σ H, Pv n σ H → D.nx σ H) : ForW J g tb D σ H := for_it w Pv h0 hG hs hd
end
/-- over zip of two tuples, of any lengths -/
theorem walk_zipT {K : PySem.W.Frag} {a b : Addr} {xs ys : List V} {n : Nat} (hn : n = min xs.length ys.length) : Walk (RZ.ItzT K a b) n (fun H => SqT K H a xs ∧ SqT K H b ys) (YPair (fun i => xs[i]?) (fun i => ys[i]?)) := by
  subst hn
  refine ⟨fun i _ hi q => ?_, fun _ q => ⟨xs, ys, q.1, q.2, by omega⟩, fun i H v H' _ q y => ?_⟩
  · have h1 : i < xs.length := by omega
    have h2 : i < ys.length := by omega
    exact ⟨xs, ys, xs[i], ys[i], q.1, q.2, by simp [h1], by simp [h2]⟩
  · obtain ⟨T, x, z, h1, h2, h3, h4, h5⟩ := y
    exact ⟨T, x, z, h1, h2, h3, h4 xs q.1, h5 ys q.2⟩
theorem forW_Z {K : PySem.W.Frag} {σ : L2.St} {H : Hp} {g : TG} {tb : TS} {D : Ends} {a b : Addr} (xs ys : List V) {n : Nat} (hn : n = min xs.length ys.length) (Pv : Nat → L2.St → Hp → Prop) (h0 : Pv 0 σ H) (hG : ∀ i σ H, i ≤ n → Pv i σ H → SqT K H a xs ∧ SqT K H b ys)
    (hs : ∀ i x y T σ H H', i < n → Pv i σ H → xs[i]? = some x → ys[i]? = some y → H T = none → Ex H H' → H' T = some (.tup [x, y]) → g (.ref T) σ H' fun σ2 H2 => tb { D with nx := Pv (i + 1), ct := Pv (i + 1), bk := D.nx } σ2 H2) (hd : ∀ σ H, Pv n σ H → D.nx σ H) : ForW (RZ.ItzT K a b) g tb D σ H :=
  forW_it (walk_zipT hn) Pv h0 hG (fun i x σ H H' hi hp y => by
    obtain ⟨T, x, z, rfl, hT, rfl, h4, h5⟩ := y
    exact hs i x z T σ H _ hi hp h4 h5 hT (Evl.Ex.new hT) upd_same) hd

/-! comprehensions -/
def LcW (J : It) (g : TG) (tt : TT) (te : TE) (vs : List Nat) (σ : L2.St) (H1 : Hp) (Q : VK) : Prop :=
  ∀ D, H1 D = none → ∃ W : Nat → Nat → Hp → Prop, (∃ m, W 0 m (upd H1 D (.lst []))) ∧ ∀ i m H, W i m H →
  (J.stop i H ∧ Q (.ref D) H) ∨ (J.go i H ∧ ∃ Nx : Hp → Prop, (∀ H', Nx H' → ∃ m', m' < m ∧ W (i + 1) m' H') ∧ ∀ x H', J.yld i H x H' → g x (wipe σ vs) H' fun σ2 H2 => wipe σ2 vs = wipe σ vs ∧ tt σ2 H2 fun b H3 =>
    if b = true then te σ2 H3 fun y H4 => ∃ acc, H4 D = some (.lst acc) ∧ acc.length < sizeLine ∧ Nx (upd H4 D (.lst (acc ++ [y]))) else Nx H3)
section
variable {K : PySem.W.Frag} {σ : L2.St} {H : Hp} {Q : VK} {g : TG} {tt : TT} {te tl : TE} {ta : TA} {vs : List Nat}
theorem rd_lcS (q : tl σ H fun x H1 => ((∃ a, x = .ref a ∧ (∃ xs, SqL K H1 a xs) ∧ LcW (Itl K a) g tt te vs σ H1 Q) ∨ (∃ a, x = .ref a ∧ (∃ xs, SqT K H1 a xs) ∧ LcW (Itt K a) g tt te vs σ H1 Q)) ∨ ∃ z, x = .str z ∧ LcW (Its z) g tt te vs σ H1 Q) : tLc (iSeq K tl) g tt te vs σ H Q := q
theorem rd_lcR1 (q : ta σ H fun us H1 => ∃ j : Int, us = [.int j] ∧ -(2 ^ 62) ≤ j ∧ j < 2 ^ 62 ∧ LcW (Itr 0 j.toNat) g tt te vs σ H1 Q) : tLc (iRng1 ta) g tt te vs σ H Q := q
theorem rd_lcR2 (q : ta σ H fun us H1 => ∃ i j : Int, us = [.int i, .int j] ∧ (-(2 ^ 62) ≤ i ∧ i < 2 ^ 62 ∧ -(2 ^ 62) ≤ j ∧ j < 2 ^ 62) ∧ LcW (Itr i (j - i).toNat) g tt te vs σ H1 Q) : tLc (iRng2 ta) g tt te vs σ H Q := q
/-- the step of a comprehension's turn: the new item -/
def LcIt (D : Addr) (N : Hp → Prop) : VK := fun y H4 => ∃ acc, H4 D = some (.lst acc) ∧ acc.length < sizeLine ∧ N (upd H4 D (.lst (acc ++ [y])))
theorem lc_item {D : Addr} {N : Hp → Prop} {y : V} {H4 : Hp} {acc : List V} (h : H4 D = some (.lst acc)) (hl : acc.length < 1000) (q : N (upd H4 D (.lst (acc ++ [y])))) : ∃ acc, H4 D = some (.lst acc) ∧ acc.length < sizeLine ∧ N (upd H4 D (.lst (acc ++ [y]))) := ⟨acc, h, small1000 (Nat.le_of_lt hl), q⟩
theorem lcW_R {lo : Int} {n : Nat} (Pv : Addr → Nat → Hp → Prop) (h0 : ∀ D H', H D = none → Ex H H' → H' D = some (.lst []) → Pv D 0 H')
    (hs : ∀ D i H', H D = none → i < n → Pv D i H' → g (.int (lo + i)) (wipe σ vs) H' fun σ2 H2 => wipe σ2 vs = wipe σ vs ∧ tt σ2 H2 fun b H3 =>
      if b = true then te σ2 H3 fun y H4 => ∃ acc, H4 D = some (.lst acc) ∧ acc.length < sizeLine ∧ Pv D (i + 1) (upd H4 D (.lst (acc ++ [y]))) else Pv D (i + 1) H3)
    (hd : ∀ D H', H D = none → Pv D n H' → Q (.ref D) H') : LcW (Itr lo n) g tt te vs σ H Q := fun D hD =>
  lc_range (Pv D) (h0 D _ hD (Evl.Ex.new hD) upd_same) (fun i H' hi hp => hs D i H' hD hi hp) fun H' hp => hd D H' hD hp
theorem lcW_L {a : Addr} (xs : List V) (Pv : Addr → Nat → Hp → Prop) (h0 : ∀ D H', H D = none → Ex H H' → H' D = some (.lst []) → Pv D 0 H') (hl : ∀ D i H', H D = none → i ≤ xs.length → Pv D i H' → SqL K H' a xs)
    (hs : ∀ D i x H', H D = none → xs[i]? = some x → Pv D i H' → g x (wipe σ vs) H' fun σ2 H2 => wipe σ2 vs = wipe σ vs ∧ tt σ2 H2 fun b H3 =>
      if b = true then te σ2 H3 fun y H4 => ∃ acc, H4 D = some (.lst acc) ∧ acc.length < sizeLine ∧ Pv D (i + 1) (upd H4 D (.lst (acc ++ [y]))) else Pv D (i + 1) H3)
    (hd : ∀ D H', H D = none → Pv D xs.length H' → Q (.ref D) H') : LcW (Itl K a) g tt te vs σ H Q := fun D hD =>
  lc_list (Pv D) (h0 D _ hD (Evl.Ex.new hD) upd_same) (fun i H' hi hp => hl D i H' hD hi hp) (fun i x H' hx hp => hs D i x H' hD hx hp) fun H' hp => hd D H' hD hp
theorem lcW_T {a : Addr} (xs : List V) (Pv : Addr → Nat → Hp → Prop) (h0 : ∀ D H', H D = none → Ex H H' → H' D = some (.lst []) → Pv D 0 H') (hl : ∀ D i H', H D = none → i ≤ xs.length → Pv D i H' → SqT K H' a xs)
    (hs : ∀ D i x H', H D = none → xs[i]? = some x → Pv D i H' → g x (wipe σ vs) H' fun σ2 H2 => wipe σ2 vs = wipe σ vs ∧ tt σ2 H2 fun b H3 =>
      if b = true then te σ2 H3 fun y H4 => ∃ acc, H4 D = some (.lst acc) ∧ acc.length < sizeLine ∧ Pv D (i + 1) (upd H4 D (.lst (acc ++ [y]))) else Pv D (i + 1) H3)
    (hd : ∀ D H', H D = none → Pv D xs.length H' → Q (.ref D) H') : LcW (Itt K a) g tt te vs σ H Q := fun D hD =>
  lc_tup (Pv D) (h0 D _ hD (Evl.Ex.new hD) upd_same) (fun i H' hi hp => hl D i H' hD hi hp) (fun i x H' hx hp => hs D i x H' hD hx hp) fun H' hp => hd D H' hD hp
theorem rd_yes {R : Bool → Hp → Prop} (q : R true H) : tYes σ H R := q
theorem ex_new {H H1 : Hp} {D : Addr} {o : HO} (hn : H D = none) (e : Ex H H1) : Ex H (upd H1 D o) := fun b u q => by
  rw [upd_ne (ne_of_none q hn)]
  exact e b u q
end

/-! ### what a state list's def leaves: all but the list, its one int another -/
structure St1 (a : Addr) (H H' : Hp) : Prop where
  fr : ∀ b o, b ≠ a → H b = some o → H' b = some o
  st : ∃ s, H' a = some (.lst [.int s])
  tame : Tame H H'
theorem St1.trans {a : Addr} {H H1 H2 : Hp} (x : St1 a H H1) (y : St1 a H1 H2) : St1 a H H2 := ⟨fun b o n h => y.fr b o n (x.fr b o n h), y.st, x.tame.trans y.tame⟩
theorem St1.ex {a : Addr} {H H1 : Hp} (h : ∃ s, H a = some (.lst [.int s])) (e : Ex H H1) : St1 a H H1 := by
  obtain ⟨s, h⟩ := h
  exact ⟨fun b o _ q => e b o q, ⟨s, e a _ h⟩, .ex e⟩
theorem St1.free {a o : Addr} {H H1 : Hp} (S : St1 a H H1) (h : H1 o = none) : H o = none := by
  cases e : H o with
  | none => rfl
  | some x =>
    by_cases n : o = a
    · subst n
      obtain ⟨s, q⟩ := S.st
      rw [h] at q; cases q
    · rw [S.fr o x n e] at h; cases h
/-- a list that was not there at the start has grown -/
theorem St1.upd {a o : Addr} {H H1 : Hp} {xs ys : List V} (S : St1 a H H1) (hn : H o = none) (ho : H1 o = some (.lst xs)) (ne : o ≠ a) : St1 a H (upd H1 o (.lst ys)) := by
  refine ⟨fun b u nb e => ?_, ?_, S.tame.trans (Tame.upd ho)⟩
  · rw [upd_ne (by rintro rfl; rw [hn] at e; cases e)]
    exact S.fr b u nb e
  · obtain ⟨s, q⟩ := S.st
    exact ⟨s, by rw [upd_ne (Ne.symm ne)]; exact q⟩
theorem St1.refl {a : Addr} {H : Hp} (h : ∃ s, H a = some (.lst [.int s])) : St1 a H H := ⟨fun _ _ _ h => h, h, .refl H⟩
/-! what St1 and Ex keep -/
section
variable {K : PySem.W.Frag} {H H' : Hp} {a b : Addr} {v : V} {t : T} {vs : List V} {ts : List T} {xs : List V}
theorem tv_st (h : Tv K H v t) (e : St1 a H H') : Tv K H' v t := e.tame.tv h
theorem tv_ex (h : Tv K H v t) (e : Ex H H') : Tv K H' v t := (Tame.ex e).tv h
theorem tva_st (h : TvA K H vs ts) (e : St1 a H H') : TvA K H' vs ts := e.tame.tvA h
theorem tva_ex (h : TvA K H vs ts) (e : Ex H H') : TvA K H' vs ts := (Tame.ex e).tvA h
theorem sqt_st (h : SqT K H b xs) (e : St1 a H H') : SqT K H' b xs := e.tame.sqT h
theorem sqt_ex (h : SqT K H b xs) (e : Ex H H') : SqT K H' b xs := Evl.ex_t e h
theorem lst_st (h : H b = some (.lst xs)) (e : St1 a H H') (n : b ≠ a) : H' b = some (.lst xs) := e.fr b _ n h
theorem lst_ex (h : H b = some (.lst xs)) (e : Ex H H') : H' b = some (.lst xs) := e b _ h
theorem sql_ex (h : SqL K H b xs) (e : Ex H H') : SqL K H' b xs := Evl.ex_l e h
theorem sql_st {l st : Addr} {H0 : Hp} (h : SqL K H0 l xs) (hn : H0 st = none) (e0 : Ex H0 H) (e : St1 st H H') : SqL K H' l xs := by
  rcases h with (h | ⟨o, h⟩) | h
  · exact .inl (.inl (e.fr _ _ (by rintro rfl; rw [hn] at h; cases h) (e0 _ _ h)))
  · exact .inl (.inr ⟨o, e.fr _ _ (by rintro rfl; rw [hn] at h; cases h) (e0 _ _ h)⟩)
  · exact .inr h
theorem sta_st (e : St1 a H H') : ∃ s, H' a = some (.lst [.int s]) := e.st
theorem sta_ex (h : ∃ s, H a = some (.lst [.int s])) (e : Ex H H') : ∃ s, H' a = some (.lst [.int s]) := by obtain ⟨s, h⟩ := h; exact ⟨s, e a _ h⟩
theorem ne_st (h : ∃ s, H a = some (.lst [.int s])) (hp : H b = none) : b ≠ a := by
  obtain ⟨s, h⟩ := h
  rintro rfl
  rw [h] at hp; cases hp
end
section
variable {K : PySem.W.Frag} {H : Hp} {Q : VK}
/-- an item, whichever it is -/
theorem mem_at {xs : List V} {i : Int} (h0 : 0 ≤ i) (h1 : i < xs.length) : ∃ v, atI xs i = some v ∧ v ∈ xs := by
  have hk : i.toNat < xs.length := by omega
  refine ⟨xs[i.toNat], ?_, List.getElem_mem hk⟩
  have e : ((i.toNat : Nat) : Int) = i := by omega
  have q := atI_nat (List.getElem?_eq_getElem hk)
  rw [e] at q
  exact q
theorem rd_ixLm {a : Addr} {xs : List V} {i : Int} (h : SqL K H a xs) (h0 : 0 ≤ i) (h1 : i < xs.length) (q : ∀ v, v ∈ xs → Q v H) : rIx K (.ref a) (.int i) H Q := by
  obtain ⟨v, e, m⟩ := mem_at h0 h1
  exact rd_ixL h e (q v m)
theorem rd_ixTm {a : Addr} {xs : List V} {i : Int} (h : SqT K H a xs) (h0 : 0 ≤ i) (h1 : i < xs.length) (q : ∀ v, v ∈ xs → Q v H) : rIx K (.ref a) (.int i) H Q := by
  obtain ⟨v, e, m⟩ := mem_at h0 h1
  exact rd_ixT h e (q v m)
/-- the k-th of a tuple of data -/
theorem rd_ixD {v : V} {ts : List T} {i : Int} {n : Nat} {t : T} (h : Tv K H v (.tup ts)) (hi : i = (n : Nat)) (e : ts[n]? = some t) (q : ∀ x, Tv K H x t → Q x H) : rIx K v (.int i) H Q := by
  obtain ⟨a, xs, rfl, hs, ha⟩ := h.tupE
  obtain ⟨x, e1, hx⟩ := ha.get e
  subst hi
  exact rd_ixT hs (atI_nat e1) (q x hx)
theorem rd_lenD {v : V} {ts : List T} (h : Tv K H v (.tup ts)) (q : Q (.int (ts.length : Nat)) H) : rLenA K [v] H Q := by
  obtain ⟨a, xs, rfl, hs, ha⟩ := h.tupE
  refine rd_lenT hs ?_
  rw [ha.len]
  exact q
end
end Qa
open PySem PySem.Spec PyProof.Rows L2 Qa
namespace K1
def topS (i : Nat) : Stmt := PySem.Challenge.pw_formlines_k01_tables.main.body.getD i (.Pass ⟨0, 0, 0, 0⟩)
abbrev sis_whole : Stmt := topS 3
abbrev nis_whole : List Str := ["thing"]
abbrev pis_whole : List Str := ["thing"]
theorem scis_whole : FnScope nis_whole pis_whole (defScope sis_whole) := ⟨rfl, rfl, rfl, by decide +kernel, rfl, by decide +kernel, by decide +kernel⟩
theorem bis_whole : BindOk "is_whole" sis_whole pis_whole := fun _ _ _ _ _ _ us hl => match us, hl with | [_], _ => rfl
theorem tis_whole {v0 : V} : start nis_whole [v0] = [some v0] := rfl

abbrev sis_within : Stmt := topS 4
abbrev nis_within : List Str := ["thing", "low", "high"]
abbrev pis_within : List Str := ["thing", "low", "high"]
theorem scis_within : FnScope nis_within pis_within (defScope sis_within) := ⟨rfl, rfl, rfl, by decide +kernel, rfl, by decide +kernel, by decide +kernel⟩
theorem bis_within : BindOk "is_within" sis_within pis_within := fun _ _ _ _ _ _ us hl => match us, hl with | [_, _, _], _ => rfl
theorem tis_within {v0 v1 v2 : V} : start nis_within [v0, v1, v2] = [some v0, some v1, some v2] := rfl

abbrev sis_number : Stmt := topS 5
abbrev nis_number : List Str := ["thing"]
abbrev pis_number : List Str := ["thing"]
theorem scis_number : FnScope nis_number pis_number (defScope sis_number) := ⟨rfl, rfl, rfl, by decide +kernel, rfl, by decide +kernel, by decide +kernel⟩
theorem bis_number : BindOk "is_number" sis_number pis_number := fun _ _ _ _ _ _ us hl => match us, hl with | [_], _ => rfl
theorem tis_number {v0 : V} : start nis_number [v0] = [some v0] := rfl

abbrev sis_percent : Stmt := topS 6
abbrev nis_percent : List Str := ["thing"]
abbrev pis_percent : List Str := ["thing"]
theorem scis_percent : FnScope nis_percent pis_percent (defScope sis_percent) := ⟨rfl, rfl, rfl, by decide +kernel, rfl, by decide +kernel, by decide +kernel⟩
theorem bis_percent : BindOk "is_percent" sis_percent pis_percent := fun _ _ _ _ _ _ us hl => match us, hl with | [_], _ => rfl
theorem tis_percent {v0 : V} : start nis_percent [v0] = [some v0] := rfl

abbrev shundredths : Stmt := topS 7
abbrev nhundredths : List Str := ["number", "percent"]
abbrev phundredths : List Str := ["number", "percent"]
theorem schundredths : FnScope nhundredths phundredths (defScope shundredths) := ⟨rfl, rfl, rfl, by decide +kernel, rfl, by decide +kernel, by decide +kernel⟩
theorem bhundredths : BindOk "hundredths" shundredths phundredths := fun _ _ _ _ _ _ us hl => match us, hl with | [_, _], _ => rfl
theorem thundredths {v0 v1 : V} : start nhundredths [v0, v1] = [some v0, some v1] := rfl

abbrev sis_table : Stmt := topS 11
abbrev nis_table : List Str := ["thing", "row"]
abbrev pis_table : List Str := ["thing"]
theorem scis_table : FnScope nis_table pis_table (defScope sis_table) := ⟨rfl, rfl, rfl, by decide +kernel, rfl, by decide +kernel, by decide +kernel⟩
theorem bis_table : BindOk "is_table" sis_table pis_table := fun _ _ _ _ _ _ us hl => match us, hl with | [_], _ => rfl
theorem tis_table {v0 : V} : start nis_table [v0] = [some v0, none] := rfl

abbrev sat_number : Stmt := topS 12
abbrev nat_number : List Str := ["table", "number", "told", "start", "plus", "percent"]
abbrev pat_number : List Str := ["table", "number"]
theorem scat_number : FnScope nat_number pat_number (defScope sat_number) := ⟨rfl, rfl, rfl, by decide +kernel, rfl, by decide +kernel, by decide +kernel⟩
theorem bat_number : BindOk "at_number" sat_number pat_number := fun _ _ _ _ _ _ us hl => match us, hl with | [_, _], _ => rfl
theorem tat_number {v0 v1 : V} : start nat_number [v0, v1] = [some v0, some v1, none, none, none, none] := rfl

abbrev s_is_row : Stmt := topS 13
abbrev n_is_row : List Str := ["thing", "start", "plus", "percent"]
abbrev p_is_row : List Str := ["thing"]
theorem sc_is_row : FnScope n_is_row p_is_row (defScope s_is_row) := ⟨rfl, rfl, rfl, by decide +kernel, rfl, by decide +kernel, by decide +kernel⟩
theorem b_is_row : BindOk "_is_row" s_is_row p_is_row := fun _ _ _ _ _ _ us hl => match us, hl with | [_], _ => rfl
theorem t_is_row {v0 : V} : start n_is_row [v0] = [some v0, none, none, none] := rfl

abbrev s_starts_rise : Stmt := topS 14
abbrev n_starts_rise : List Str := ["rows", "row", "following"]
abbrev p_starts_rise : List Str := ["rows"]
theorem sc_starts_rise : FnScope n_starts_rise p_starts_rise (defScope s_starts_rise) := ⟨rfl, rfl, rfl, by decide +kernel, rfl, by decide +kernel, by decide +kernel⟩
theorem b_starts_rise : BindOk "_starts_rise" s_starts_rise p_starts_rise := fun _ _ _ _ _ _ us hl => match us, hl with | [_], _ => rfl
theorem t_starts_rise {v0 : V} : start n_starts_rise [v0] = [some v0, none, none] := rfl

abbrev s_law_cell_at : Stmt := topS 16
abbrev n_law_cell_at : List Str := ["_law_script", "_law_k"]
abbrev p_law_cell_at : List Str := ["_law_script", "_law_k"]
theorem sc_law_cell_at : FnScope n_law_cell_at p_law_cell_at (defScope s_law_cell_at) := ⟨rfl, rfl, rfl, by decide +kernel, rfl, by decide +kernel, by decide +kernel⟩
theorem b_law_cell_at : BindOk "_law_cell_at" s_law_cell_at p_law_cell_at := fun _ _ _ _ _ _ us hl => match us, hl with | [_, _], _ => rfl
theorem t_law_cell_at {v0 v1 : V} : start n_law_cell_at [v0, v1] = [some v0, some v1] := rfl

abbrev s_law_mixed : Stmt := topS 17
abbrev n_law_mixed : List Str := ["_law_cell", "_law_k"]
abbrev p_law_mixed : List Str := ["_law_cell", "_law_k"]
theorem sc_law_mixed : FnScope n_law_mixed p_law_mixed (defScope s_law_mixed) := ⟨rfl, rfl, rfl, by decide +kernel, rfl, by decide +kernel, by decide +kernel⟩
theorem b_law_mixed : BindOk "_law_mixed" s_law_mixed p_law_mixed := fun _ _ _ _ _ _ us hl => match us, hl with | [_, _], _ => rfl
theorem t_law_mixed {v0 v1 : V} : start n_law_mixed [v0, v1] = [some v0, some v1] := rfl

abbrev s_law_next : Stmt := topS 18
abbrev n_law_next : List Str := ["_law_state", "_law_size"]
abbrev p_law_next : List Str := ["_law_state", "_law_size"]
theorem sc_law_next : FnScope n_law_next p_law_next (defScope s_law_next) := ⟨rfl, rfl, rfl, by decide +kernel, rfl, by decide +kernel, by decide +kernel⟩
theorem b_law_next : BindOk "_law_next" s_law_next p_law_next := fun _ _ _ _ _ _ us hl => match us, hl with | [_, _], _ => rfl
theorem t_law_next {v0 v1 : V} : start n_law_next [v0, v1] = [some v0, some v1] := rfl

abbrev s_law_whole : Stmt := topS 19
abbrev n_law_whole : List Str := ["_law_found"]
abbrev p_law_whole : List Str := ["_law_found"]
theorem sc_law_whole : FnScope n_law_whole p_law_whole (defScope s_law_whole) := ⟨rfl, rfl, rfl, by decide +kernel, rfl, by decide +kernel, by decide +kernel⟩
theorem b_law_whole : BindOk "_law_whole" s_law_whole p_law_whole := fun _ _ _ _ _ _ us hl => match us, hl with | [_], _ => rfl
theorem t_law_whole {v0 : V} : start n_law_whole [v0] = [some v0] := rfl

abbrev s_law_number : Stmt := topS 20
abbrev n_law_number : List Str := ["_law_state", "_law_kind"]
abbrev p_law_number : List Str := ["_law_state"]
theorem sc_law_number : FnScope n_law_number p_law_number (defScope s_law_number) := ⟨rfl, rfl, rfl, by decide +kernel, rfl, by decide +kernel, by decide +kernel⟩
theorem b_law_number : BindOk "_law_number" s_law_number p_law_number := fun _ _ _ _ _ _ us hl => match us, hl with | [_], _ => rfl
theorem t_law_number {v0 : V} : start n_law_number [v0] = [some v0, none] := rfl

abbrev s_law_table : Stmt := topS 21
abbrev n_law_table : List Str := ["_law_state", "_law_many", "_law_start", "_law_rows", "_law_k", "_law_percent"]
abbrev p_law_table : List Str := ["_law_state"]
theorem sc_law_table : FnScope n_law_table p_law_table (defScope s_law_table) := ⟨rfl, rfl, rfl, by decide +kernel, rfl, by decide +kernel, by decide +kernel⟩
theorem b_law_table : BindOk "_law_table" s_law_table p_law_table := fun _ _ _ _ _ _ us hl => match us, hl with | [_], _ => rfl
theorem t_law_table {v0 : V} : start n_law_table [v0] = [some v0, none, none, none, none, none] := rfl

abbrev s_law_at : Stmt := topS 22
abbrev n_law_at : List Str := ["_law_table_here", "_law_number_here", "_law_found", "_law_row"]
abbrev p_law_at : List Str := ["_law_table_here", "_law_number_here"]
theorem sc_law_at : FnScope n_law_at p_law_at (defScope s_law_at) := ⟨rfl, rfl, rfl, by decide +kernel, rfl, by decide +kernel, by decide +kernel⟩
theorem b_law_at : BindOk "_law_at" s_law_at p_law_at := fun _ _ _ _ _ _ us hl => match us, hl with | [_, _], _ => rfl
theorem t_law_at {v0 v1 : V} : start n_law_at [v0, v1] = [some v0, some v1, none, none] := rfl

abbrev s_law_spoilt : Stmt := topS 23
abbrev n_law_spoilt : List Str := ["_law_table_here", "_law_cell", "_law_at_here", "_law_row", "_law_wrong", "_law_longer", "_law_k"]
abbrev p_law_spoilt : List Str := ["_law_table_here", "_law_cell"]
theorem sc_law_spoilt : FnScope n_law_spoilt p_law_spoilt (defScope s_law_spoilt) := ⟨rfl, rfl, rfl, by decide +kernel, rfl, by decide +kernel, by decide +kernel⟩
theorem b_law_spoilt : BindOk "_law_spoilt" s_law_spoilt p_law_spoilt := fun _ _ _ _ _ _ us hl => match us, hl with | [_, _], _ => rfl
theorem t_law_spoilt {v0 v1 : V} : start n_law_spoilt [v0, v1] = [some v0, some v1, none, none, none, none, none] := rfl

abbrev slaw : Stmt := topS 24
abbrev nlaw : List Str := ["_law_script", "_law_state", "_law_table_here", "_law_cell", "_law_wrong", "_law_told", "_law_good", "_law_row", "_law_far", "_law_number_here", "_law_found"]
abbrev plaw : List Str := ["_law_script"]
theorem sclaw : FnScope nlaw plaw (defScope slaw) := ⟨rfl, rfl, rfl, by decide +kernel, rfl, by decide +kernel, by decide +kernel⟩
theorem blaw : BindOk "law" slaw plaw := fun _ _ _ _ _ _ us hl => match us, hl with | [_], _ => rfl
theorem tlaw {v0 : V} : start nlaw [v0] = [some v0, none, none, none, none, none, none, none, none, none, none] := rfl

structure Tx (K : PySem.W.Frag) (mg : Str → Option Value) : Prop where
  m_zip : mg "zip" = none
  m_range : mg "range" = none
  m_tuple : mg "tuple" = none
  m_isinstance : mg "isinstance" = none
  m_int : mg "int" = none
  m_len : mg "len" = none
  m_bool : mg "bool" = none
  m_list : mg "list" = none
  g_FARTHEST : ∃ t, mg "FARTHEST" = some (.int 1000000000 t)
  g_FULL_PERCENT : ∃ t, mg "FULL_PERCENT" = some (.int 100 t)
  g_MOST_ROWS : ∃ t, mg "MOST_ROWS" = some (.int 20 t)
  g_ROW_PARTS : ∃ t, mg "ROW_PARTS" = some (.int 3 t)
  F_is_whole : FunAt K mg "is_whole" sis_whole
  F_is_within : FunAt K mg "is_within" sis_within
  F_is_number : FunAt K mg "is_number" sis_number
  F_is_percent : FunAt K mg "is_percent" sis_percent
  F_hundredths : FunAt K mg "hundredths" shundredths
  F_is_table : FunAt K mg "is_table" sis_table
  F_at_number : FunAt K mg "at_number" sat_number
  F__is_row : FunAt K mg "_is_row" s_is_row
  F__starts_rise : FunAt K mg "_starts_rise" s_starts_rise
  F__law_cell_at : FunAt K mg "_law_cell_at" s_law_cell_at
  F__law_mixed : FunAt K mg "_law_mixed" s_law_mixed
  F__law_next : FunAt K mg "_law_next" s_law_next
  F__law_whole : FunAt K mg "_law_whole" s_law_whole
  F__law_number : FunAt K mg "_law_number" s_law_number
  F__law_table : FunAt K mg "_law_table" s_law_table
  F__law_at : FunAt K mg "_law_at" s_law_at
  F__law_spoilt : FunAt K mg "_law_spoilt" s_law_spoilt
  F_law : FunAt K mg "law" slaw

end K1
open PySem PySem.Spec PyProof.Rows L2 Qa
local macro_rules | `(tactic| walk_at "tv") => `(tactic| first
  | assumption
  | exact Tv.int _
  | exact Tv.bl _
  | exact Tv.str _
  | exact Tv.non
  | ((refine' tv_st ?h ?e); (case e => assumption); (case h => walk_at "tv"))
  | ((refine' tv_ex ?h ?e); (case e => assumption); (case h => walk_at "tv")))
local macro_rules | `(tactic| walk_at "tva") => `(tactic| first
  | assumption
  | ((refine' tva_st ?h ?e); (case e => assumption); (case h => walk_at "tva"))
  | ((refine' tva_ex ?h ?e); (case e => assumption); (case h => walk_at "tva")))
local macro_rules | `(tactic| walk_at "sqt") => `(tactic| first
  | assumption
  | exact SqT.of (by assumption)
  | ((refine' sqt_st ?h ?e); (case e => assumption); (case h => walk_at "sqt"))
  | ((refine' sqt_ex ?h ?e); (case e => assumption); (case h => walk_at "sqt")))
local macro_rules | `(tactic| walk_at "lst") => `(tactic| first
  | assumption
  | ((refine' lst_st ?h ?e ?n); (case e => assumption); (case n => assumption); (case h => walk_at "lst"))
  | ((refine' lst_ex ?h ?e); (case e => assumption); (case h => walk_at "lst")))
local macro_rules | `(tactic| walk_at "sql") => `(tactic| first
  | assumption
  | exact SqL.of (by walk_at "lst")
  | ((refine' sql_ex ?h ?e); (case e => assumption); (case h => walk_at "sql")))
local macro_rules | `(tactic| walk_at "sta") => `(tactic| first
  | assumption
  | ((refine' sta_st ?e); (case e => assumption))
  | ((refine' sta_ex ?h ?e); (case e => assumption); (case h => walk_at "sta")))
local macro_rules | `(tactic| walk_at "sd") => `(tactic| first
  | assumption
  | omega
  | (simp only [CMul, CDiv, CDivN, CPow]; omega)
  | decide)
local macro_rules | `(tactic| walk_at "rd1") => `(tactic| first
  | with_reducible refine rd_seq ?_
  | with_reducible refine rd_cons ?_
  | with_reducible refine rd_nil ?_
  | ((with_reducible refine' rd_var ?h ?_); (case h => exact rfl))
  | with_reducible refine rd_c ?_
  | with_reducible refine rd_op ?_
  | with_reducible refine rd_asg ?_
  | ((with_reducible refine' rd_name ?h ?_); (case h => (first | (dsimp only [List.set]; done) | (dsimp only [List.set]; exact rfl))))
  | with_reducible refine rd_cal ?_
  | with_reducible refine rd_ret ?_
  | with_reducible refine rd_ifS ?_
  | with_reducible refine rd_cb ?_
  | with_reducible refine rd_addI ?_
  | with_reducible refine rd_I0 ?_
  | with_reducible refine rd_pow9 ?_
  | with_reducible refine rd_pow12 ?_
  | ((with_reducible refine' rd_I ?h ?_); (case h => walk_at "sd"))
  | with_reducible refine rd_U ?_
  | with_reducible refine rd_eqI ?_
  | with_reducible refine rd_eqS ?_
  | with_reducible refine rd_eqB ?_
  | with_reducible refine rd_neI ?_
  | with_reducible refine rd_neS ?_
  | with_reducible refine rd_neB ?_
  | with_reducible refine rd_tup ?_
  | with_reducible refine rd_lst ?_
  | with_reducible refine rd_test ?_
  | with_reducible refine rd_tB ?_
  | with_reducible refine rd_bl ?_
  | with_reducible refine rd_blP ?_
  | with_reducible refine rd_tru ?_
  | with_reducible refine rd_trub ?_
  | with_reducible refine rd_trun ?_
  | with_reducible refine rd_not ?_
  | with_reducible refine rd_and ?_
  | with_reducible refine rd_or ?_
  | with_reducible refine rd_andV ?_
  | with_reducible refine rd_orV ?_
  | with_reducible refine rd_notV ?_
  | with_reducible refine rd_ifE ?_
  | with_reducible refine rd_chain ?_
  | with_reducible refine rd_retN ?_
  | with_reducible refine rd_drop ?_
  | with_reducible refine rd_next ?_
  | with_reducible refine rd_brk ?_
  | with_reducible refine rd_cont ?_
  | with_reducible refine rd_un ?_
  | with_reducible refine rd_bm ?_
  | with_reducible refine rd_sl ?_
  | with_reducible refine rd_part ?_
  | with_reducible refine rd_partI ?_
  | with_reducible refine rd_nopart ?_
  | with_reducible refine rd_gcons ?_
  | with_reducible refine rd_gnil ?_
  | with_reducible refine rd_gsub ?_
  | with_reducible refine rd_intB ?_
  | with_reducible refine rd_intI ?_
  | with_reducible refine rd_min2 ?_
  | with_reducible refine rd_max2 ?_
  | with_reducible refine rd_par ?_
  | ((with_reducible refine' rd_isInt ?h ?_); (case h => walk_at "tv"))
  | ((with_reducible refine' rd_isBool ?h ?_); (case h => walk_at "tv"))
  | ((with_reducible refine' rd_isStr ?h ?_); (case h => walk_at "tv"))
  | ((with_reducible refine' rd_isTup ?h ?_); (case h => walk_at "tv"))
  | ((with_reducible refine' rd_isLst ?h ?_); (case h => walk_at "tv"))
  | ((with_reducible refine' rd_tyL ?h ?_); (case h => walk_at "sql"))
  | with_reducible refine rd_forS ?_
  | with_reducible refine rd_lcS ?_
  | with_reducible refine rd_lcR1 ?_
  | with_reducible refine rd_lcR2 ?_
  | with_reducible refine rd_forR1 ?_
  | with_reducible refine rd_forR2 ?_
  | with_reducible refine rd_forZ ?_
  | ((with_reducible refine' rd_fsT ?h ?_); (case h => walk_at "sqt"))
  | ((with_reducible refine' rd_fsL ?h ?_); (case h => walk_at "sql"))
  | with_reducible refine rd_fsS ?_
  | ((with_reducible refine' rd_fr1 ?h1 ?h2 ?_); (case h1 => omega); (case h2 => omega))
  | ((with_reducible show ite _ _ _); first | refine iteT ?_ | refine iteF ?_))
local macro_rules | `(tactic| walk_at "lcn") => `(tactic| ((refine' rd_name ?h ?_); (case h => (first | (dsimp only [wipe, List.map, List.set]; done) | (dsimp only [wipe, List.map, List.set]; exact rfl))); refine ⟨rfl, ?_⟩; (try (refine rd_yes ?_; refine iteT ?_))))
local macro_rules | `(tactic| walk_at "exx") => `(tactic| first
  | assumption
  | exact Evl.Ex.refl _
  | ((refine' Evl.Ex.trans ?h ?e); (case e => assumption); (case h => walk_at "exx")))
local macro_rules | `(tactic| walk_at "ati") => `(tactic| first
  | exact atI_nat (j := 0) rfl
  | exact atI_nat (j := 1) rfl
  | exact atI_nat (j := 2) rfl
  | exact atI_nat (j := 3) rfl)
local macro_rules | `(tactic| walk_at "len") => `(tactic| first
  | decide
  | assumption
  | (simp; done)
  | (simp; omega)
  | omega)
local macro_rules | `(tactic| walk_at "rda1") => `(tactic| first
  | walk_at "rd1"
  | ((with_reducible refine' rd_ixT ?h ?e ?_); (case h => walk_at "sqt"); (case e => walk_at "ati"))
  | ((with_reducible refine' rd_ixL ?h ?e ?_); (case h => walk_at "sql"); (case e => walk_at "ati"))
  | ((with_reducible refine' new_tup ?q ?l); (case l => walk_at "len"); intro _ _ _ _ _)
  | ((with_reducible refine' new_lst ?q ?l); (case l => walk_at "len"); intro _ _ _ _ _)
  | ((with_reducible refine' rd_addL ?a ?b ?l ?q); (case a => walk_at "lst"); (case b => walk_at "lst"); (case l => walk_at "len"); intro _ _ _ _ _)
  | ((with_reducible refine' rd_addT ?a ?b ?l ?q); (case a => walk_at "sqt"); (case b => walk_at "sqt"); (case l => walk_at "len"); intro _ _ _ _)
  | ((with_reducible refine' rd_lstOfT ?a ?q); (case a => walk_at "sqt"); intro _ _ _ _ _)
  | ((with_reducible refine' rd_tupOfL ?a ?q); (case a => walk_at "sql"); intro _ _ _ _ _)
  | ((with_reducible refine' rd_slT ?a ?q); (case a => walk_at "sqt"); intro _ _ _ _)
  | ((with_reducible refine' rd_lenT ?a ?_); (case a => walk_at "sqt"))
  | ((with_reducible refine' rd_lenL ?a ?_); (case a => walk_at "sql")))
local macro_rules | `(tactic| walk_at "rda") => `(tactic| (repeat (walk_at "rda1")))
local macro_rules | `(tactic| walk_at "tvm") => `(tactic| first
  | exact TvA.nil
  | exact Tv.int _
  | exact Tv.bl _
  | exact Tv.str _
  | exact Tv.non
  | walk_at "tv"
  | ((refine' Tv.tup ?h ?a); (case h => walk_at "sqt"); (case a => walk_at "tvm"))
  | ((refine' Tv.lst ?h); (case h => walk_at "sql"))
  | ((refine' TvA.cons ?h ?a); (case h => walk_at "tvm"); (case a => walk_at "tvm")))
local macro_rules | `(tactic| walk_at "rd") => `(tactic| (repeat (walk_at "rd1")))

namespace K1
section
variable {P : Program} {w : World} {K : PySem.W.Frag} {mg : Str → Option Value} {base : Heap} {H : Hp} {Q : VK} {E : XK}

def isWhole : T → Bool | .int _ => true | _ => false
def spWhole (K : PySem.W.Frag) : Sp := sp1 fun a H Q => ∃ t, Tv K H a t ∧ Q (.bl (isWhole t)) H
theorem k_is_whole (T : Tx K mg) : Cal P w K mg base "is_whole" 1 pis_whole (spWhole K) := by
  refine cal1 T.F_is_whole scis_whole bis_whole rfl fun g cdv A outer s H a Q E hr h => ?_
  obtain ⟨t, ht, q⟩ := h
  refine ⟨_, (pss_one (ps_ret (pe_and (pe_callB call_isi (by rfl) T.m_isinstance (by decide +kernel) (pa_cons (pv 0) (pa_cons (pe_ty (n := "int") T.m_int (by decide +kernel)) pa_nil))) (pe_one (pe_not (pe_callB call_isi (by rfl) T.m_isinstance (by decide +kernel) (pa_cons (pv 0) (pa_cons (pe_ty (n := "bool") T.m_bool (by decide +kernel)) pa_nil)))))))), ?_⟩
  rw [tis_whole]
  try dsimp only [cxOf, Cx.nox, Cx.wish]
  cases t <;> (walk_at "rd"; exact q)
def within (t : T) (lo hi : Int) : Bool := match t with | .int i => decide (lo ≤ i) && decide (i ≤ hi) | _ => false
def spWithin (K : PySem.W.Frag) : Sp := sp3 fun a b c H Q => ∃ t lo hi, Tv K H a t ∧ b = .int lo ∧ c = .int hi ∧ Q (.bl (within t lo hi)) H
theorem k_is_within (T : Tx K mg) (c_is_whole : Cal P w K mg base "is_whole" 1 pis_whole (spWhole K)) : Cal P w K mg base "is_within" 2 pis_within (spWithin K) := by
  refine cal3 T.F_is_within scis_within bis_within rfl fun g cdv A outer s H a b c Q E hr h => ?_
  obtain ⟨t, lo, hi, ht, rfl, rfl, q⟩ := h
  refine ⟨_, (pss_one (ps_ret (pe_and (pe_cal c_is_whole (hr.mono (by omega)) (pa_cons (pv 0) pa_nil)) (pe_one (pe_chain op_le op_le (pv 1) (pv 0) (pv 2)))))), ?_⟩
  rw [tis_within]
  try dsimp only [cxOf, Cx.nox, Cx.wish]
  walk_at "rd"
  refine rd_sp1 ⟨t, ht, ?_⟩
  walk_at "rd"
  cases t with
  | int i =>
    cases ht
    walk_at "rd"
    refine rd_ite (fun h1 => ?_) (fun h1 => ?_)
    · walk_at "rd"
      simpa [within, h1] using q
    · simpa [within, h1] using q
  | _ => walk_at "rd"; exact q
def isNum (t : T) : Bool := within t (-1000000000) 1000000000
def isPct (t : T) : Bool := within t 0 100
def spNum (K : PySem.W.Frag) : Sp := sp1 fun a H Q => ∃ t, Tv K H a t ∧ Q (.bl (isNum t)) H
def spPct (K : PySem.W.Frag) : Sp := sp1 fun a H Q => ∃ t, Tv K H a t ∧ Q (.bl (isPct t)) H
theorem k_is_number (T : Tx K mg) (c_is_within : Cal P w K mg base "is_within" 2 pis_within (spWithin K)) : Cal P w K mg base "is_number" 3 pis_number (spNum K) := by
  refine cal1 T.F_is_number scis_number bis_number rfl fun g cdv A outer s H a Q E hr h => ?_
  obtain ⟨t, ht, q⟩ := h
  refine ⟨_, (pss_one (ps_ret (pe_cal c_is_within (hr.mono (by omega)) (pa_cons (pv 0) (pa_cons (pe_un un_neg (pe_gint T.g_FARTHEST)) (pa_cons (pe_gint T.g_FARTHEST) pa_nil)))))), ?_⟩
  rw [tis_number]
  try dsimp only [cxOf, Cx.nox, Cx.wish]
  walk_at "rd"
  exact rd_sp3 ⟨t, _, _, ht, rfl, rfl, q⟩
theorem k_is_percent (T : Tx K mg) (c_is_within : Cal P w K mg base "is_within" 2 pis_within (spWithin K)) : Cal P w K mg base "is_percent" 3 pis_percent (spPct K) := by
  refine cal1 T.F_is_percent scis_percent bis_percent rfl fun g cdv A outer s H a Q E hr h => ?_
  obtain ⟨t, ht, q⟩ := h
  refine ⟨_, (pss_one (ps_ret (pe_cal c_is_within (hr.mono (by omega)) (pa_cons (pv 0) (pa_cons pe_int (pa_cons (pe_gint T.g_FULL_PERCENT) pa_nil)))))), ?_⟩
  rw [tis_percent]
  try dsimp only [cxOf, Cx.nox, Cx.wish]
  walk_at "rd"
  exact rd_sp3 ⟨t, _, _, ht, rfl, rfl, q⟩
def spHun (K : PySem.W.Frag) : Sp := sp2 fun a b H Q => ∃ n p, a = .int n ∧ b = .int p ∧ 0 ≤ p ∧ p ≤ 100 ∧ Q (.int (n * p / 100)) H
theorem k_hundredths (T : Tx K mg) : Cal P w K mg base "hundredths" 1 phundredths (spHun K) := by
  refine cal2 T.F_hundredths schundredths bhundredths rfl fun g cdv A outer s H a b Q E hr h => ?_
  obtain ⟨n, p, rfl, rfl, h0, h1, q⟩ := h
  refine ⟨_, (pss_one (ps_ret (pe_op op_fdiv (pe_op op_mul (pv 0) (pv 1)) (pe_gint T.g_FULL_PERCENT)))), ?_⟩
  rw [thundredths]
  try dsimp only [cxOf, Cx.nox, Cx.wish]
  walk_at "rd"
  exact q
def isRow : T → Bool
  | .tup [a, b, c] => isNum a && (isNum b && isPct c)
  | _ => false
def spRow (K : PySem.W.Frag) : Sp := sp1 fun a H Q => ∃ t, Tv K H a t ∧ Q (.bl (isRow t)) H
theorem row3 {ts : List T} (h : ts.length = 3) : ∃ a b c, ts = [a, b, c] := by
  match ts, h with
  | [a, b, c], _ => exact ⟨a, b, c, rfl⟩
theorem notRow {ts : List T} (h : ts.length ≠ 3) : isRow (.tup ts) = false := by
  unfold isRow
  split
  · rename_i e
    cases e
    exact absurd rfl h
  · rfl
theorem k__is_row (T : Tx K mg) (c_is_number : Cal P w K mg base "is_number" 3 pis_number (spNum K)) (c_is_percent : Cal P w K mg base "is_percent" 3 pis_percent (spPct K)) : Cal P w K mg base "_is_row" 4 p_is_row (spRow K) := by
  refine cal1 T.F__is_row sc_is_row b_is_row rfl fun g cdv A outer s H a Q E hr h => ?_
  obtain ⟨t, ht, q⟩ := h
  refine ⟨_, (pss_cons (ps_if (PW.pt (pw_or (pt_not (pt_tru (pe_callB call_isi (by rfl) T.m_isinstance (by decide +kernel) (pa_cons (pv 0) (pa_cons (pe_ty (n := "tuple") T.m_tuple (by decide +kernel)) pa_nil))))) (pw_or1 (pt_cmpR (op_neA hr) (pe_callB cr_lenA (by rfl) T.m_len (by decide +kernel) (pa_cons (pv 0) pa_nil)) (pe_gint T.g_ROW_PARTS) (nomark _))))) (pss_one (ps_ret pe_bl)) pss_nil) (pss_cons (ps_asg (pv 0) (pg_tup (n := 3) rfl (pgs_cons (pg_name (i := 1) (sc_is_row).nd rfl (by first | exact Or.inl rfl | exact Or.inr rfl)) (pgs_cons (pg_name (i := 2) (sc_is_row).nd rfl (by first | exact Or.inl rfl | exact Or.inr rfl)) (pgs_cons (pg_name (i := 3) (sc_is_row).nd rfl (by first | exact Or.inl rfl | exact Or.inr rfl)) pgs_nil))))) (pss_one (ps_ret (pe_and (pe_cal c_is_number (hr.mono (by omega)) (pa_cons (pv 1) pa_nil)) (pe_and (pe_cal c_is_number (hr.mono (by omega)) (pa_cons (pv 2) pa_nil)) (pe_one (pe_cal c_is_percent (hr.mono (by omega)) (pa_cons (pv 3) pa_nil))))))))), ?_⟩
  rw [t_is_row]
  try dsimp only [cxOf, Cx.nox, Cx.wish]
  walk_at "rd"
  cases t with
  | tup ts =>
    walk_at "rd"
    refine rd_lenD ht ?_
    walk_at "rd"
    refine rd_iteN (fun h1 => ?_) (fun h1 => ?_)
    · walk_at "rd"
      rw [notRow (by omega)] at q
      exact q
    · obtain ⟨ta, tb, tc, rfl⟩ := row3 (ts := ts) (by omega)
      obtain ⟨p, xs, rfl, hs, ha⟩ := ht.tupE
      obtain ⟨x, xs, rfl, hx, ha⟩ := ha.consE
      obtain ⟨y, xs, rfl, hy, ha⟩ := ha.consE
      obtain ⟨z, xs, rfl, hz, ha⟩ := ha.consE
      cases ha.nilE
      walk_at "rd"
      refine rd_gtup hs rfl ?_
      walk_at "rd"
      refine rd_sp1 ⟨ta, hx, ?_⟩
      walk_at "rd"
      refine rd_iteB (fun e1 => ?_) (fun e1 => ?_)
      · walk_at "rd"
        refine rd_sp1 ⟨tb, hy, ?_⟩
        walk_at "rd"
        refine rd_iteB (fun e2 => ?_) (fun e2 => ?_)
        · walk_at "rd"
          refine rd_sp1 ⟨tc, hz, ?_⟩
          simpa [isRow, e1, e2] using q
        · simpa [isRow, e1, e2] using q
      · simpa [isRow, e1] using q
  | _ => walk_at "rd"; exact q
def startOf : T → Int
  | .tup (.int s :: _) => s
  | _ => 0
def rise : List T → Bool
  | x :: y :: r => decide (startOf x < startOf y) && rise (y :: r)
  | _ => true
def spRise (K : PySem.W.Frag) : Sp := sp1 fun a H Q => ∃ ts, Tv K H a (.tup ts) ∧ ts.length ≤ 20 ∧ ts.all isRow = true ∧ ∀ H', Ex H H' → Q (.bl (rise ts)) H'
theorem rise_drop : ∀ (ts : List T) (i : Nat) (x y : T), ts[i]? = some x → ts[i + 1]? = some y → rise (ts.drop i) = (decide (startOf x < startOf y) && rise (ts.drop (i + 1)))
  | [], i, x, y, h, _ => by simp at h
  | [a], 0, x, y, h, h2 => by simp at h2
  | [a], i + 1, x, y, h, h2 => by simp at h
  | a :: b :: r, 0, x, y, h, h2 => by
    cases (Option.some.inj h); cases (Option.some.inj h2); rfl
  | a :: b :: r, i + 1, x, y, h, h2 => by
    have ih := rise_drop (b :: r) i x y h h2
    exact ih
theorem rise_end (ts : List T) (i : Nat) (h : ts.length ≤ i + 1) : rise (ts.drop i) = true := by
  have hl : (ts.drop i).length ≤ 1 := by rw [List.length_drop]; omega
  match ts.drop i, hl with
  | [], _ => rfl
  | [a], _ => rfl
theorem row_start {K : PySem.W.Frag} {H : Hp} {v : V} {t : T} (h : Tv K H v t) (r : isRow t = true) : ∃ a y z, v = .ref a ∧ SqT K H a [.int (startOf t), y, z] := by
  cases t with
  | tup ts =>
    by_cases hl : ts.length = 3
    · obtain ⟨ta, tb, tc, rfl⟩ := row3 hl
      obtain ⟨p, xs, rfl, hs, ha⟩ := h.tupE
      obtain ⟨x, xs, rfl, hx, ha⟩ := ha.consE
      obtain ⟨y, xs, rfl, hy, ha⟩ := ha.consE
      obtain ⟨z, xs, rfl, hz, ha⟩ := ha.consE
      cases ha.nilE
      have e : isNum ta = true := by
        simp only [isRow, Bool.and_eq_true] at r
        exact r.1
      cases ta with
      | int i => cases hx; exact ⟨p, y, z, rfl, hs⟩
      | _ => cases e
    · rw [notRow hl] at r; cases r
  | _ => cases r
theorem k__starts_rise (T : Tx K mg) : Cal P w K mg base "_starts_rise" 1 p_starts_rise (spRise K) := by
  refine cal1 T.F__starts_rise sc_starts_rise b_starts_rise rfl fun g cdv A outer s H a Q E hr h => ?_
  obtain ⟨ts, ht, hl, hall, q⟩ := h
  refine ⟨_, (pss_cons (ps_for PassesOwn.never rfl (RZ.pi_zipA (by rfl) T.m_zip (pa_cons (pv 0) (pa_cons (pe_slice sl_any (pv 0) (po_some pe_int) po_none) pa_nil))) (pg_tup (n := 2) rfl (pgs_cons (pg_name (i := 1) (sc_starts_rise).nd rfl (by first | exact Or.inl rfl | exact Or.inr rfl)) (pgs_cons (pg_name (i := 2) (sc_starts_rise).nd rfl (by first | exact Or.inl rfl | exact Or.inr rfl)) pgs_nil))) (pss_one (ps_if (pt_cmpR op_ge (pe_ix ix_seq (pv 1) pe_int (fun _ _ => rfl)) (pe_ix ix_seq (pv 2) pe_int (fun _ _ => rfl)) (nomark _)) (pss_one (ps_ret pe_bl)) pss_nil))) (pss_one (ps_ret pe_bl))), ?_⟩
  rw [t_starts_rise]
  try dsimp only [cxOf, Cx.nox, Cx.wish]
  obtain ⟨p, xs, rfl, hs, ha⟩ := ht.tupE
  walk_at "rd"
  refine rd_slT hs fun r H1 e1 hr1 => ?_
  walk_at "rd"
  have hs1 : SqT K H1 p xs := by walk_at "sqt"
  have ha1 : TvA K H1 xs ts := by walk_at "tva"
  refine rd_fzT hs1 hr1 ?_
  have el : xs.length = ts.length := ha.len
  rw [cutV_tail] at hr1
  refine forW_Z xs (xs.drop 1) (n := ts.length - 1) (by rw [List.length_drop]; omega) (fun i σ H2 => (∃ y z, σ = [some (.ref p), y, z]) ∧ Ex H1 H2 ∧ rise ts = rise (ts.drop i)) ?_ ?_ ?_ ?_
  · exact ⟨⟨_, _, rfl⟩, Evl.Ex.refl _, rfl⟩
  · rintro i σ H2 hi ⟨_, e2, _⟩
    exact ⟨sqt_ex hs1 e2, sqt_ex hr1 e2⟩
  · rintro i x y c σ H2 H3 hi ⟨⟨y0, z0, rfl⟩, e2, hrise⟩ hx hy hc e3 hcT
    rw [List.getElem?_drop, Nat.add_comm] at hy
    have a3 : TvA K H3 xs ts := tva_ex (tva_ex ha1 e2) e3
    obtain ⟨tx, htx, vx⟩ := a3.getV hx
    obtain ⟨ty, hty, vy⟩ := a3.getV hy
    obtain ⟨px, x1, x2, rfl, sx⟩ := row_start vx (List.all_eq_true.mp hall tx (List.mem_of_getElem? htx))
    obtain ⟨py, y1, y2, rfl, sy⟩ := row_start vy (List.all_eq_true.mp hall ty (List.mem_of_getElem? hty))
    refine rd_gtup (SqT.of hcT) rfl ?_
    walk_at "rd"
    refine rd_ixT sx (atI_nat (j := 0) rfl) ?_
    walk_at "rd"
    refine rd_ixT sy (atI_nat (j := 0) rfl) ?_
    walk_at "rd"
    have e4 := rise_drop ts i tx ty htx hty
    refine rd_ite (fun h1 => ?_) (fun h1 => ?_)
    · walk_at "rd"
      have e5 : rise ts = false := by
        rw [hrise, e4, decide_eq_false (by omega)]
        rfl
      rw [e5] at q
      exact q _ ((e1.trans e2).trans e3)
    · walk_at "rd"
      refine ⟨⟨_, _, rfl⟩, e2.trans e3, ?_⟩
      rw [hrise, e4, decide_eq_true (by omega)]
      rfl
  · rintro σ H2 ⟨_, e2, hrise⟩
    walk_at "rd"
    have e5 : rise ts = true := by
      rw [hrise]
      exact rise_end ts _ (by omega)
    rw [e5] at q
    exact q _ (e1.trans e2)
def isTable : T → Bool
  | .tup ts => decide (1 ≤ ts.length) && decide (ts.length ≤ 20) && (ts.all isRow && rise ts)
  | _ => false
theorem isTable_tup (ts : List T) : isTable (.tup ts) = (decide (1 ≤ ts.length) && decide (ts.length ≤ 20) && (ts.all isRow && rise ts)) := rfl
def spTab (K : PySem.W.Frag) : Sp := sp1 fun a H Q => ∃ t, Tv K H a t ∧ ∀ H', Ex H H' → Q (.bl (isTable t)) H'
theorem all_take {p : T → Bool} {ts : List T} {i : Nat} {t : T} (h : ts[i]? = some t) : (ts.take (i + 1)).all p = ((ts.take i).all p && p t) := by
  rw [List.take_add_one, h, List.all_append]
  simp
theorem k_is_table (T : Tx K mg) (c__is_row : Cal P w K mg base "_is_row" 4 p_is_row (spRow K)) (c__starts_rise : Cal P w K mg base "_starts_rise" 1 p_starts_rise (spRise K)) : Cal P w K mg base "is_table" 5 pis_table (spTab K) := by
  refine cal1 T.F_is_table scis_table bis_table rfl fun g cdv A outer s H a Q E hr h => ?_
  obtain ⟨t, ht, q⟩ := h
  refine ⟨_, (pss_cons (ps_if (PW.pt (pw_or (pt_not (pt_tru (pe_callB call_isi (by rfl) T.m_isinstance (by decide +kernel) (pa_cons (pv 0) (pa_cons (pe_ty (n := "tuple") T.m_tuple (by decide +kernel)) pa_nil))))) (pw_or1 (pt_not (pt_chain op_le op_le pe_int (pe_callB cr_lenA (by rfl) T.m_len (by decide +kernel) (pa_cons (pv 0) pa_nil)) (pe_gint T.g_MOST_ROWS)))))) (pss_one (ps_ret pe_bl)) pss_nil) (pss_cons (ps_for PassesOwn.never rfl (pi_seq (pv 0)) (pg_name (i := 1) (scis_table).nd rfl (by first | exact Or.inl rfl | exact Or.inr rfl)) (pss_one (ps_if (pt_not (pt_tru (pe_cal c__is_row (hr.mono (by omega)) (pa_cons (pv 1) pa_nil)))) (pss_one (ps_ret pe_bl)) pss_nil))) (pss_one (ps_ret (pe_cal c__starts_rise (hr.mono (by omega)) (pa_cons (pv 0) pa_nil)))))), ?_⟩
  rw [tis_table]
  try dsimp only [cxOf, Cx.nox, Cx.wish]
  walk_at "rd"
  cases t with
  | tup ts =>
    walk_at "rd"
    refine rd_lenD ht ?_
    walk_at "rd"
    refine rd_ite (fun h1 => ?_) (fun h1 => ?_)
    · walk_at "rd"
      refine rd_iteN (fun h2 => ?_) (fun h2 => ?_)
      · walk_at "rd"
        have e : isTable (.tup ts) = false := by
          rw [isTable_tup]
          rw [decide_eq_false (show ¬ ts.length ≤ 20 by omega), Bool.and_false, Bool.false_and]
        rw [e] at q
        exact q H (Evl.Ex.refl H)
      · obtain ⟨p, xs, rfl, hs, ha⟩ := ht.tupE
        walk_at "rd"
        have el : xs.length = ts.length := ha.len
        refine forW_T xs (fun i σ H2 => (∃ y, σ = [some (.ref p), y]) ∧ H2 = H ∧ (ts.take i).all isRow = true) ?_ ?_ ?_ ?_
        · exact ⟨⟨_, rfl⟩, rfl, rfl⟩
        · rintro i σ H2 hi ⟨_, rfl, _⟩
          exact hs
        · rintro i x σ H2 hx ⟨⟨y, rfl⟩, rfl, hall⟩
          obtain ⟨tx, htx, vx⟩ := ha.getV hx
          walk_at "rd"
          refine rd_sp1 ⟨tx, vx, ?_⟩
          walk_at "rd"
          cases e1 : isRow tx with
          | true =>
            walk_at "rd"
            refine ⟨⟨_, rfl⟩, rfl, ?_⟩
            rw [all_take htx, hall, e1]
            rfl
          | false =>
            walk_at "rd"
            have e : isTable (.tup ts) = false := by
              have e2 : ts.all isRow = false := by
                rw [Bool.eq_false_iff]
                intro z
                have z' := List.all_eq_true.mp z tx (List.mem_of_getElem? htx)
                rw [e1] at z'; cases z'
              rw [isTable_tup]
              rw [e2, Bool.false_and, Bool.and_false]
            rw [e] at q
            exact q H2 (Evl.Ex.refl H2)
        · rintro σ H2 ⟨⟨y, rfl⟩, rfl, hall⟩
          rw [el, List.take_length] at hall
          walk_at "rd"
          refine rd_sp1 ⟨ts, ht, by omega, hall, fun H' e => ?_⟩
          have e : isTable (.tup ts) = rise ts := by
            rw [isTable_tup]
            rw [decide_eq_true (show 1 ≤ ts.length by omega), decide_eq_true (show ts.length ≤ 20 by omega), hall]
            rfl
          rw [e] at q
          exact q H' (by assumption)
    · walk_at "rd"
      have e : isTable (.tup ts) = false := by
        rw [isTable_tup]
        rw [decide_eq_false (show ¬ 1 ≤ ts.length by omega), Bool.false_and, Bool.false_and]
      rw [e] at q
      exact q H (Evl.Ex.refl H)
  | _ => walk_at "rd"; exact q H (Evl.Ex.refl H)
/-- a table's row, as three ints -/
structure Row where
  s : Int
  p : Int
  c : Int
def rowT (r : Row) : T := .tup [.int r.s, .int r.p, .int r.c]
def atN (rows : List Row) (n : Int) : Int := rows.foldl (fun told r => if r.s ≤ n then r.p + (n - r.s) * r.c / 100 else told) 0
def pcts (rows : List Row) : Prop := ∀ r ∈ rows, 0 ≤ r.c ∧ r.c ≤ 100
def spAt (K : PySem.W.Frag) : Sp := sp2 fun a b H Q => ∃ rows n, Tv K H a (.tup (rows.map rowT)) ∧ b = .int n ∧ pcts rows ∧ Q (.int (atN rows n)) H
theorem tv_row {K : PySem.W.Frag} {H : Hp} {v : V} {r : Row} (h : Tv K H v (rowT r)) : ∃ a, v = .ref a ∧ SqT K H a [.int r.s, .int r.p, .int r.c] := by
  obtain ⟨p, xs, rfl, hs, ha⟩ := Tv.tupE h
  obtain ⟨x, xs, rfl, hx, ha⟩ := ha.consE
  obtain ⟨y, xs, rfl, hy, ha⟩ := ha.consE
  obtain ⟨z, xs, rfl, hz, ha⟩ := ha.consE
  cases ha.nilE
  cases hx; cases hy; cases hz
  exact ⟨p, rfl, hs⟩
theorem tva_rows {K : PySem.W.Frag} {H : Hp} {xs : List V} {rows : List Row} {i : Nat} {x : V} (h : TvA K H xs (rows.map rowT)) (hx : xs[i]? = some x) : ∃ r a, rows[i]? = some r ∧ x = .ref a ∧ SqT K H a [.int r.s, .int r.p, .int r.c] := by
  obtain ⟨t, ht, hv⟩ := h.getV hx
  rw [List.getElem?_map] at ht
  cases e : rows[i]? with
  | none => rw [e] at ht; cases ht
  | some r =>
    rw [e] at ht
    cases (Option.some.inj ht)
    obtain ⟨a, rfl, hs⟩ := tv_row hv
    exact ⟨r, a, rfl, rfl, hs⟩
theorem atN_take {rows : List Row} {i : Nat} {r : Row} {n : Int} (h : rows[i]? = some r) : atN (rows.take (i + 1)) n = if r.s ≤ n then r.p + (n - r.s) * r.c / 100 else atN (rows.take i) n := by
  unfold atN
  rw [List.take_add_one, h]
  simp
theorem k_at_number (T : Tx K mg) (c_hundredths : Cal P w K mg base "hundredths" 1 phundredths (spHun K)) : Cal P w K mg base "at_number" 2 pat_number (spAt K) := by
  refine cal2 T.F_at_number scat_number bat_number rfl fun g cdv A outer s H a b Q E hr h => ?_
  obtain ⟨rows, n, ht, rfl, hp, q⟩ := h
  refine ⟨_, (pss_cons (ps_set (i := 2) (scat_number).nd rfl (by first | exact Or.inl rfl | exact Or.inr rfl) pe_int) (pss_cons (ps_for PassesOwn.never rfl (pi_seq (pv 0)) (pg_tup (n := 3) rfl (pgs_cons (pg_name (i := 3) (scat_number).nd rfl (by first | exact Or.inl rfl | exact Or.inr rfl)) (pgs_cons (pg_name (i := 4) (scat_number).nd rfl (by first | exact Or.inl rfl | exact Or.inr rfl)) (pgs_cons (pg_name (i := 5) (scat_number).nd rfl (by first | exact Or.inl rfl | exact Or.inr rfl)) pgs_nil)))) (pss_one (ps_if (pt_cmpR op_le (pv 3) (pv 1) (nomark _)) (pss_one (ps_set (i := 2) (scat_number).nd rfl (by first | exact Or.inl rfl | exact Or.inr rfl) (pe_op op_addA (pv 4) (pe_cal c_hundredths (hr.mono (by omega)) (pa_cons (pe_op op_sub (pv 1) (pv 3)) (pa_cons (pv 5) pa_nil)))))) pss_nil))) (pss_one (ps_ret (pv 2))))), ?_⟩
  rw [tat_number]
  try dsimp only [cxOf, Cx.nox, Cx.wish]
  obtain ⟨p, xs, rfl, hs, ha⟩ := ht.tupE
  have el : xs.length = rows.length := by rw [ha.len, List.length_map]
  walk_at "rd"
  refine forW_T xs (fun i σ H2 => (∃ t y z u, σ = [some (.ref p), some (.int n), some (.int t), y, z, u] ∧ t = atN (rows.take i) n) ∧ H2 = H) ?_ ?_ ?_ ?_
  · exact ⟨⟨_, _, _, _, rfl, rfl⟩, rfl⟩
  · rintro i σ H2 hi ⟨_, rfl⟩
    exact hs
  · rintro i x σ H2 hx ⟨⟨t, y, z, u, rfl, et⟩, rfl⟩
    obtain ⟨r, c, hr, rfl, hc⟩ := tva_rows ha hx
    have hpr := hp r (List.mem_of_getElem? hr)
    refine rd_gtup hc rfl ?_
    walk_at "rd"
    refine rd_ite (fun h1 => ?_) (fun h1 => ?_)
    · walk_at "rd"
      refine rd_sp2 ⟨_, _, rfl, rfl, hpr.1, hpr.2, ?_⟩
      walk_at "rd"
      exact ⟨⟨_, _, _, _, rfl, by rw [atN_take hr, if_pos h1]⟩, rfl⟩
    · walk_at "rd"
      exact ⟨⟨_, _, _, _, rfl, by rw [atN_take hr, if_neg h1]; exact et⟩, rfl⟩
  · rintro σ H2 ⟨⟨t, y, z, u, rfl, et⟩, rfl⟩
    walk_at "rd"
    rw [el, List.take_length] at et
    rw [et]
    exact q
/-! the law's own -/
def spAtL (K : PySem.W.Frag) : Sp := spAt K
theorem k__law_at (T : Tx K mg) : Cal P w K mg base "_law_at" 1 p_law_at (spAt K) := by
  refine cal2 T.F__law_at sc_law_at b_law_at rfl fun g cdv A outer s H a b Q E hr h => ?_
  obtain ⟨rows, n, ht, rfl, hp, q⟩ := h
  refine ⟨_, (pss_cons (ps_set (i := 2) (sc_law_at).nd rfl (by first | exact Or.inl rfl | exact Or.inr rfl) pe_int) (pss_cons (ps_for PassesOwn.never rfl (pi_seq (pv 0)) (pg_name (i := 3) (sc_law_at).nd rfl (by first | exact Or.inl rfl | exact Or.inr rfl)) (pss_one (ps_if (pt_cmpR op_ge (pv 1) (pe_ix ix_seq (pv 3) pe_int (fun _ _ => rfl)) (nomark _)) (pss_one (ps_set (i := 2) (sc_law_at).nd rfl (by first | exact Or.inl rfl | exact Or.inr rfl) (pe_op op_addA (pe_ix ix_seq (pv 3) pe_int (fun _ _ => rfl)) (pe_op op_fdiv (pe_op op_mul (pe_op op_sub (pv 1) (pe_ix ix_seq (pv 3) pe_int (fun _ _ => rfl))) (pe_ix ix_seq (pv 3) pe_int (fun _ _ => rfl))) pe_int)))) pss_nil))) (pss_one (ps_ret (pv 2))))), ?_⟩
  rw [t_law_at]
  try dsimp only [cxOf, Cx.nox, Cx.wish]
  obtain ⟨p, xs, rfl, hs, ha⟩ := ht.tupE
  have el : xs.length = rows.length := by rw [ha.len, List.length_map]
  walk_at "rd"
  refine forW_T xs (fun i σ H2 => (∃ t y, σ = [some (.ref p), some (.int n), some (.int t), y] ∧ t = atN (rows.take i) n) ∧ H2 = H) ?_ ?_ ?_ ?_
  · exact ⟨⟨_, _, rfl, rfl⟩, rfl⟩
  · rintro i σ H2 hi ⟨_, rfl⟩
    exact hs
  · rintro i x σ H2 hx ⟨⟨t, y, rfl, et⟩, rfl⟩
    obtain ⟨r, c, hr, rfl, hc⟩ := tva_rows ha hx
    have hpr := hp r (List.mem_of_getElem? hr)
    walk_at "rd"
    refine rd_ixT hc (atI_nat (j := 0) rfl) ?_
    walk_at "rd"
    refine rd_ite (fun h1 => ?_) (fun h1 => ?_)
    · walk_at "rd"
      refine rd_ixT hc (atI_nat (j := 1) rfl) ?_
      walk_at "rd"
      refine rd_ixT hc (atI_nat (j := 0) rfl) ?_
      walk_at "rd"
      refine rd_ixT hc (atI_nat (j := 2) rfl) ?_
      walk_at "rd"
      exact ⟨⟨_, _, rfl, by rw [atN_take hr, if_pos h1]⟩, rfl⟩
    · walk_at "rd"
      exact ⟨⟨_, _, rfl, by rw [atN_take hr, if_neg h1]; exact et⟩, rfl⟩
  · rintro σ H2 ⟨⟨t, y, rfl, et⟩, rfl⟩
    walk_at "rd"
    rw [el, List.take_length] at et
    rw [et]
    exact q
def spCell (K : PySem.W.Frag) : Sp := sp2 fun a b H Q => ∃ (l : Addr) (ns : List Int) (k : Nat), a = .ref l ∧ b = .int ((k : Nat) : Int) ∧ SqL K H l (ns.map V.int) ∧ ∀ r, Q (.int r) H
theorem k__law_cell_at (T : Tx K mg) : Cal P w K mg base "_law_cell_at" 1 p_law_cell_at (spCell K) := by
  refine cal2 T.F__law_cell_at sc_law_cell_at b_law_cell_at rfl fun g cdv A outer s H a b Q E hr h => ?_
  obtain ⟨l, ns, k, rfl, rfl, hl, q⟩ := h
  refine ⟨_, (pss_cons (ps_if (pt_cmpR op_lt (pv 1) (pe_callB cr_lenA (by rfl) T.m_len (by decide +kernel) (pa_cons (pv 0) pa_nil)) (nomark _)) (pss_one (ps_ret (pe_ix ix_seq (pv 0) (pv 1) (fun _ _ => rfl)))) pss_nil) (pss_one (ps_ret pe_int))), ?_⟩
  rw [t_law_cell_at]
  try dsimp only [cxOf, Cx.nox, Cx.wish]
  walk_at "rd"
  refine rd_lenL hl ?_
  walk_at "rd"
  refine rd_ite (fun h1 => ?_) (fun h1 => ?_)
  · walk_at "rd"
    rw [List.length_map] at h1
    have hk : k < ns.length := by omega
    refine rd_ixL hl (atI_nat (j := k) (v := .int ns[k]) ?_) ?_
    · rw [List.getElem?_map, List.getElem?_eq_getElem hk]
      rfl
    · exact q _
  · walk_at "rd"
    exact q _
def spMixed (K : PySem.W.Frag) : Sp := sp2 fun a b H Q => ∃ c k, a = .int c ∧ b = .int k ∧ ∀ r, 0 ≤ r → r < 2147483647 → Q (.int r) H
theorem k__law_mixed (T : Tx K mg) : Cal P w K mg base "_law_mixed" 1 p_law_mixed (spMixed K) := by
  refine cal2 T.F__law_mixed sc_law_mixed b_law_mixed rfl fun g cdv A outer s H a b Q E hr h => ?_
  obtain ⟨c, k, rfl, rfl, q⟩ := h
  refine ⟨_, (pss_one (ps_ret (pe_op op_mod (pe_op op_mul (pe_op op_addA (pv 0) (pe_op op_mul pe_int (pv 1))) pe_int) pe_int))), ?_⟩
  rw [t_law_mixed]
  try dsimp only [cxOf, Cx.nox, Cx.wish]
  walk_at "rd"
  exact q _ (by omega) (by omega)
def spNext (K : PySem.W.Frag) : Sp := sp2 fun a b H Q => ∃ l n, a = .ref l ∧ b = .int n ∧ (∃ s, H l = some (.lst [.int s])) ∧ 0 < n ∧ ∀ r H', 0 ≤ r → r < n → St1 l H H' → Q (.int r) H'
theorem k__law_next (T : Tx K mg) : Cal P w K mg base "_law_next" 1 p_law_next (spNext K) := by
  refine cal2 T.F__law_next sc_law_next b_law_next rfl fun g cdv A outer s H a b Q E hr h => ?_
  obtain ⟨l, n, rfl, rfl, ⟨s0, hl⟩, hn, q⟩ := h
  refine ⟨_, (pss_cons (ps_asg (pe_op op_mod (pe_op op_addA (pe_op op_mul (pe_ix ix_seq (pv 0) pe_int (fun _ _ => rfl)) pe_int) pe_int) pe_int) (pg_sub (pv 0) pe_int set_list)) (pss_one (ps_ret (pe_op op_mod (pe_op op_fdiv (pe_ix ix_seq (pv 0) pe_int (fun _ _ => rfl)) pe_int) (pv 1))))), ?_⟩
  rw [t_law_next]
  try dsimp only [cxOf, Cx.nox, Cx.wish]
  walk_at "rd"
  refine rd_ixL (.of hl) (atI_nat (j := 0) rfl) ?_
  walk_at "rd"
  refine rd_setL hl (j := 0) rfl ?_
  walk_at "rd"
  refine rd_ixL (.of upd_same) (atI_nat (j := 0) rfl) ?_
  walk_at "rd"
  refine q _ _ (Int.emod_nonneg _ (by omega)) (Int.emod_lt_of_pos _ hn) ⟨fun b o hb e => by rw [upd_ne hb]; exact e, ⟨_, upd_same⟩, Tame.upd hl⟩
theorem nx {l : Addr} {n : Int} {E : XK} (h : ∃ s, H l = some (.lst [.int s])) (hn : 0 < n) (q : ∀ r H', 0 ≤ r → r < n → St1 l H H' → Q (.int r) H') : spNext K [.ref l, .int n] H Q E := rd_sp2 ⟨l, n, rfl, rfl, h, hn, q⟩
def spWh (K : PySem.W.Frag) : Sp := spWhole K
theorem k__law_whole (T : Tx K mg) : Cal P w K mg base "_law_whole" 1 p_law_whole (spWhole K) := by
  refine cal1 T.F__law_whole sc_law_whole b_law_whole rfl fun g cdv A outer s H a Q E hr h => ?_
  obtain ⟨t, ht, q⟩ := h
  refine ⟨_, (pss_one (ps_ret (pe_and (pe_callB call_isi (by rfl) T.m_isinstance (by decide +kernel) (pa_cons (pv 0) (pa_cons (pe_ty (n := "int") T.m_int (by decide +kernel)) pa_nil))) (pe_one (pe_not (pe_callB call_isi (by rfl) T.m_isinstance (by decide +kernel) (pa_cons (pv 0) (pa_cons (pe_ty (n := "bool") T.m_bool (by decide +kernel)) pa_nil)))))))), ?_⟩
  rw [t_law_whole]
  try dsimp only [cxOf, Cx.nox, Cx.wish]
  cases t <;> (walk_at "rd"; exact q)
def spNumb (K : PySem.W.Frag) : Sp := sp1 fun a H Q => ∃ l, a = .ref l ∧ (∃ s, H l = some (.lst [.int s])) ∧ ∀ r H', -1000000000 ≤ r → r ≤ 1000000000 → St1 l H H' → Q (.int r) H'
theorem k__law_number (T : Tx K mg) (c__law_next : Cal P w K mg base "_law_next" 1 p_law_next (spNext K)) : Cal P w K mg base "_law_number" 2 p_law_number (spNumb K) := by
  refine cal1 T.F__law_number sc_law_number b_law_number rfl fun g cdv A outer s H a Q E hr h => ?_
  obtain ⟨l, rfl, hl, q⟩ := h
  refine ⟨_, (pss_cons (ps_set (i := 1) (sc_law_number).nd rfl (by first | exact Or.inl rfl | exact Or.inr rfl) (pe_cal c__law_next (hr.mono (by omega)) (pa_cons (pv 0) (pa_cons pe_int pa_nil)))) (pss_cons (ps_if (pt_cmpR (op_eqA hr) (pv 1) pe_int (nomark _)) (pss_one (ps_ret (pe_ix ix_seq (pe_lst (pa_cons (pe_un un_neg (pe_op op_pow pe_int pe_int)) (pa_cons (pe_op op_pow pe_int pe_int) (pa_cons (pe_op op_sub (pe_op op_pow pe_int pe_int) pe_int) (pa_cons (pe_op op_sub pe_int (pe_op op_pow pe_int pe_int)) pa_nil))))) (pe_cal c__law_next (hr.mono (by omega)) (pa_cons (pv 0) (pa_cons pe_int pa_nil))) (fun _ _ => rfl)))) pss_nil) (pss_cons (ps_if (pt_cmpR (op_eqA hr) (pv 1) pe_int (nomark _)) (pss_one (ps_ret (pe_op op_sub (pe_cal c__law_next (hr.mono (by omega)) (pa_cons (pv 0) (pa_cons pe_int pa_nil))) pe_int))) pss_nil) (pss_one (ps_ret (pe_op op_sub (pe_cal c__law_next (hr.mono (by omega)) (pa_cons (pv 0) (pa_cons pe_int pa_nil))) pe_int)))))), ?_⟩
  rw [t_law_number]
  try dsimp only [cxOf, Cx.nox, Cx.wish]
  walk_at "rd"
  refine nx hl (by decide) fun r1 H1 a1 b1 S1 => ?_
  walk_at "rd"
  refine rd_ite (fun h1 => ?_) (fun h1 => ?_)
  · walk_at "rd"
    refine new_lst fun p H2 hp E2 h2 => ?_
    walk_at "rd"
    refine nx (by walk_at "sta") (by decide) fun r3 H3 a3 b3 S3 => ?_
    walk_at "rd"
    have hp3 : H3 p = _ := S3.fr p _ (ne_st S1.st hp) h2
    refine rd_ixLm (.of hp3) a3 (by simpa using b3) fun v hv => ?_
    have S : St1 l H H3 := (S1.trans (.ex S1.st E2)).trans S3
    simp only [List.mem_cons, List.not_mem_nil, or_false] at hv
    rcases hv with rfl | rfl | rfl | rfl <;> exact q _ _ (by decide) (by decide) S
  · walk_at "rd"
    refine rd_ite (fun h2 => ?_) (fun h2 => ?_)
    · walk_at "rd"
      refine nx S1.st (by decide) fun r2 H2 a2 b2 S2 => ?_
      walk_at "rd"
      exact q _ _ (by omega) (by omega) (S1.trans S2)
    · walk_at "rd"
      refine nx S1.st (by decide) fun r2 H2 a2 b2 S2 => ?_
      walk_at "rd"
      exact q _ _ (by omega) (by omega) (S1.trans S2)
end
end K1
open PySem PySem.Spec PyProof.Rows L2 Qa


namespace K1
section
variable {P : Program} {w : World} {K : PySem.W.Frag} {mg : Str → Option Value} {base : Heap} {H : Hp} {Q : VK} {E : XK}
/-- a drawn table -/
structure GoodRow (r : Row) : Prop where
  s0 : -1000000000 ≤ r.s
  s1 : r.s ≤ 1000000000
  p0 : -1000000000 ≤ r.p
  p1 : r.p ≤ 1000000000
  c0 : 0 ≤ r.c
  c1 : r.c ≤ 100
def riseR : List Row → Prop
  | x :: y :: r => x.s < y.s ∧ riseR (y :: r)
  | _ => True
structure GoodTab (rows : List Row) : Prop where
  len : 1 ≤ rows.length ∧ rows.length ≤ 20
  row : ∀ r ∈ rows, GoodRow r
  rise : riseR rows
theorem riseR_snoc : ∀ (rows : List Row) (x : Row), riseR rows → (∀ r ∈ rows, r.s < x.s) → riseR (rows ++ [x])
  | [], x, _, _ => trivial
  | [a], x, _, h => ⟨h a List.mem_cons_self, trivial⟩
  | a :: b :: r, x, hr, h => ⟨hr.1, riseR_snoc (b :: r) x hr.2 fun y hy => h y (List.mem_cons_of_mem _ hy)⟩
structure Drawn (K : PySem.W.Frag) (H' : Hp) (o : Addr) (rows : List Row) (i : Nat) (st z : Int) : Prop where
  at_ : ∃ vs, H' o = some (.lst vs) ∧ TvA K H' vs (rows.map rowT)
  len : rows.length = i
  good : ∀ r ∈ rows, GoodRow r
  rise : riseR rows
  low : ∀ r ∈ rows, r.s < st
  s0 : -1000000000 ≤ st
  s1 : st ≤ z + 20000 * i
def spTable (K : PySem.W.Frag) : Sp := sp1 fun a H Q => ∃ l, a = .ref l ∧ (∃ s, H l = some (.lst [.int s])) ∧ ∀ v rows H', GoodTab rows → Tv K H' v (.tup (rows.map rowT)) → St1 l H H' → Q v H'
theorem k__law_table (T : Tx K mg) (c__law_next : Cal P w K mg base "_law_next" 1 p_law_next (spNext K)) (c__law_number : Cal P w K mg base "_law_number" 2 p_law_number (spNumb K)) : Cal P w K mg base "_law_table" 3 p_law_table (spTable K) := by
  refine cal1 T.F__law_table sc_law_table b_law_table rfl fun g cdv A outer s H a Q E hr h => ?_
  obtain ⟨l, rfl, hl, q⟩ := h
  refine ⟨_, (pss_cons (ps_set (i := 1) (sc_law_table).nd rfl (by first | exact Or.inl rfl | exact Or.inr rfl) (pe_op op_addA pe_int (pe_cal c__law_next (hr.mono (by omega)) (pa_cons (pv 0) (pa_cons pe_int pa_nil))))) (Evl.pss_cut (ps_if (pt_cmpR (op_eqA hr) (pe_cal c__law_next (hr.mono (by omega)) (pa_cons (pv 0) (pa_cons pe_int pa_nil))) pe_int (nomark _)) (pss_one (ps_set (i := 1) (sc_law_table).nd rfl (by first | exact Or.inl rfl | exact Or.inr rfl) (pe_op op_addA pe_int (pe_cal c__law_next (hr.mono (by omega)) (pa_cons (pv 0) (pa_cons pe_int pa_nil)))))) pss_nil) (pss_cons (ps_set (i := 2) (sc_law_table).nd rfl (by first | exact Or.inl rfl | exact Or.inr rfl) (pe_ix ix_seq (pe_lst (pa_cons (pe_un un_neg (pe_op op_pow pe_int pe_int)) (pa_cons (pe_op op_sub (pe_cal c__law_next (hr.mono (by omega)) (pa_cons (pv 0) (pa_cons pe_int pa_nil))) pe_int) (pa_cons (pe_op op_sub (pe_op op_pow pe_int pe_int) (pe_op op_mul pe_int (pv 1))) pa_nil)))) (pe_op op_fdiv (pe_cal c__law_next (hr.mono (by omega)) (pa_cons (pv 0) (pa_cons pe_int pa_nil))) pe_int) (fun _ _ => rfl))) (pss_cons (ps_set (i := 3) (sc_law_table).nd rfl (by first | exact Or.inl rfl | exact Or.inr rfl) (pe_lst pa_nil)) (pss_cons (ps_for PassesOwn.never rfl (pi_range1 (by rfl) T.m_range (pa_cons (pv 1) pa_nil)) (pg_name (i := 4) (sc_law_table).nd rfl (by first | exact Or.inl rfl | exact Or.inr rfl)) (pss_cons (ps_set (i := 5) (sc_law_table).nd rfl (by first | exact Or.inl rfl | exact Or.inr rfl) (pe_ix ix_seq (pe_lst (pa_cons pe_int (pa_cons pe_int (pa_cons (pe_cal c__law_next (hr.mono (by omega)) (pa_cons (pv 0) (pa_cons pe_int pa_nil))) pa_nil)))) (pe_cal c__law_next (hr.mono (by omega)) (pa_cons (pv 0) (pa_cons pe_int pa_nil))) (fun _ _ => rfl))) (pss_cons (ps_expr (pe_bm PySem.F.plainAttrs_list PySem.F.slot_list_append PySem.F.type_list_append mt_append (pv 3) (pa_cons (pe_tup (pa_cons (pv 2) (pa_cons (pe_cal c__law_number (hr.mono (by omega)) (pa_cons (pv 0) pa_nil)) (pa_cons (pv 5) pa_nil)))) pa_nil))) (pss_one (ps_set (i := 2) (sc_law_table).nd rfl (by first | exact Or.inl rfl | exact Or.inr rfl) (pe_op op_addA (pe_op op_addA (pv 2) pe_int) (pe_ix ix_seq (pe_lst (pa_cons (pe_cal c__law_next (hr.mono (by omega)) (pa_cons (pv 0) (pa_cons pe_int pa_nil))) (pa_cons (pe_cal c__law_next (hr.mono (by omega)) (pa_cons (pv 0) (pa_cons pe_int pa_nil))) pa_nil))) (pe_cal c__law_next (hr.mono (by omega)) (pa_cons (pv 0) (pa_cons pe_int pa_nil))) (fun _ _ => rfl)))))))) (pss_one (ps_ret (pe_callTy cr_tupOf (by rfl) T.m_tuple (by decide +kernel) (pa_cons (pv 3) pa_nil))))))))), ?_⟩
  rw [t_law_table]
  try dsimp only [cxOf, Cx.nox, Cx.wish]
  walk_at "rd"
  refine nx hl (by decide) fun r1 H1 a1 b1 S1 => ?_
  walk_at "rd"
  refine rd_cut (fun σ H' => ∃ m, σ = [some (.ref l), some (.int m), none, none, none, none] ∧ 1 ≤ m ∧ m ≤ 20 ∧ St1 l H H') ?_ ?_
  · walk_at "rd"
    refine nx S1.st (by decide) fun r2 H2 a2 b2 S2 => ?_
    walk_at "rd"
    refine rd_ite (fun h1 => ?_) (fun h1 => ?_)
    · walk_at "rd"
      refine nx S2.st (by decide) fun r3 H3 a3 b3 S3 => ?_
      walk_at "rd"
      exact ⟨_, rfl, by omega, by omega, (S1.trans S2).trans S3⟩
    · walk_at "rd"
      exact ⟨_, rfl, by omega, by omega, S1.trans S2⟩
  rintro σ H4 ⟨m, rfl, m0, m1, S4⟩
  walk_at "rd"
  refine nx S4.st (by decide) fun r5 H5 a5 b5 S5 => ?_
  walk_at "rd"
  refine new_lst fun p H6 hp E6 h6 => ?_
  walk_at "rd"
  refine nx (by walk_at "sta") (by decide) fun r7 H7 a7 b7 S7 => ?_
  walk_at "rd"
  have h7 : H7 p = _ := S7.fr p _ (ne_st S5.st hp) h6
  refine rd_ixLm (.of h7) (by omega) (by simp; omega) fun v hv => ?_
  obtain ⟨z, rfl, z0, z1⟩ : ∃ z : Int, v = .int z ∧ -1000000000 ≤ z ∧ z + 20000 * m ≤ 1000000000 := by
    simp only [List.mem_cons, List.not_mem_nil, or_false] at hv
    rcases hv with rfl | rfl | rfl
    · exact ⟨_, rfl, by omega, by omega⟩
    · exact ⟨_, rfl, by omega, by omega⟩
    · exact ⟨_, rfl, by omega, by omega⟩
  have S : St1 l H H7 := ((S4.trans S5).trans (.ex S5.st E6)).trans S7
  walk_at "rd"
  refine new_lst fun o H8 ho E8 h8 => ?_
  walk_at "rd"
  have hne : o ≠ l := ne_st S.st ho
  refine forW_R (fun i σ H' => ∃ rows st y w, σ = [some (.ref l), some (.int m), some (.int st), some (.ref o), y, w] ∧ Drawn K H' o rows i st z ∧ St1 l H H') ?_ ?_ ?_
  · exact ⟨[], _, _, _, rfl, ⟨⟨_, h8, .nil⟩, rfl, by simp, trivial, by simp, z0, by simp⟩, S.trans (.ex S.st E8)⟩
  · rintro i σ H9 hi ⟨rows, st, y, w, rfl, D, S9⟩
    obtain ⟨vs, ho9, hvs⟩ := D.at_
    have hi' : (i : Int) < m := by omega
    walk_at "rd"
    refine nx S9.st (by decide) fun r1 H10 a10 b10 S10 => ?_
    walk_at "rd"
    refine new_lst fun c H11 hc E11 h11 => ?_
    walk_at "rd"
    refine nx (by walk_at "sta") (by decide) fun r2 H12 a12 b12 S12 => ?_
    walk_at "rd"
    have h12 : H12 c = _ := S12.fr c _ (ne_st S10.st hc) h11
    refine rd_ixLm (.of h12) (by omega) (by simp; omega) fun v hv => ?_
    obtain ⟨pc, rfl, pc0, pc1⟩ : ∃ z : Int, v = .int z ∧ 0 ≤ z ∧ z ≤ 100 := by
      simp only [List.mem_cons, List.not_mem_nil, or_false] at hv
      rcases hv with rfl | rfl | rfl
      · exact ⟨_, rfl, by omega, by omega⟩
      · exact ⟨_, rfl, by omega, by omega⟩
      · exact ⟨_, rfl, by omega, by omega⟩
    clear hv
    have T12 : St1 l H9 H12 := (S10.trans (.ex S10.st E11)).trans S12
    have ho12 : H12 o = some (.lst vs) := T12.fr o _ hne ho9
    walk_at "rd"
    refine rd_sp1 ⟨l, rfl, T12.st, fun pl H13 p0 p1 S13 => ?_⟩
    walk_at "rd"
    refine new_tup fun t H14 ht E14 h14 => ?_
    walk_at "rd"
    have T14 : St1 l H9 H14 := (T12.trans S13).trans (.ex S13.st E14)
    have ho14 : H14 o = some (.lst vs) := T14.fr o _ hne ho9
    have lvs : vs.length = i := by rw [hvs.len, List.length_map, D.len]
    refine rd_append ho14 (by omega) ?_
    generalize eH : upd H14 o (.lst (vs ++ [.ref t])) = H15
    have T15 : Tame H14 H15 := by rw [← eH]; exact Tame.upd ho14
    have ho15 : H15 o = some (.lst (vs ++ [.ref t])) := by rw [← eH]; exact upd_same
    have hl15 : ∃ s, H15 l = some (.lst [.int s]) := by
      obtain ⟨s, hs⟩ := T14.st
      exact ⟨s, by rw [← eH, upd_ne (Ne.symm hne)]; exact hs⟩
    walk_at "rd"
    refine nx hl15 (by decide) fun r4 H16 a16 b16 S16 => ?_
    walk_at "rd"
    refine nx S16.st (by decide) fun r5 H17 a17 b17 S17 => ?_
    walk_at "rd"
    refine new_lst fun d H18 hd E18 h18 => ?_
    walk_at "rd"
    refine nx (by walk_at "sta") (by decide) fun r6 H19 a19 b19 S19 => ?_
    walk_at "rd"
    have h19 : H19 d = _ := S19.fr d _ (ne_st S17.st hd) h18
    refine rd_ixLm (.of h19) (by omega) (by simp; omega) fun v hv => ?_
    obtain ⟨up, rfl, up0, up1⟩ : ∃ z : Int, v = .int z ∧ 0 ≤ z ∧ z ≤ 19999 := by
      simp only [List.mem_cons, List.not_mem_nil, or_false] at hv
      rcases hv with rfl | rfl
      · exact ⟨_, rfl, by omega, by omega⟩
      · exact ⟨_, rfl, by omega, by omega⟩
    clear hv
    walk_at "rd"
    have T19 : St1 l H15 H19 := (((S16.trans S17).trans (.ex S17.st E18)).trans S19)
    have hrow : Tv K H15 (.ref t) (rowT ⟨st, pl, pc⟩) := .tup (SqT.of (by rw [← eH, upd_ne (by rintro rfl; rw [h14] at ho14; cases ho14)]; exact h14)) (.cons (.int _) (.cons (.int _) (.cons (.int _) .nil)))
    refine ⟨rows ++ [⟨st, pl, pc⟩], _, _, _, rfl, ⟨⟨_, T19.fr o _ hne ho15, ?_⟩, by rw [List.length_append, D.len]; rfl, ?_, riseR_snoc _ _ D.rise D.low, ?_, by have := D.s0; omega, by have := D.s1; omega⟩, ?_⟩
    · rw [List.map_append]
      exact T19.tame.tvA ((T15.tvA (T14.tame.tvA hvs)).append (.one hrow))
    · intro r hr
      rcases List.mem_append.mp hr with hr | hr
      · exact D.good r hr
      · cases List.mem_singleton.mp hr
        have := D.s0
        have := D.s1
        exact ⟨by show -1000000000 ≤ st; omega, by show st ≤ 1000000000; omega, p0, p1, pc0, pc1⟩
    · intro r hr
      rcases List.mem_append.mp hr with hr | hr
      · have := D.low r hr
        omega
      · cases List.mem_singleton.mp hr
        show st < _
        omega
    · have T : St1 l H H15 := by
        rw [← eH]
        exact (S9.trans T14).upd (S.free ho) ho14 hne
      exact T.trans T19
  · rintro σ H9 ⟨rows, st, y, w, rfl, D, S9⟩
    obtain ⟨vs, ho9, hvs⟩ := D.at_
    walk_at "rd"
    refine rd_tupOfL (.of ho9) fun t H10 ht E10 h10 => ?_
    refine q _ rows _ ⟨by have := D.len; omega, D.good, D.rise⟩ (.tup (SqT.of h10) ((Tame.ex E10).tvA hvs)) (S9.trans (.ex S9.st E10))
end
end K1
open PySem PySem.Spec PyProof.Rows L2 Qa


namespace K1
section
variable {P : Program} {w : World} {K : PySem.W.Frag} {mg : Str → Option Value} {base : Heap} {H : Hp} {Q : VK} {E : XK}
/-! spoilt tables -/
def spSpoilt (K : PySem.W.Frag) : Sp := sp2 fun a b H Q => ∃ rows c, Tv K H a (.tup (rows.map rowT)) ∧ b = .int c ∧ 0 ≤ c ∧ GoodTab rows ∧ ∀ v t H', Tv K H' v t → isTable t = false → Ex H H' → Q v H'
theorem notTab_row (a b : List T) (t : T) (h : isRow t = false) : isTable (.tup (a ++ [t] ++ b)) = false := by
  rw [isTable_tup]
  have e : (a ++ [t] ++ b).all isRow = false := by
    rw [List.all_append, List.all_append]
    simp [h]
  rw [e, Bool.false_and, Bool.and_false]
theorem rise_two : ∀ (a b : List T) (x y : T), ¬ startOf x < startOf y → rise (a ++ x :: y :: b) = false
  | [], b, x, y, h => by
    show (decide (startOf x < startOf y) && rise (y :: b)) = false
    rw [decide_eq_false h, Bool.false_and]
  | [z], b, x, y, h => by
    show (decide (startOf z < startOf x) && rise ([] ++ x :: y :: b)) = false
    rw [rise_two [] b x y h, Bool.and_false]
  | z :: w :: r, b, x, y, h => by
    show (decide (startOf z < startOf w) && rise ((w :: r) ++ x :: y :: b)) = false
    rw [rise_two (w :: r) b x y h, Bool.and_false]
theorem notTab_two (a b : List T) (x y : T) (h : ¬ startOf x < startOf y) : isTable (.tup (a ++ [x, y] ++ b)) = false := by
  rw [isTable_tup]
  have e : rise (a ++ [x, y] ++ b) = false := by
    have := rise_two a b x y h
    rw [List.append_assoc]
    exact this
  rw [e, Bool.and_false, Bool.and_false]
theorem notTab_long (ts : List T) (h : 20 < ts.length) : isTable (.tup ts) = false := by
  rw [isTable_tup, decide_eq_false (show ¬ ts.length ≤ 20 by omega), Bool.and_false, Bool.false_and]
theorem ret3 {K : PySem.W.Frag} {σ : L2.St} {H : Hp} {Q : VK} {mid : TE} {p : Addr} {n : Nat} {xs : List V} {G : List V → Hp → Prop} (h0 : σ[0]? = some (some (.ref p))) (h2 : σ[2]? = some (some (.int (n : Int)))) (hs : SqT K H p xs) (hx : xs.length ≤ 900)
    (hm : ∀ (H1 : Hp) (R : VK), Ex H H1 → (∀ m ys H2, Ex H1 H2 → SqT K H2 m ys → ys.length ≤ 10 → G ys H2 → R (.ref m) H2) → mid σ H1 R)
    (q : ∀ ys H2 p' H', G ys H2 → Ex H H2 → Ex H2 H' → SqT K H' p' (xs.take n ++ ys ++ xs.drop (n + 1)) → Q (.ref p') H') :
    tOp (rAddA K) (tOp (rAddA K) (tSl (rSlX K) (tVar 0) tNoPart (tPart (tVar 2))) mid) (tSl (rSlX K) (tVar 0) (tPart (tOp (rAddA K) (tVar 2) (tC (.int 1)))) tNoPart) σ H Q := by
  refine rd_op (rd_op (rd_sl (rd_var h0 (rd_nopart (rd_part (rd_var h2 (rd_partI (rd_slT hs fun p5 H5 E5 s5 => ?_))))))))
  rw [cutV_to] at s5
  refine hm H5 _ E5 fun m ys H6 E6 s6 ly g6 => ?_
  have hs6 : SqT K H6 p xs := sqt_ex (sqt_ex hs E5) E6
  refine rd_addT (sqt_ex s5 E6) s6 (by rw [List.length_take]; omega) fun p7 H7 E7 s7 => ?_
  refine rd_sl (rd_var h0 (rd_part (rd_op (rd_var h2 (rd_c (rd_addI (rd_partI (rd_nopart (rd_slT (sqt_ex hs6 E7) fun p8 H8 E8 s8 => ?_)))))))))
  have e8 : ((n : Int) + 1) = ((n + 1 : Nat) : Int) := by omega
  rw [e8, cutV_from] at s8
  refine rd_addT (sqt_ex s7 E8) s8 (by rw [List.length_append, List.length_take, List.length_drop]; omega) fun p9 H9 E9 s9 => ?_
  exact q ys H6 p9 H9 g6 (Evl.Ex.trans E5 E6) (Evl.Ex.trans (Evl.Ex.trans E7 E8) E9) s9
theorem k__law_spoilt (T : Tx K mg) : Cal P w K mg base "_law_spoilt" 1 p_law_spoilt (spSpoilt K) := by
  refine cal2 T.F__law_spoilt sc_law_spoilt b_law_spoilt rfl fun g cdv A outer s H a b Q E hr h => ?_
  obtain ⟨rows, c, ht, rfl, hc, G, q⟩ := h
  refine ⟨_, (pss_cons (ps_set (i := 2) (sc_law_spoilt).nd rfl (by first | exact Or.inl rfl | exact Or.inr rfl) (pe_op op_mod (pe_op op_fdiv (pv 1) pe_int) (pe_callB cr_lenA (by rfl) T.m_len (by decide +kernel) (pa_cons (pv 0) pa_nil)))) (pss_cons (ps_set (i := 3) (sc_law_spoilt).nd rfl (by first | exact Or.inl rfl | exact Or.inr rfl) (pe_ix ix_seq (pv 0) (pv 2) (fun _ _ => rfl))) (pss_cons (ps_set (i := 4) (sc_law_spoilt).nd rfl (by first | exact Or.inl rfl | exact Or.inr rfl) (pe_lst (pa_cons (pe_tup (pa_cons (pe_ix ix_seq (pv 3) pe_int (fun _ _ => rfl)) (pa_cons (pe_ix ix_seq (pv 3) pe_int (fun _ _ => rfl)) (pa_cons (pe_op op_addA pe_int (pe_op op_mod (pe_op op_fdiv (pv 1) pe_int) pe_int)) pa_nil)))) (pa_cons (pe_tup (pa_cons (pe_ix ix_seq (pv 3) pe_int (fun _ _ => rfl)) (pa_cons (pe_ix ix_seq (pv 3) pe_int (fun _ _ => rfl)) (pa_cons (pe_un un_neg pe_int) pa_nil)))) (pa_cons (pe_tup (pa_cons (pe_op op_addA (pe_op op_addA (pe_ix ix_seq (pv 3) pe_int (fun _ _ => rfl)) (pe_op op_mul pe_int (pe_op op_pow pe_int pe_int))) pe_int) (pa_cons (pe_ix ix_seq (pv 3) pe_int (fun _ _ => rfl)) (pa_cons pe_int pa_nil)))) pa_nil))))) (pss_cons (ps_set (i := 4) (sc_law_spoilt).nd rfl (by first | exact Or.inl rfl | exact Or.inr rfl) (pe_op op_addA (pv 4) (pe_lst (pa_cons (pe_tup (pa_cons (pe_ix ix_seq (pv 3) pe_int (fun _ _ => rfl)) (pa_cons (pe_op op_addA (pe_op op_pow pe_int pe_int) pe_int) (pa_cons (pe_ix ix_seq (pv 3) pe_int (fun _ _ => rfl)) pa_nil)))) (pa_cons (pe_tup (pa_cons (pe_ix ix_seq (pv 3) pe_int (fun _ _ => rfl)) (pa_cons (pe_ix ix_seq (pv 3) pe_int (fun _ _ => rfl)) pa_nil))) (pa_cons (pe_callTy cr_lstOf (by rfl) T.m_list (by decide +kernel) (pa_cons (pv 3) pa_nil)) (pa_cons (pe_tup (pa_cons (pe_ix ix_seq (pv 3) pe_int (fun _ _ => rfl)) (pa_cons pe_bl (pa_cons pe_int pa_nil)))) (pa_cons (pe_tup (pa_cons (pe_ix ix_seq (pv 3) pe_int (fun _ _ => rfl)) (pa_cons pe_non (pa_cons pe_int pa_nil)))) pa_nil)))))))) (pss_cons (ps_set (i := 4) (sc_law_spoilt).nd rfl (by first | exact Or.inl rfl | exact Or.inr rfl) (pe_op op_addA (pv 4) (pe_lst (pa_cons (pe_tup (pa_cons pe_str (pa_cons (pe_ix ix_seq (pv 3) pe_int (fun _ _ => rfl)) (pa_cons pe_int pa_nil)))) (pa_cons (pe_op op_addA (pv 3) (pe_tup (pa_cons pe_int pa_nil))) (pa_cons (pe_tup (pa_cons pe_bl (pa_cons (pe_ix ix_seq (pv 3) pe_int (fun _ _ => rfl)) (pa_cons pe_int pa_nil)))) (pa_cons (pe_tup (pa_cons (pe_ix ix_seq (pv 3) pe_int (fun _ _ => rfl)) (pa_cons (pe_ix ix_seq (pv 3) pe_int (fun _ _ => rfl)) (pa_cons pe_bl pa_nil)))) pa_nil))))))) (pss_cons (ps_if (pt_cmpR op_lt (pe_op op_mod (pv 1) pe_int) pe_int (nomark _)) (pss_one (ps_ret (pe_op op_addA (pe_op op_addA (pe_slice sl_any (pv 0) po_none (po_some (pv 2))) (pe_tup (pa_cons (pe_ix ix_seq (pv 4) (pe_op op_mod (pv 1) pe_int) (fun _ _ => rfl)) pa_nil))) (pe_slice sl_any (pv 0) (po_some (pe_op op_addA (pv 2) pe_int)) po_none)))) pss_nil) (pss_cons (ps_if (pt_cmpR (op_eqA hr) (pe_op op_mod (pv 1) pe_int) pe_int (nomark _)) (pss_one (ps_ret (pe_op op_addA (pe_op op_addA (pe_slice sl_any (pv 0) po_none (po_some (pv 2))) (pe_tup (pa_cons (pv 3) (pa_cons (pv 3) pa_nil)))) (pe_slice sl_any (pv 0) (po_some (pe_op op_addA (pv 2) pe_int)) po_none)))) pss_nil) (pss_cons (ps_if (pt_cmpR (op_eqA hr) (pe_op op_mod (pv 1) pe_int) pe_int (nomark _)) (pss_cons (ps_set (i := 5) (sc_law_spoilt).nd rfl (by first | exact Or.inl rfl | exact Or.inr rfl) (pe_callTy cr_tupOf (by rfl) T.m_tuple (by decide +kernel) (pa_cons (pe_lc (own := [("_law_k", 6)]) rfl (sc_law_spoilt).nd (pi_range1 (by rfl) T.m_range (pa_cons (pe_op op_addA pe_int (pe_op op_mod (pe_op op_fdiv (pv 1) pe_int) pe_int)) pa_nil)) (blkOk_by (N := n_law_spoilt) (sc := defScope s_law_spoilt) (by decide +kernel)) (fun _ _ _ _ _ => (pg_name (i := 6) (sc_law_spoilt).nd rfl (by first | exact Or.inl rfl | exact Or.inr rfl))) (fun _ _ _ _ _ => pts_nil) (fun _ _ _ _ _ => (pe_tup (pa_cons (pv 6) (pa_cons pe_int (pa_cons pe_int pa_nil)))))) pa_nil))) (pss_one (ps_ret (pe_ix ix_seq (pe_lst (pa_cons (pe_tup pa_nil) (pa_cons (pe_callTy cr_lstOf (by rfl) T.m_list (by decide +kernel) (pa_cons (pv 0) pa_nil)) (pa_cons pe_non (pa_cons (pv 5) (pa_cons pe_int (pa_cons pe_str pa_nil))))))) (pe_op op_mod (pe_op op_fdiv (pv 1) pe_int) pe_int) (fun _ _ => rfl))))) pss_nil) (pss_one (ps_ret (pe_op op_addA (pe_op op_addA (pe_slice sl_any (pv 0) po_none (po_some (pv 2))) (pe_tup (pa_cons (pe_tup (pa_cons (pe_op op_addA (pe_ix ix_seq (pv 3) pe_int (fun _ _ => rfl)) pe_int) (pa_cons (pe_ix ix_seq (pv 3) pe_int (fun _ _ => rfl)) (pa_cons pe_int pa_nil)))) (pa_cons (pv 3) pa_nil)))) (pe_slice sl_any (pv 0) (po_some (pe_op op_addA (pv 2) pe_int)) po_none)))))))))))), ?_⟩
  rw [t_law_spoilt]
  try dsimp only [cxOf, Cx.nox, Cx.wish]
  obtain ⟨p, xs, rfl, hs, ha⟩ := ht.tupE
  have el : xs.length = rows.length := by rw [ha.len, List.length_map]
  have hlen := G.len
  walk_at "rda"
  obtain ⟨n, hn, en⟩ : ∃ n : Nat, n < xs.length ∧ (n : Int) = c / 15 % (xs.length : Int) := by
    have h0 := Int.emod_nonneg (c / 15) (show (xs.length : Int) ≠ 0 by omega)
    have h1 := Int.emod_lt_of_pos (c / 15) (show 0 < (xs.length : Int) by omega)
    exact ⟨(c / 15 % (xs.length : Int)).toNat, by omega, by omega⟩
  obtain ⟨r, rp, hrow, hxr, sr⟩ := tva_rows ha (List.getElem?_eq_getElem hn)
  have gr := G.row r (List.mem_of_getElem? hrow)
  have hxn : xs[n]? = some (.ref rp) := by rw [List.getElem?_eq_getElem hn, hxr]
  rw [← en]
  have hixn : atI xs (n : Int) = some (.ref rp) := atI_nat hxn
  refine rd_ixT hs hixn ?_
  walk_at "rda"
  rename_i w4 H4 a0 E4 hw4
  simp only [List.cons_append, List.nil_append] at hw4
  have gs0 := gr.s0
  have gs1 := gr.s1
  have gp0 := gr.p0
  have gp1 := gr.p1
  have gc0 := gr.c0
  have gc1 := gr.c1
  obtain ⟨ws, hws, hL4, nrow⟩ : ∃ ws, (∃ its, H4 w4 = some (.lst its) ∧ its.length = 12 ∧ TvA K H4 its ws) ∧ ws.length = 12 ∧ ∀ t ∈ ws, isRow t = false := by
    refine ⟨_, ⟨_, hw4, rfl, by walk_at "tvm"⟩, rfl, ?_⟩
    intro t ht
    simp only [List.mem_cons, List.not_mem_nil, or_false] at ht
    rcases ht with rfl | rfl | rfl | rfl | rfl | rfl | rfl | rfl | rfl | rfl | rfl | rfl <;> simp [isRow, isNum, isPct, within]
    · omega
    · omega
  obtain ⟨its, hits, lits, tits⟩ := hws
  have EE : Ex H H4 := by walk_at "exx"
  have hs4 : SqT K H4 p xs := sqt_ex hs EE
  have ha4 : TvA K H4 xs (rows.map rowT) := tva_ex ha EE
  have sr4 : SqT K H4 rp _ := sqt_ex sr EE
  clear hw4
  refine rd_ite (fun h1 => ?_) (fun h1 => ?_)
  · refine rd_ret (ret3 (G := fun ys H' => ∃ t, isRow t = false ∧ TvA K H' ys [t]) rfl rfl hs4 (by omega) (fun H5 R E5 k => ?_) fun ys H6 p7 H7 g E6 E7 s7 => ?_)
    · walk_at "rd"
      have hits5 := lst_ex hits E5
      refine rd_ixLm (.of hits5) (by omega) (by omega) fun v hv => ?_
      obtain ⟨t, ht, tv⟩ := tits.mem hv
      walk_at "rd"
      refine new_tup fun m H6 hm E6 h6 => ?_
      exact k m [v] H6 E6 (.of h6) (by simp) ⟨t, nrow t ht, .one (tv_ex (tv_ex tv E5) E6)⟩
    · obtain ⟨t, nt, ty⟩ := g
      have ha7 := tva_ex (tva_ex ha4 E6) E7
      refine q _ _ _ (.tup s7 (((ha7.take n).append (tva_ex ty E7)).append (ha7.drop (n + 1)))) (notTab_row _ _ _ nt) (Evl.Ex.trans (Evl.Ex.trans EE E6) E7)
  walk_at "rd"
  have hrow4 : Tv K H4 (.ref rp) (rowT r) := .tup sr4 (.cons (.int _) (.cons (.int _) (.cons (.int _) .nil)))
  refine rd_ite (fun h2 => ?_) (fun h2 => ?_)
  · refine rd_ret (ret3 (G := fun ys H' => TvA K H' ys [rowT r, rowT r]) rfl rfl hs4 (by omega) (fun H5 R E5 k => ?_) fun ys H6 p7 H7 g E6 E7 s7 => ?_)
    · walk_at "rd"
      refine new_tup fun m H6 hm E6 h6 => ?_
      have h := tv_ex (tv_ex hrow4 E5) E6
      exact k m _ H6 E6 (.of h6) (by simp) (.cons h (.cons h .nil))
    · have ha7 := tva_ex (tva_ex ha4 E6) E7
      exact q _ _ _ (.tup s7 (((ha7.take n).append (tva_ex g E7)).append (ha7.drop (n + 1)))) (notTab_two _ _ _ _ (by omega)) (Evl.Ex.trans (Evl.Ex.trans EE E6) E7)
  walk_at "rd"
  refine rd_ite (fun h3 => ?_) (fun h3 => ?_)
  · walk_at "rd"
    refine lcW_R (fun D i H' => ∃ acc ts, H' D = some (.lst acc) ∧ TvA K H' acc ts ∧ ts.length = i ∧ Ex H4 H') (fun D H' hD e h => ⟨[], [], h, .nil, rfl, e⟩) ?_ ?_
    · rintro D i H5 hD hi ⟨acc, ts, hacc, tacc, lts, E5⟩
      have lacc := tacc.len
      walk_at "lcn"
      walk_at "rd"
      refine new_tup fun t H6 ht E6 h6 => ?_
      have hacc6 := lst_ex hacc E6
      refine ⟨acc, hacc6, small1000 (by omega), acc ++ [.ref t], ts ++ [.tup [.int (0 + i), .int 0, .int 5]], upd_same, ?_, by rw [List.length_append, lts]; rfl, ex_new hD (Evl.Ex.trans E5 E6)⟩
      refine (Tame.upd hacc6).tvA ((tva_ex tacc E6).append (.one (.tup (.of h6) (.cons (.int _) (.cons (.int _) (.cons (.int _) .nil))))))
    · rintro D H5 hD ⟨acc, ts, hacc, tacc, lts, E5⟩
      walk_at "rda"
      rename_i tl H6 _ E6 h6 em H7 _ E7 h7 cl H8 _ E8 h8 li H9 _ E9 h9
      refine rd_ixLm (.of h9) (by omega) (by simp; omega) fun v hv => ?_
      have EE9 : Ex H H9 := by walk_at "exx"
      simp only [List.mem_cons, List.not_mem_nil, or_false] at hv
      rcases hv with rfl | rfl | rfl | rfl | rfl | rfl
      · exact q _ (.tup []) _ (.tup (sqt_ex (sqt_ex (.of h7) E8) E9) .nil) rfl EE9
      · exact q _ .lst _ (.lst (.of (lst_ex h8 E9))) rfl EE9
      · exact q _ .non _ .non rfl EE9
      · refine q _ (.tup ts) _ ?_ (notTab_long _ (by omega)) EE9
        exact .tup (sqt_ex (sqt_ex (sqt_ex (.of h6) E7) E8) E9) (tva_ex (tva_ex (tva_ex (tva_ex tacc E6) E7) E8) E9)
      · exact q _ (.int 7) _ (.int _) rfl EE9
      · exact q _ (.str _) _ (.str _) rfl EE9
  · refine rd_next ?_
    with_reducible refine rd_ret ?_
    refine ret3 (G := fun ys H' => TvA K H' ys [.tup [.int (r.s + 40000), .int r.p, .int 5], rowT r]) rfl rfl hs4 (by omega) (fun H5 R E5 k => ?_) fun ys H6 p7 H7 g E6 E7 s7 => ?_
    · walk_at "rda"
      rename_i pa Ha _ Ea hpa pb Hb _ Eb hpb
      exact k _ _ _ (Evl.Ex.trans Ea Eb) (.of hpb) (by simp) (.cons (tv_ex (.tup (.of hpa) (.cons (.int _) (.cons (.int _) (.cons (.int _) .nil)))) Eb) (.cons (tv_ex (tv_ex (tv_ex hrow4 E5) Ea) Eb) .nil))
    · have ha7 := tva_ex (tva_ex ha4 E6) E7
      exact q _ _ _ (.tup s7 (((ha7.take n).append (tva_ex g E7)).append (ha7.drop (n + 1)))) (notTab_two _ _ _ _ (by simp [startOf, rowT]; omega)) (Evl.Ex.trans (Evl.Ex.trans EE E6) E7)
end
end K1
open PySem PySem.Spec PyProof.Rows L2 Qa


namespace K1
section
variable {P : Program} {w : World} {K : PySem.W.Frag} {mg : Str → Option Value} {base : Heap} {H : Hp} {Q : VK} {E : XK}
theorem isRow_good {r : Row} (g : GoodRow r) : isRow (rowT r) = true := by
  have := g.s0; have := g.s1; have := g.p0; have := g.p1; have := g.c0; have := g.c1
  simp [rowT, isRow, isNum, isPct, within]
  omega
theorem rise_good : ∀ (rows : List Row), riseR rows → rise (rows.map rowT) = true
  | [], _ => rfl
  | [_], _ => rfl
  | a :: b :: r, h => by
    show (decide (startOf (rowT a) < startOf (rowT b)) && rise ((b :: r).map rowT)) = true
    rw [rise_good (b :: r) h.2, Bool.and_true]
    exact decide_eq_true h.1
theorem good_table {rows : List Row} (g : GoodTab rows) : isTable (.tup (rows.map rowT)) = true := by
  rw [isTable_tup, rise_good rows g.rise]
  have e : (rows.map rowT).all isRow = true := by
    rw [List.all_eq_true]
    intro t ht
    obtain ⟨r, hr, rfl⟩ := List.mem_map.mp ht
    exact isRow_good (g.row r hr)
  have := g.len
  rw [e, List.length_map, decide_eq_true this.1, decide_eq_true this.2]
  rfl
def spLaw (K : PySem.W.Frag) : Sp := sp1 fun a H Q => ∃ (l : Addr) (ns : List Int), a = .ref l ∧ SqL K H l (ns.map V.int) ∧ ∀ H', Q (.bl true) H'
theorem k_law (T : Tx K mg) (c__law_mixed : Cal P w K mg base "_law_mixed" 1 p_law_mixed (spMixed K)) (c__law_cell_at : Cal P w K mg base "_law_cell_at" 1 p_law_cell_at (spCell K)) (c__law_table : Cal P w K mg base "_law_table" 3 p_law_table (spTable K))
    (c__law_spoilt : Cal P w K mg base "_law_spoilt" 1 p_law_spoilt (spSpoilt K)) (c_is_table : Cal P w K mg base "is_table" 5 pis_table (spTab K)) (c_at_number : Cal P w K mg base "at_number" 2 pat_number (spAt K))
    (c__law_at : Cal P w K mg base "_law_at" 1 p_law_at (spAt K)) (c__law_whole : Cal P w K mg base "_law_whole" 1 p_law_whole (spWhole K)) : Cal P w K mg base "law" 6 plaw (spLaw K) := by
  refine cal1 T.F_law sclaw blaw rfl fun g cdv A outer s H a Q E hr h => ?_
  obtain ⟨l, ns, rfl, hl, q⟩ := h
  refine ⟨_, (pss_cons (ps_set (i := 1) (sclaw).nd rfl (by first | exact Or.inl rfl | exact Or.inr rfl) (pe_lst (pa_cons (pe_cal c__law_mixed (hr.mono (by omega)) (pa_cons (pe_cal c__law_cell_at (hr.mono (by omega)) (pa_cons (pv 0) (pa_cons pe_int pa_nil))) (pa_cons pe_int pa_nil))) pa_nil))) (pss_cons (ps_set (i := 2) (sclaw).nd rfl (by first | exact Or.inl rfl | exact Or.inr rfl) (pe_cal c__law_table (hr.mono (by omega)) (pa_cons (pv 1) pa_nil))) (pss_cons (ps_set (i := 3) (sclaw).nd rfl (by first | exact Or.inl rfl | exact Or.inr rfl) (pe_cal c__law_mixed (hr.mono (by omega)) (pa_cons (pe_cal c__law_cell_at (hr.mono (by omega)) (pa_cons (pv 0) (pa_cons pe_int pa_nil))) (pa_cons pe_int pa_nil)))) (pss_cons (ps_if (pt_cmpR (op_eqA hr) (pe_op op_mod (pv 3) pe_int) pe_int (nomark _)) (pss_cons (ps_set (i := 4) (sclaw).nd rfl (by first | exact Or.inl rfl | exact Or.inr rfl) (pe_cal c__law_spoilt (hr.mono (by omega)) (pa_cons (pv 2) (pa_cons (pe_op op_fdiv (pv 3) pe_int) pa_nil)))) (pss_cons (ps_set (i := 5) (sclaw).nd rfl (by first | exact Or.inl rfl | exact Or.inr rfl) (pe_cal c_is_table (hr.mono (by omega)) (pa_cons (pv 4) pa_nil))) (pss_one (ps_ret (pe_and (pe_callB call_isi (by rfl) T.m_isinstance (by decide +kernel) (pa_cons (pv 5) (pa_cons (pe_ty (n := "bool") T.m_bool (by decide +kernel)) pa_nil))) (pe_and (pe_not (pv 5)) (pe_one (pe_cal c_is_table (hr.mono (by omega)) (pa_cons (pv 2) pa_nil))))))))) pss_nil) (pss_cons (ps_set (i := 6) (sclaw).nd rfl (by first | exact Or.inl rfl | exact Or.inr rfl) (pe_cal c_is_table (hr.mono (by omega)) (pa_cons (pv 2) pa_nil))) (pss_cons (ps_if (PW.pt (pw_or (pt_not (pt_tru (pe_callB call_isi (by rfl) T.m_isinstance (by decide +kernel) (pa_cons (pv 6) (pa_cons (pe_ty (n := "bool") T.m_bool (by decide +kernel)) pa_nil))))) (pw_or1 (pt_not (pt_tru (pv 6)))))) (pss_one (ps_ret pe_bl)) pss_nil) (pss_cons (ps_set (i := 7) (sclaw).nd rfl (by first | exact Or.inl rfl | exact Or.inr rfl) (pe_ix ix_seq (pv 2) (pe_op op_mod (pe_op op_fdiv (pv 3) pe_int) (pe_callB cr_lenA (by rfl) T.m_len (by decide +kernel) (pa_cons (pv 2) pa_nil))) (fun _ _ => rfl))) (pss_cons (ps_set (i := 8) (sclaw).nd rfl (by first | exact Or.inl rfl | exact Or.inr rfl) (pe_cal c__law_cell_at (hr.mono (by omega)) (pa_cons (pv 0) (pa_cons pe_int pa_nil)))) (pss_cons (ps_for PassesOwn.never rfl (pi_seq (pe_lst (pa_cons (pe_ix ix_seq (pv 7) pe_int (fun _ _ => rfl)) (pa_cons (pe_op op_sub (pe_ix ix_seq (pv 7) pe_int (fun _ _ => rfl)) pe_int) (pa_cons (pe_op op_addA (pe_ix ix_seq (pv 7) pe_int (fun _ _ => rfl)) pe_int) (pa_cons (pe_op op_addA (pe_ix ix_seq (pv 7) pe_int (fun _ _ => rfl)) (pe_op op_mod (pe_op op_fdiv (pv 3) pe_int) pe_int)) (pa_cons (pe_op op_mod (pv 8) (pe_op op_pow pe_int pe_int)) (pa_cons (pe_op op_sub pe_int (pe_op op_mod (pv 8) (pe_op op_pow pe_int pe_int))) pa_nil)))))))) (pg_name (i := 9) (sclaw).nd rfl (by first | exact Or.inl rfl | exact Or.inr rfl)) (pss_cons (ps_set (i := 10) (sclaw).nd rfl (by first | exact Or.inl rfl | exact Or.inr rfl) (pe_cal c_at_number (hr.mono (by omega)) (pa_cons (pv 2) (pa_cons (pv 9) pa_nil)))) (pss_one (ps_if (PW.pt (pw_or (pt_not (pt_tru (pe_cal c__law_whole (hr.mono (by omega)) (pa_cons (pv 10) pa_nil)))) (pw_or1 (pt_cmpR (op_neA hr) (pv 10) (pe_cal c__law_at (hr.mono (by omega)) (pa_cons (pv 2) (pa_cons (pv 9) pa_nil))) (nomark _))))) (pss_one (ps_ret pe_bl)) pss_nil)))) (pss_one (ps_ret pe_bl))))))))))), ?_⟩
  rw [tlaw]
  try dsimp only [cxOf, Cx.nox, Cx.wish]
  walk_at "rd"
  refine rd_sp2 ⟨l, ns, 0, rfl, rfl, hl, fun r1 => ?_⟩
  walk_at "rd"
  refine rd_sp2 ⟨_, _, rfl, rfl, fun r2 r20 r21 => ?_⟩
  walk_at "rd"
  refine new_lst fun st H1 hst E1 h1 => ?_
  walk_at "rd"
  refine rd_sp1 ⟨st, rfl, ⟨_, h1⟩, fun v rows H2 G tv S2 => ?_⟩
  walk_at "rd"
  have hl2 : SqL K H2 l (ns.map V.int) := sql_st hl hst E1 S2
  have hpc : pcts rows := fun r hr => ⟨(G.row r hr).c0, (G.row r hr).c1⟩
  refine rd_sp2 ⟨l, ns, 1, rfl, rfl, hl2, fun r3 => ?_⟩
  walk_at "rd"
  refine rd_sp2 ⟨_, _, rfl, rfl, fun r4 r40 r41 => ?_⟩
  walk_at "rd"
  refine rd_ite (fun h1 => ?_) (fun h1 => ?_)
  · walk_at "rd"
    refine rd_sp2 ⟨rows, _, tv, rfl, by omega, G, fun wv wt H3 twv nt E3 => ?_⟩
    walk_at "rd"
    refine rd_sp1 ⟨wt, twv, fun H4 E4 => ?_⟩
    rw [nt]
    walk_at "rd"
    refine rd_sp1 ⟨_, tv_ex (tv_ex tv E3) E4, fun H5 E5 => ?_⟩
    rw [good_table G]
    exact q _
  · walk_at "rd"
    refine rd_sp1 ⟨_, tv, fun H3 E3 => ?_⟩
    rw [good_table G]
    walk_at "rd"
    have tv3 := tv_ex tv E3
    have hl3 := sql_ex hl2 E3
    obtain ⟨p, xs, rfl, hs, ha⟩ := tv3.tupE
    have el : xs.length = rows.length := by rw [ha.len, List.length_map]
    have hlen := G.len
    refine rd_lenT hs ?_
    walk_at "rd"
    obtain ⟨n, hn, en⟩ : ∃ n : Nat, n < xs.length ∧ (n : Int) = r4 / 2 % (xs.length : Int) := by
      have h0 := Int.emod_nonneg (r4 / 2) (show (xs.length : Int) ≠ 0 by omega)
      have h1 := Int.emod_lt_of_pos (r4 / 2) (show 0 < (xs.length : Int) by omega)
      exact ⟨(r4 / 2 % (xs.length : Int)).toNat, by omega, by omega⟩
    obtain ⟨r, rp, hrow, hxr, sr⟩ := tva_rows ha (List.getElem?_eq_getElem hn)
    have hxn : xs[n]? = some (.ref rp) := by rw [List.getElem?_eq_getElem hn, hxr]
    rw [← en]
    refine rd_ixT hs (atI_nat hxn) ?_
    walk_at "rd"
    refine rd_sp2 ⟨l, ns, 2, rfl, rfl, hl3, fun r5 => ?_⟩
    walk_at "rda"
    rename_i pl H4 _ E4 h4
    refine forW_Lx (.of h4) (fun i σ H' => (∃ x y, σ = [some (.ref l), some (.ref st), some (.ref p), some (.int r4), none, none, some (.bl true), some (.ref rp), some (.int r5), x, y]) ∧ Ex H4 H') ?_ ?_ ?_ ?_
    · exact ⟨⟨_, _, rfl⟩, Evl.Ex.refl _⟩
    · rintro i σ H5 hi ⟨_, e⟩
      exact .of (e _ _ h4)
    · rintro i x σ H5 hx ⟨⟨x0, y0, rfl⟩, E5⟩
      obtain ⟨z, rfl⟩ : ∃ z : Int, x = .int z := by
        have hm := List.mem_of_getElem? hx
        simp only [List.mem_cons, List.not_mem_nil, or_false] at hm
        rcases hm with rfl | rfl | rfl | rfl | rfl | rfl <;> exact ⟨_, rfl⟩
      have tv5 := tv_ex (tv_ex tv3 E4) E5
      walk_at "rd"
      refine rd_sp2 ⟨rows, z, tv5, rfl, hpc, ?_⟩
      walk_at "rd"
      refine rd_sp1 ⟨_, .int _, ?_⟩
      walk_at "rd"
      refine rd_sp2 ⟨rows, z, tv5, rfl, hpc, ?_⟩
      walk_at "rd"
      refine rd_iteN (fun hc => absurd rfl hc) (fun _ => ?_)
      walk_at "rd"
      exact ⟨⟨_, _, rfl⟩, E5⟩
    · rintro σ H5 ⟨⟨x0, y0, rfl⟩, E5⟩
      walk_at "rd"
      exact q _
/-- all defs, one upon the other -/
theorem all (T : Tx K mg) : Cal P w K mg base "law" 6 plaw (spLaw K) := by
  have a1 := k_is_whole (P := P) (w := w) (base := base) T
  have a2 := k_is_within T a1
  have a3 := k_is_number T a2
  have a4 := k_is_percent T a2
  have a5 := k__is_row T a3 a4
  have a6 := k__starts_rise (P := P) (w := w) (base := base) T
  have a7 := k_is_table T a5 a6
  have a8 := k_at_number T (k_hundredths (P := P) (w := w) (base := base) T)
  have b1 := k__law_next (P := P) (w := w) (base := base) T
  have b2 := k__law_number T b1
  have b3 := k__law_table T b1 b2
  exact k_law T (k__law_mixed T) (k__law_cell_at T) b3 (k__law_spoilt T) a7 a8 (k__law_at T) (k__law_whole T)
end
theorem tx_mk {K : PySem.W.Frag} {mg : Str → Option Value} {h : Heap} (X : K.In h) (G : h.Ns mainGlobals mg) {f0 f1 f2 f3 f4 f5 f6 f7 f8 f9 f10 f11 f12 f13 f14 f15 f16 f17 : Addr} {od0 an0 od1 an1 od2 an2 od3 an3 od4 an4 od5 an5 od6 an6 od7 an7 od8 an8 od9 an9 od10 an10 od11 an11 od12 an12 od13 an13 od14 an14 od15 an15 od16 an16 od17 an17 : Option Addr} {sl0 sl1 sl2 sl3 sl4 sl5 sl6 sl7 sl8 sl9 sl10 sl11 sl12 sl13 sl14 sl15 sl16 sl17 : Array (Option Value)} {oc0 kV0 dc0 pm0 cd0 ct0 oc1 kV1 dc1 pm1 cd1 ct1 oc2 kV2 dc2 pm2 cd2 ct2 oc3 kV3 dc3 pm3 cd3 ct3 oc4 kV4 dc4 pm4 cd4 ct4 oc5 kV5 dc5 pm5 cd5 ct5 oc6 kV6 dc6 pm6 cd6 ct6 oc7 kV7 dc7 pm7 cd7 ct7 oc8 kV8 dc8 pm8 cd8 ct8 oc9 kV9 dc9 pm9 cd9 ct9 oc10 kV10 dc10 pm10 cd10 ct10 oc11 kV11 dc11 pm11 cd11 ct11 oc12 kV12 dc12 pm12 cd12 ct12 oc13 kV13 dc13 pm13 cd13 ct13 oc14 kV14 dc14 pm14 cd14 ct14 oc15 kV15 dc15 pm15 cd15 ct15 oc16 kV16 dc16 pm16 cd16 ct16 oc17 kV17 dc17 pm17 cd17 ct17 : Value} {t0 t1 t2 t3 : Tok}
    (z0 : PySem.W.nsIn K mainGlobals "zip" = some none)
    (z1 : PySem.W.nsIn K mainGlobals "range" = some none)
    (z2 : PySem.W.nsIn K mainGlobals "tuple" = some none)
    (z3 : PySem.W.nsIn K mainGlobals "isinstance" = some none)
    (z4 : PySem.W.nsIn K mainGlobals "int" = some none)
    (z5 : PySem.W.nsIn K mainGlobals "len" = some none)
    (z6 : PySem.W.nsIn K mainGlobals "bool" = some none)
    (z7 : PySem.W.nsIn K mainGlobals "list" = some none)
    (w0 : PySem.W.nsIn K mainGlobals "FARTHEST" = some (some (.int 1000000000 t0)))
    (w1 : PySem.W.nsIn K mainGlobals "FULL_PERCENT" = some (some (.int 100 t1)))
    (w2 : PySem.W.nsIn K mainGlobals "MOST_ROWS" = some (some (.int 20 t2)))
    (w3 : PySem.W.nsIn K mainGlobals "ROW_PARTS" = some (some (.int 3 t3)))
    (a0 : PySem.W.nsIn K mainGlobals "is_whole" = some (some (.ref f0))) (l0 : K.lookup f0 = some ⟨oc0, od0, .func (PySem.W.fnOf "is_whole" "is_whole" (defArgs sis_whole) (defBody sis_whole) (defScope sis_whole) .none kV0 dc0 pm0 an0 cd0 ct0), sl0⟩) (c0 : PySem.W.codeIn K cd0 "is_whole" = true) (k0 : PySem.W.keepIn K (.ref f0) = true)
    (a1 : PySem.W.nsIn K mainGlobals "is_within" = some (some (.ref f1))) (l1 : K.lookup f1 = some ⟨oc1, od1, .func (PySem.W.fnOf "is_within" "is_within" (defArgs sis_within) (defBody sis_within) (defScope sis_within) .none kV1 dc1 pm1 an1 cd1 ct1), sl1⟩) (c1 : PySem.W.codeIn K cd1 "is_within" = true) (k1 : PySem.W.keepIn K (.ref f1) = true)
    (a2 : PySem.W.nsIn K mainGlobals "is_number" = some (some (.ref f2))) (l2 : K.lookup f2 = some ⟨oc2, od2, .func (PySem.W.fnOf "is_number" "is_number" (defArgs sis_number) (defBody sis_number) (defScope sis_number) .none kV2 dc2 pm2 an2 cd2 ct2), sl2⟩) (c2 : PySem.W.codeIn K cd2 "is_number" = true) (k2 : PySem.W.keepIn K (.ref f2) = true)
    (a3 : PySem.W.nsIn K mainGlobals "is_percent" = some (some (.ref f3))) (l3 : K.lookup f3 = some ⟨oc3, od3, .func (PySem.W.fnOf "is_percent" "is_percent" (defArgs sis_percent) (defBody sis_percent) (defScope sis_percent) .none kV3 dc3 pm3 an3 cd3 ct3), sl3⟩) (c3 : PySem.W.codeIn K cd3 "is_percent" = true) (k3 : PySem.W.keepIn K (.ref f3) = true)
    (a4 : PySem.W.nsIn K mainGlobals "hundredths" = some (some (.ref f4))) (l4 : K.lookup f4 = some ⟨oc4, od4, .func (PySem.W.fnOf "hundredths" "hundredths" (defArgs shundredths) (defBody shundredths) (defScope shundredths) .none kV4 dc4 pm4 an4 cd4 ct4), sl4⟩) (c4 : PySem.W.codeIn K cd4 "hundredths" = true) (k4 : PySem.W.keepIn K (.ref f4) = true)
    (a5 : PySem.W.nsIn K mainGlobals "is_table" = some (some (.ref f5))) (l5 : K.lookup f5 = some ⟨oc5, od5, .func (PySem.W.fnOf "is_table" "is_table" (defArgs sis_table) (defBody sis_table) (defScope sis_table) .none kV5 dc5 pm5 an5 cd5 ct5), sl5⟩) (c5 : PySem.W.codeIn K cd5 "is_table" = true) (k5 : PySem.W.keepIn K (.ref f5) = true)
    (a6 : PySem.W.nsIn K mainGlobals "at_number" = some (some (.ref f6))) (l6 : K.lookup f6 = some ⟨oc6, od6, .func (PySem.W.fnOf "at_number" "at_number" (defArgs sat_number) (defBody sat_number) (defScope sat_number) .none kV6 dc6 pm6 an6 cd6 ct6), sl6⟩) (c6 : PySem.W.codeIn K cd6 "at_number" = true) (k6 : PySem.W.keepIn K (.ref f6) = true)
    (a7 : PySem.W.nsIn K mainGlobals "_is_row" = some (some (.ref f7))) (l7 : K.lookup f7 = some ⟨oc7, od7, .func (PySem.W.fnOf "_is_row" "_is_row" (defArgs s_is_row) (defBody s_is_row) (defScope s_is_row) .none kV7 dc7 pm7 an7 cd7 ct7), sl7⟩) (c7 : PySem.W.codeIn K cd7 "_is_row" = true) (k7 : PySem.W.keepIn K (.ref f7) = true)
    (a8 : PySem.W.nsIn K mainGlobals "_starts_rise" = some (some (.ref f8))) (l8 : K.lookup f8 = some ⟨oc8, od8, .func (PySem.W.fnOf "_starts_rise" "_starts_rise" (defArgs s_starts_rise) (defBody s_starts_rise) (defScope s_starts_rise) .none kV8 dc8 pm8 an8 cd8 ct8), sl8⟩) (c8 : PySem.W.codeIn K cd8 "_starts_rise" = true) (k8 : PySem.W.keepIn K (.ref f8) = true)
    (a9 : PySem.W.nsIn K mainGlobals "_law_cell_at" = some (some (.ref f9))) (l9 : K.lookup f9 = some ⟨oc9, od9, .func (PySem.W.fnOf "_law_cell_at" "_law_cell_at" (defArgs s_law_cell_at) (defBody s_law_cell_at) (defScope s_law_cell_at) .none kV9 dc9 pm9 an9 cd9 ct9), sl9⟩) (c9 : PySem.W.codeIn K cd9 "_law_cell_at" = true) (k9 : PySem.W.keepIn K (.ref f9) = true)
    (a10 : PySem.W.nsIn K mainGlobals "_law_mixed" = some (some (.ref f10))) (l10 : K.lookup f10 = some ⟨oc10, od10, .func (PySem.W.fnOf "_law_mixed" "_law_mixed" (defArgs s_law_mixed) (defBody s_law_mixed) (defScope s_law_mixed) .none kV10 dc10 pm10 an10 cd10 ct10), sl10⟩) (c10 : PySem.W.codeIn K cd10 "_law_mixed" = true) (k10 : PySem.W.keepIn K (.ref f10) = true)
    (a11 : PySem.W.nsIn K mainGlobals "_law_next" = some (some (.ref f11))) (l11 : K.lookup f11 = some ⟨oc11, od11, .func (PySem.W.fnOf "_law_next" "_law_next" (defArgs s_law_next) (defBody s_law_next) (defScope s_law_next) .none kV11 dc11 pm11 an11 cd11 ct11), sl11⟩) (c11 : PySem.W.codeIn K cd11 "_law_next" = true) (k11 : PySem.W.keepIn K (.ref f11) = true)
    (a12 : PySem.W.nsIn K mainGlobals "_law_whole" = some (some (.ref f12))) (l12 : K.lookup f12 = some ⟨oc12, od12, .func (PySem.W.fnOf "_law_whole" "_law_whole" (defArgs s_law_whole) (defBody s_law_whole) (defScope s_law_whole) .none kV12 dc12 pm12 an12 cd12 ct12), sl12⟩) (c12 : PySem.W.codeIn K cd12 "_law_whole" = true) (k12 : PySem.W.keepIn K (.ref f12) = true)
    (a13 : PySem.W.nsIn K mainGlobals "_law_number" = some (some (.ref f13))) (l13 : K.lookup f13 = some ⟨oc13, od13, .func (PySem.W.fnOf "_law_number" "_law_number" (defArgs s_law_number) (defBody s_law_number) (defScope s_law_number) .none kV13 dc13 pm13 an13 cd13 ct13), sl13⟩) (c13 : PySem.W.codeIn K cd13 "_law_number" = true) (k13 : PySem.W.keepIn K (.ref f13) = true)
    (a14 : PySem.W.nsIn K mainGlobals "_law_table" = some (some (.ref f14))) (l14 : K.lookup f14 = some ⟨oc14, od14, .func (PySem.W.fnOf "_law_table" "_law_table" (defArgs s_law_table) (defBody s_law_table) (defScope s_law_table) .none kV14 dc14 pm14 an14 cd14 ct14), sl14⟩) (c14 : PySem.W.codeIn K cd14 "_law_table" = true) (k14 : PySem.W.keepIn K (.ref f14) = true)
    (a15 : PySem.W.nsIn K mainGlobals "_law_at" = some (some (.ref f15))) (l15 : K.lookup f15 = some ⟨oc15, od15, .func (PySem.W.fnOf "_law_at" "_law_at" (defArgs s_law_at) (defBody s_law_at) (defScope s_law_at) .none kV15 dc15 pm15 an15 cd15 ct15), sl15⟩) (c15 : PySem.W.codeIn K cd15 "_law_at" = true) (k15 : PySem.W.keepIn K (.ref f15) = true)
    (a16 : PySem.W.nsIn K mainGlobals "_law_spoilt" = some (some (.ref f16))) (l16 : K.lookup f16 = some ⟨oc16, od16, .func (PySem.W.fnOf "_law_spoilt" "_law_spoilt" (defArgs s_law_spoilt) (defBody s_law_spoilt) (defScope s_law_spoilt) .none kV16 dc16 pm16 an16 cd16 ct16), sl16⟩) (c16 : PySem.W.codeIn K cd16 "_law_spoilt" = true) (k16 : PySem.W.keepIn K (.ref f16) = true)
    (a17 : PySem.W.nsIn K mainGlobals "law" = some (some (.ref f17))) (l17 : K.lookup f17 = some ⟨oc17, od17, .func (PySem.W.fnOf "law" "law" (defArgs slaw) (defBody slaw) (defScope slaw) .none kV17 dc17 pm17 an17 cd17 ct17), sl17⟩) (c17 : PySem.W.codeIn K cd17 "law" = true) (k17 : PySem.W.keepIn K (.ref f17) = true) : Tx K mg :=
  ⟨PySem.W.mg_none_of X G z0,
   PySem.W.mg_none_of X G z1,
   PySem.W.mg_none_of X G z2,
   PySem.W.mg_none_of X G z3,
   PySem.W.mg_none_of X G z4,
   PySem.W.mg_none_of X G z5,
   PySem.W.mg_none_of X G z6,
   PySem.W.mg_none_of X G z7,
   ⟨_, PySem.W.mg_of X G w0⟩,
   ⟨_, PySem.W.mg_of X G w1⟩,
   ⟨_, PySem.W.mg_of X G w2⟩,
   ⟨_, PySem.W.mg_of X G w3⟩,
   ⟨_, _, fun_mk (st := sis_whole) l0 c0 k0, PySem.W.mg_of X G a0⟩,
   ⟨_, _, fun_mk (st := sis_within) l1 c1 k1, PySem.W.mg_of X G a1⟩,
   ⟨_, _, fun_mk (st := sis_number) l2 c2 k2, PySem.W.mg_of X G a2⟩,
   ⟨_, _, fun_mk (st := sis_percent) l3 c3 k3, PySem.W.mg_of X G a3⟩,
   ⟨_, _, fun_mk (st := shundredths) l4 c4 k4, PySem.W.mg_of X G a4⟩,
   ⟨_, _, fun_mk (st := sis_table) l5 c5 k5, PySem.W.mg_of X G a5⟩,
   ⟨_, _, fun_mk (st := sat_number) l6 c6 k6, PySem.W.mg_of X G a6⟩,
   ⟨_, _, fun_mk (st := s_is_row) l7 c7 k7, PySem.W.mg_of X G a7⟩,
   ⟨_, _, fun_mk (st := s_starts_rise) l8 c8 k8, PySem.W.mg_of X G a8⟩,
   ⟨_, _, fun_mk (st := s_law_cell_at) l9 c9 k9, PySem.W.mg_of X G a9⟩,
   ⟨_, _, fun_mk (st := s_law_mixed) l10 c10 k10, PySem.W.mg_of X G a10⟩,
   ⟨_, _, fun_mk (st := s_law_next) l11 c11 k11, PySem.W.mg_of X G a11⟩,
   ⟨_, _, fun_mk (st := s_law_whole) l12 c12 k12, PySem.W.mg_of X G a12⟩,
   ⟨_, _, fun_mk (st := s_law_number) l13 c13 k13, PySem.W.mg_of X G a13⟩,
   ⟨_, _, fun_mk (st := s_law_table) l14 c14 k14, PySem.W.mg_of X G a14⟩,
   ⟨_, _, fun_mk (st := s_law_at) l15 c15 k15, PySem.W.mg_of X G a15⟩,
   ⟨_, _, fun_mk (st := s_law_spoilt) l16 c16 k16, PySem.W.mg_of X G a16⟩,
   ⟨_, _, fun_mk (st := slaw) l17 c17 k17, PySem.W.mg_of X G a17⟩⟩

theorem fin {P : Program} {w : World} {K : PySem.W.Frag} {mg : Str → Option Value} {fa : Addr} (hfa : mg "law" = some (.ref fa)) (T : Tx K mg) :
    ∃ fd : FuncData, (∀ (s : Shared) (v : Value), BindsTo s fd ⟨[v], []⟩ [("_law_script", v)]) ∧ ∀ base : Heap, K.In base → base.Ns mainGlobals mg → FnOk P w K mg base CX0 6 fa fd ["_law_script"] (spLaw K) := by
  obtain ⟨fd, b, f⟩ := law_fd (P := P) (w := w) (good := fun _ => True) T.F_law blaw hfa fun base _ => all T
  exact ⟨fd, b, fun base _ _ => f base trivial⟩
end K1
open PySem PySem.W PyProof.Rows
set_option maxHeartbeats 0 in
theorem PySem.Challenge.cw_formlines_k01_tables_holds : PySem.Challenge.rw_formlines_k01_tables.Holds := by
  w_on; o_law; k_head; (case hw => w_witness2)
  k_fill
  refine L2.walk_of (l := PySem.Challenge.rw_formlines_k01_tables) (n := 63) (k := 6) (x := "_law_script") (CX := fun _ => L2.CX0) (sp := fun w => K1.spLaw _) rfl (by decide) rfl ⟨rfl, by decide, by decide⟩ (fun w h Y => PySem.W.kIn_of Y) ?F (fun _ _ a ns hl _ hS => ⟨_, rfl, a, ns, rfl, hS, fun _ => rfl⟩) (fun _ _ _ _ _ h => h)
  case F =>
    intro w mg fa h KX G hmg
    refine' K1.fin hmg (K1.tx_mk KX G ?z0 ?z1 ?z2 ?z3 ?z4 ?z5 ?z6 ?z7 ?w0 ?w1 ?w2 ?w3 ?a0 ?l0 ?c0 ?k0 ?a1 ?l1 ?c1 ?k1 ?a2 ?l2 ?c2 ?k2 ?a3 ?l3 ?c3 ?k3 ?a4 ?l4 ?c4 ?k4 ?a5 ?l5 ?c5 ?k5 ?a6 ?l6 ?c6 ?k6 ?a7 ?l7 ?c7 ?k7 ?a8 ?l8 ?c8 ?k8 ?a9 ?l9 ?c9 ?k9 ?a10 ?l10 ?c10 ?k10 ?a11 ?l11 ?c11 ?k11 ?a12 ?l12 ?c12 ?k12 ?a13 ?l13 ?c13 ?k13 ?a14 ?l14 ?c14 ?k14 ?a15 ?l15 ?c15 ?k15 ?a16 ?l16 ?c16 ?k16 ?a17 ?l17 ?c17 ?k17)
    (case z0 => k_is)
    (case z1 => k_is)
    (case z2 => k_is)
    (case z3 => k_is)
    (case z4 => k_is)
    (case z5 => k_is)
    (case z6 => k_is)
    (case z7 => k_is)
    (case w0 => k_is)
    (case w1 => k_is)
    (case w2 => k_is)
    (case w3 => k_is)
    (case a0 => k_is)
    (case l0 => k_is)
    (case c0 => k_is)
    (case k0 => k_is)
    (case a1 => k_is)
    (case l1 => k_is)
    (case c1 => k_is)
    (case k1 => k_is)
    (case a2 => k_is)
    (case l2 => k_is)
    (case c2 => k_is)
    (case k2 => k_is)
    (case a3 => k_is)
    (case l3 => k_is)
    (case c3 => k_is)
    (case k3 => k_is)
    (case a4 => k_is)
    (case l4 => k_is)
    (case c4 => k_is)
    (case k4 => k_is)
    (case a5 => k_is)
    (case l5 => k_is)
    (case c5 => k_is)
    (case k5 => k_is)
    (case a6 => k_is)
    (case l6 => k_is)
    (case c6 => k_is)
    (case k6 => k_is)
    (case a7 => k_is)
    (case l7 => k_is)
    (case c7 => k_is)
    (case k7 => k_is)
    (case a8 => k_is)
    (case l8 => k_is)
    (case c8 => k_is)
    (case k8 => k_is)
    (case a9 => k_is)
    (case l9 => k_is)
    (case c9 => k_is)
    (case k9 => k_is)
    (case a10 => k_is)
    (case l10 => k_is)
    (case c10 => k_is)
    (case k10 => k_is)
    (case a11 => k_is)
    (case l11 => k_is)
    (case c11 => k_is)
    (case k11 => k_is)
    (case a12 => k_is)
    (case l12 => k_is)
    (case c12 => k_is)
    (case k12 => k_is)
    (case a13 => k_is)
    (case l13 => k_is)
    (case c13 => k_is)
    (case k13 => k_is)
    (case a14 => k_is)
    (case l14 => k_is)
    (case c14 => k_is)
    (case k14 => k_is)
    (case a15 => k_is)
    (case l15 => k_is)
    (case c15 => k_is)
    (case k15 => k_is)
    (case a16 => k_is)
    (case l16 => k_is)
    (case c16 => k_is)
    (case k16 => k_is)
    (case a17 => k_is)
    (case l17 => k_is)
    (case c17 => k_is)
    (case k17 => k_is)

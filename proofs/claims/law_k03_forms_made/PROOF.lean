import PyProof.Rows.All
import Wide.All
import OpenK.AllK
import Wide.FinOn
import HandS.ForMost
import HandS.Evl
import HandS.IsInst
import HandS.Walk
import HandS.Zip
import HandS.TupAny
import HandS.More
import HandS.Set
import HandS.SetFor
import HandS.SetKeys
import HandS.SortInts
import PyProof.Rows.SortShellAny
import HandS.Conv
import HandS.RevRange
import PyProof.Walk
import PyProof.WalkLemmas
import PyProof.MeetsSeq
import PyProof.SeqWrite
import PyProof.P3Eq
import HandS.Rev
import HandS.RevTup
import PyProof.ListRange
import PyProof.ListNew
import HandS.Exc
import HandS.ExcOwn
import HandS.WordsExc
import HandS.TryMany
import HandS.TryOnly
import HandS.ExcIs
import HandS.HotCalls
import KE.RegKIsAll
import PySem.Challenge.RW_formlines_k03_forms_made
set_option Elab.async false
set_option linter.all false
set_option maxRecDepth 100000
set_option maxHeartbeats 40000000
namespace Qa
open PySem PySem.Spec PyProof.Rows L2

/-- a def that can be called by its name -/
def Cal (P : Program) (w : World) (K : PySem.W.Frag) (mg : Str → Option Value) (base : Heap) (x : Str) (k : Nat) (ps : List Str) (sp : Sp) : Prop :=
  ∃ f fd, FnOk P w K mg base CX0 k f fd ps sp ∧ mg x = some (.ref f) ∧ PySem.W.keepIn K (.ref f) = true ∧ Binds K fd ps [] ∧ ∃ oc od osl, K.lookup f = some ⟨oc, od, .func fd, osl⟩
def tCal (sp : Sp) (t : TA) : TE := fun σ H Q => t σ H fun vs H1 => sp vs H1 Q E0
theorem pe_cal {X : Cx} {x : Str} {k : Nat} {ps : List Str} {sp : Sp} {e : Expr} {es : List Expr} {t : TA} {p pos : Pos} (c : Cal X.prog X.w X.K X.mg X.base x k ps sp) (hr : Room k X.A) (ha : PA X (e :: es) t) (hg : Gl X x := by rfl)
    (hdb : (x == ("__debug__" : Str)) = false := by decide) (he : starEach (e :: es) X.env = (false, eval e X.env) :: starEach es X.env := by rfl) (hpl : (backTo pos (starEach es X.env)).any (·.1) = false := by rfl) :
    PE X (.Call (.Name x p) (e :: es) [] pos) (tCal sp t) := by
  obtain ⟨f, fd, F, hm, hk, hb, _⟩ := c
  have h := pe_call (p := p) (pos := pos) F hr hg hm hk hb Paired.nil (pass0 (X := X)) ha hdb he hpl
  have e : tCall sp [] E0 t = tCal sp t := by
    funext σ H Q
    show (t σ H fun vs H1 => sp (vs ++ []) H1 Q E0) = t σ H fun vs H1 => sp vs H1 Q E0
    congr 1
    funext vs H1
    rw [List.append_nil]
  rw [e] at h
  exact h
theorem pe_cal0 {X : Cx} {x : Str} {k : Nat} {ps : List Str} {sp : Sp} {p pos : Pos} (c : Cal X.prog X.w X.K X.mg X.base x k ps sp) (hr : Room k X.A) (hg : Gl X x := by rfl)
    (hdb : (x == ("__debug__" : Str)) = false := by decide) : PE X (.Call (.Name x p) [] [] pos) (tCal sp tNil) := by
  obtain ⟨f, fd, F, hm, hk, hb, _⟩ := c
  exact pe_call0 (p := p) (pos := pos) F hr hg hm hk hb Paired.nil (pass0 (X := X)) hdb

/-! promises by the number of arguments -/
def sp1 (f : V → Hp → VK → Prop) : Sp := fun vs H Q _ => ∃ a, vs = [a] ∧ f a H Q
def sp2 (f : V → V → Hp → VK → Prop) : Sp := fun vs H Q _ => ∃ a b, vs = [a, b] ∧ f a b H Q
def sp3 (f : V → V → V → Hp → VK → Prop) : Sp := fun vs H Q _ => ∃ a b c, vs = [a, b, c] ∧ f a b c H Q
def sp4 (f : V → V → V → V → Hp → VK → Prop) : Sp := fun vs H Q _ => ∃ a b c d, vs = [a, b, c, d] ∧ f a b c d H Q
def sp5 (f : V → V → V → V → V → Hp → VK → Prop) : Sp := fun vs H Q _ => ∃ a b c d e, vs = [a, b, c, d, e] ∧ f a b c d e H Q
theorem rd_sp1 {f : V → Hp → VK → Prop} {a : V} {H : Hp} {Q : VK} {E : XK} (h : f a H Q) : sp1 f [a] H Q E := ⟨a, rfl, h⟩
theorem rd_sp2 {f : V → V → Hp → VK → Prop} {a b : V} {H : Hp} {Q : VK} {E : XK} (h : f a b H Q) : sp2 f [a, b] H Q E := ⟨a, b, rfl, h⟩
theorem rd_sp3 {f : V → V → V → Hp → VK → Prop} {a b c : V} {H : Hp} {Q : VK} {E : XK} (h : f a b c H Q) : sp3 f [a, b, c] H Q E := ⟨a, b, c, rfl, h⟩
theorem rd_sp4 {f : V → V → V → V → Hp → VK → Prop} {a b c d : V} {H : Hp} {Q : VK} {E : XK} (h : f a b c d H Q) : sp4 f [a, b, c, d] H Q E := ⟨a, b, c, d, rfl, h⟩
theorem rd_sp5 {f : V → V → V → V → V → Hp → VK → Prop} {a b c d e : V} {H : Hp} {Q : VK} {E : XK} (h : f a b c d e H Q) : sp5 f [a, b, c, d, e] H Q E := ⟨a, b, c, d, e, rfl, h⟩
section
variable {P : Program} {w : World} {K : PySem.W.Frag} {mg : Str → Option Value} {base : Heap} {x : Str} {st : Stmt} {N ps : List Str} {k : Nat}
def FunAt (K : PySem.W.Frag) (mg : Str → Option Value) (x : Str) (st : Stmt) : Prop := ∃ f fd, Fun K x x st f fd ∧ mg x = some (.ref f)
def BindOk (x : Str) (st : Stmt) (ps : List Str) : Prop := ∀ (kV doc pm : Value) (an : Option Addr) (cdv ct : Value) (us : List Value), us.length = ps.length → bindArgs (PySem.W.fnOf x x (defArgs st) (defBody st) (defScope st) .none kV doc pm an cdv ct) ⟨us, []⟩ = pure (ps.zip us)
theorem cal_mk {sp : Sp} (F : FunAt K mg x st) (S : FnScope N ps (defScope st)) (hb : BindOk x st ps) (len : ∀ vs H Q E, sp vs H Q E → vs.length = ps.length)
    (hbody : ∀ (f : Addr) (cdv : Value) (A : Around) (outer : List Env) (s : Shared) (H : Hp) (vs : List V) (Q : VK) (E : XK), Room k (A.deeper (envOfC x (defScope st) s.heap.objs.size f cdv)) → sp vs H Q E →
      ∃ t, PSs (cxOf CX0 P w K mg base N x (defScope st) f cdv A outer s H E).nox (defBody st) t ∧ t { nx := fun _ H' => Q .non H', rt := Q } (start N vs) H) : Cal P w K mg base x (k + 1) ps sp := by
  obtain ⟨f, fd, F, hm⟩ := F
  refine ⟨f, fd, F.ok S len (hbody f), hm, F.kp, F.binds hb, ?_⟩
  obtain ⟨oc, od, kV, doc, pm, an, cdv, ct, osl, _, l, _⟩ := F.ex
  exact ⟨oc, od, osl, l⟩
theorem cal1 {f : V → Hp → VK → Prop} (F : FunAt K mg x st) (S : FnScope N ps (defScope st)) (hb : BindOk x st ps) (hn : ps.length = 1)
    (hbody : ∀ (g : Addr) (cdv : Value) (A : Around) (outer : List Env) (s : Shared) (H : Hp) (a : V) (Q : VK) (E : XK), Room k (A.deeper (envOfC x (defScope st) s.heap.objs.size g cdv)) → f a H Q →
      ∃ t, PSs (cxOf CX0 P w K mg base N x (defScope st) g cdv A outer s H E).nox (defBody st) t ∧ t { nx := fun _ H' => Q .non H', rt := Q } (start N [a]) H) : Cal P w K mg base x (k + 1) ps (sp1 f) :=
  cal_mk F S hb (fun vs H Q E h => by obtain ⟨a, rfl, _⟩ := h; exact hn.symm) fun g cdv A outer s H vs Q E hr h => by obtain ⟨a, rfl, h⟩ := h; exact hbody g cdv A outer s H a Q E hr h
theorem cal2 {f : V → V → Hp → VK → Prop} (F : FunAt K mg x st) (S : FnScope N ps (defScope st)) (hb : BindOk x st ps) (hn : ps.length = 2)
    (hbody : ∀ (g : Addr) (cdv : Value) (A : Around) (outer : List Env) (s : Shared) (H : Hp) (a b : V) (Q : VK) (E : XK), Room k (A.deeper (envOfC x (defScope st) s.heap.objs.size g cdv)) → f a b H Q →
      ∃ t, PSs (cxOf CX0 P w K mg base N x (defScope st) g cdv A outer s H E).nox (defBody st) t ∧ t { nx := fun _ H' => Q .non H', rt := Q } (start N [a, b]) H) : Cal P w K mg base x (k + 1) ps (sp2 f) :=
  cal_mk F S hb (fun vs H Q E h => by obtain ⟨a, b, rfl, _⟩ := h; exact hn.symm) fun g cdv A outer s H vs Q E hr h => by obtain ⟨a, b, rfl, h⟩ := h; exact hbody g cdv A outer s H a b Q E hr h
theorem cal3 {f : V → V → V → Hp → VK → Prop} (F : FunAt K mg x st) (S : FnScope N ps (defScope st)) (hb : BindOk x st ps) (hn : ps.length = 3)
    (hbody : ∀ (g : Addr) (cdv : Value) (A : Around) (outer : List Env) (s : Shared) (H : Hp) (a b c : V) (Q : VK) (E : XK), Room k (A.deeper (envOfC x (defScope st) s.heap.objs.size g cdv)) → f a b c H Q →
      ∃ t, PSs (cxOf CX0 P w K mg base N x (defScope st) g cdv A outer s H E).nox (defBody st) t ∧ t { nx := fun _ H' => Q .non H', rt := Q } (start N [a, b, c]) H) : Cal P w K mg base x (k + 1) ps (sp3 f) :=
  cal_mk F S hb (fun vs H Q E h => by obtain ⟨a, b, c, rfl, _⟩ := h; exact hn.symm) fun g cdv A outer s H vs Q E hr h => by obtain ⟨a, b, c, rfl, h⟩ := h; exact hbody g cdv A outer s H a b c Q E hr h
theorem cal4 {f : V → V → V → V → Hp → VK → Prop} (F : FunAt K mg x st) (S : FnScope N ps (defScope st)) (hb : BindOk x st ps) (hn : ps.length = 4)
    (hbody : ∀ (g : Addr) (cdv : Value) (A : Around) (outer : List Env) (s : Shared) (H : Hp) (a b c d : V) (Q : VK) (E : XK), Room k (A.deeper (envOfC x (defScope st) s.heap.objs.size g cdv)) → f a b c d H Q →
      ∃ t, PSs (cxOf CX0 P w K mg base N x (defScope st) g cdv A outer s H E).nox (defBody st) t ∧ t { nx := fun _ H' => Q .non H', rt := Q } (start N [a, b, c, d]) H) : Cal P w K mg base x (k + 1) ps (sp4 f) :=
  cal_mk F S hb (fun vs H Q E h => by obtain ⟨a, b, c, d, rfl, _⟩ := h; exact hn.symm) fun g cdv A outer s H vs Q E hr h => by obtain ⟨a, b, c, d, rfl, h⟩ := h; exact hbody g cdv A outer s H a b c d Q E hr h
theorem cal5 {f : V → V → V → V → V → Hp → VK → Prop} (F : FunAt K mg x st) (S : FnScope N ps (defScope st)) (hb : BindOk x st ps) (hn : ps.length = 5)
    (hbody : ∀ (g : Addr) (cdv : Value) (A : Around) (outer : List Env) (s : Shared) (H : Hp) (a b c d e : V) (Q : VK) (E : XK), Room k (A.deeper (envOfC x (defScope st) s.heap.objs.size g cdv)) → f a b c d e H Q →
      ∃ t, PSs (cxOf CX0 P w K mg base N x (defScope st) g cdv A outer s H E).nox (defBody st) t ∧ t { nx := fun _ H' => Q .non H', rt := Q } (start N [a, b, c, d, e]) H) : Cal P w K mg base x (k + 1) ps (sp5 f) :=
  cal_mk F S hb (fun vs H Q E h => by obtain ⟨a, b, c, d, e, rfl, _⟩ := h; exact hn.symm) fun g cdv A outer s H vs Q E hr h => by obtain ⟨a, b, c, d, e, rfl, h⟩ := h; exact hbody g cdv A outer s H a b c d e Q E hr h
theorem Cal.mono {sp : Sp} {j : Nat} (c : Cal P w K mg base x k ps sp) (h : k ≤ j) : Cal P w K mg base x j ps sp := by
  obtain ⟨f, fd, F, r⟩ := c
  exact ⟨f, fd, F.mono h, r⟩
end

/-- the law's own def, for the end -/
theorem law_fd {P : Program} {w : World} {K : PySem.W.Frag} {mg : Str → Option Value} {x : Str} {st : Stmt} {p : Str} {k : Nat} {sp : Sp} {fa : Addr} {good : Heap → Prop} (F : FunAt K mg x st) (hb : BindOk x st [p]) (hfa : mg x = some (.ref fa))
    (h : ∀ base : Heap, good base → Cal P w K mg base x k [p] sp) :
    ∃ fd : FuncData, (∀ (s : Shared) (v : Value), BindsTo s fd ⟨[v], []⟩ [(p, v)]) ∧ ∀ base : Heap, good base → FnOk P w K mg base CX0 k fa fd [p] sp := by
  obtain ⟨f, fd, F, hm⟩ := F
  rw [hfa] at hm
  cases hm
  obtain ⟨oc, od, kV, doc, pm, an, cdv, ct, osl, rfl, l, _⟩ := F.ex
  refine ⟨_, fun s v => .of_eq (hb kV doc pm an cdv ct [v] rfl), fun base g => ?_⟩
  obtain ⟨f', fd', F', hm', _, _, oc', od', osl', l'⟩ := h base g
  rw [hfa] at hm'
  cases hm'
  rw [l] at l'
  cases l'
  exact F'

/-! names of the module -/
theorem pe_gint {X : Cx} {x : Str} {i : Int} {pos : Pos} (hm : ∃ t, X.mg x = some (.int i t)) (hg : Gl X x := by rfl) (hd : (x == ("__debug__" : Str)) = false := by decide) : PE X (.Name x pos) (tC (.int i)) := by
  obtain ⟨t, h⟩ := hm
  exact pe_glob hg h ⟨_, rfl⟩ hd
theorem pe_gstr {X : Cx} {x : Str} {i : Str} {pos : Pos} (hm : ∃ t, X.mg x = some (.str i t)) (hg : Gl X x := by rfl) (hd : (x == ("__debug__" : Str)) = false := by decide) : PE X (.Name x pos) (tC (.str i)) := by
  obtain ⟨t, h⟩ := hm
  exact pe_glob hg h ⟨_, rfl⟩ hd
theorem pe_ty {X : Cx} {x : Str} {n : String} {pos : Pos} (hm : X.mg x = none) (hv : bootBuiltins x = some (.type n)) (hg : Gl X x := by rfl) (hn : x ≠ "__name__" := by decide) (hd : (x == ("__debug__" : Str)) = false := by decide) : PE X (.Name x pos) (tC (.ty n)) :=
  pe_bltn hg hm hv rfl hn hd

/-! operators, all kinds -/
abbrev rAddS0 : R2 := fun x y H Q => ∃ i j, x = .str i ∧ y = .str j ∧ i.length + j.length ≤ sizeLine ∧ Q (.str (i ++ j)) H
def rAddA (K : PySem.W.Frag) : R2 := fun x y H Q => (rI0 (fun i j => .int (i + j)) x y H Q ∨ rAddS0 x y H Q) ∨ (rCatA K x y H Q ∨ rCat x y H Q)
theorem op_addA {X : Cx} : OpR X (binaryOp .Add) (rAddA X.K) := (op_add.or op_add_str).or (op_catA.or op_cat)
def rEqA (K : PySem.W.Frag) : R2 := fun x y H Q => rEq x y H Q ∨ rEqD K x y H Q
def rNeA (K : PySem.W.Frag) : R2 := fun x y H Q => rNe x y H Q ∨ rNeD K x y H Q
theorem op_eqA {X : Cx} {k : Nat} (hr : Room k X.A) : OpR X (compareOp .Eq) (rEqA X.K) := op_eq.or (op_eqD hr.units)
theorem op_neA {X : Cx} {k : Nat} (hr : Room k X.A) : OpR X (compareOp .NotEq) (rNeA X.K) := op_ne.or (op_neD hr.units)
def rLenA (K : PySem.W.Frag) : List V → Hp → VK → Prop := fun xs H Q => ∃ x n, xs = [x] ∧ LenV K x H n ∧ Q (.int n) H
theorem cr_lenA {X : Cx} : CallR X (.builtin "len") (rLenA X.K) := call_len
def rTupOf (K : PySem.W.Frag) : List V → Hp → VK → Prop := fun xs H Q => ∃ p ys, xs = [.ref p] ∧ ((SqL K H p ys ∧ ∀ l, H l = none → Q (.ref l) (upd H l (.tup ys))) ∨ (SqT K H p ys ∧ Q (.ref p) H))
theorem cr_tupOf {X : Cx} : CallR X (.type "tuple") (rTupOf X.K) := call_tuple_of
def rLstOf (K : PySem.W.Frag) : List V → Hp → VK → Prop := fun xs H Q => ∃ p ys, xs = [.ref p] ∧ (SqL K H p ys ∨ SqT K H p ys) ∧ ∀ l, H l = none → Q (.ref l) (upd H l (.lst ys))
theorem cr_lstOf {X : Cx} : CallR X (.type "list") (rLstOf X.K) := call_list_of
def rInt1 : List V → Hp → VK → Prop := fun xs H Q => (∃ i, xs = [.int i] ∧ Q (.int i) H) ∨ ∃ k, xs = [.bl k] ∧ Q (.int (if k then 1 else 0)) H
theorem cr_int1 {X : Cx} : CallR X (.type "int") rInt1 := call_int1
def rMin2 : List V → Hp → VK → Prop := fun xs H Q => ∃ i j, xs = [.int i, .int j] ∧ Q (.int (if j < i then j else i)) H
theorem cr_min2 {X : Cx} (hc : X.calm = true) : CallR X (.builtin "min") rMin2 := call_min2 hc
def rMax2 : List V → Hp → VK → Prop := fun xs H Q => ∃ i j, xs = [.int i, .int j] ∧ Q (.int (if j > i then j else i)) H
theorem cr_max2 {X : Cx} (hc : X.calm = true) : CallR X (.builtin "max") rMax2 := call_max2 hc

/-! walked things, all kinds -/
theorem pi_or {X : Cx} {tg e : Expr} {a b : TI} (h : PI X tg e a) (h' : PI X tg e b) : PI X tg e (fun σ H R => a σ H R ∨ b σ H R) :=
  ⟨fun pins s σ H R I hw => hw.elim (fun z => h.run pins s σ H R I z) fun z => h'.run pins s σ H R I z⟩
def iSeq (K : PySem.W.Frag) (t : TE) : TI := fun σ H R => t σ H fun x H1 => ((∃ a, x = .ref a ∧ (∃ xs, SqL K H1 a xs) ∧ R (Itl K a) H1) ∨ (∃ a, x = .ref a ∧ (∃ xs, SqT K H1 a xs) ∧ R (Itt K a) H1)) ∨ ∃ z, x = .str z ∧ R (Its z) H1
theorem pi_seq {X : Cx} {tg e : Expr} {te : TE} (he : PE X e te) : PI X tg e (iSeq X.K te) := by
  refine ⟨fun pins s σ H R I h => ?_⟩
  refine thn (he.run pins s σ H _ I h) fun v s1 ⟨x, H1, I1, r1, q1⟩ => ?_
  rcases q1 with (q | q) | q
  · obtain ⟨a, e, ⟨xs, hq⟩, q⟩ := q
    subst e
    cases r1
    obtain ⟨its, rv, p, hz⟩ := I1.list hq
    refine wpAny_pyIter_list p.isList ?_
    refine ⟨s1.heap.objs.size, [s1.heap.objs.size], _, _, H1, rfl, I1.kept (t' := s1.toks) fun b o e => Heap.get?_push_of_some _ e, turn_list a _, ⟨_, Heap.get?_push_size _ rfl, rfl, rfl⟩, fun b hb => ?_, q⟩
    have e : b = s1.heap.objs.size := by simpa using hb
    subst e
    exact I1.fpOk (Nat.le_refl _) (I1.hok.fresh (Nat.le_refl _))
  · obtain ⟨a, e, ⟨xs, hq⟩, q⟩ := q
    subst e
    cases r1
    obtain ⟨its, rv, p, hz⟩ := I1.tuple hq
    refine wpAny_pyIter_tuple (show s1.heap.IsTuple a its.toArray from p) ?_
    refine ⟨s1.heap.objs.size, [s1.heap.objs.size], _, _, H1, rfl, I1.kept (t' := s1.toks) fun b o e => Heap.get?_push_of_some _ e, turn_tuple a _, ⟨_, Heap.get?_push_size _ rfl, rfl, rfl⟩, fun b hb => ?_, q⟩
    have e : b = s1.heap.objs.size := by simpa using hb
    subst e
    exact I1.fpOk (Nat.le_refl _) (I1.hok.fresh (Nat.le_refl _))
  · obtain ⟨z, e, q⟩ := q
    subst e
    obtain ⟨t, rfl⟩ := r1
    cases ha : z.cps.all (· < 128)
    · exact wpAny_pyIter_wide ha (pi_one (tk := s1.toks) I1 _ (turn_str _ z t "str_iterator" (.inr rfl)) ⟨_, Heap.get?_push_size _ rfl, rfl, rfl⟩ q)
    · exact wpAny_pyIter_ascii ha (pi_one (tk := s1.toks) I1 _ (turn_str _ z t "str_ascii_iterator" (.inl rfl)) ⟨_, Heap.get?_push_size _ rfl, rfl, rfl⟩ q)

/-! slices, all kinds -/
def rSlX (K : PySem.W.Frag) : V → Option Int → Option Int → Hp → VK → Prop := fun x lo hi H Q => (rSlL K x lo hi H Q ∨ rSlA K x lo hi H Q) ∨ rSlS x lo hi H Q
theorem sl_any {X : Cx} : SlR X (rSlX X.K) := (sl_list.or sl_tupA).or sl_str

/-! ### data that stays: None, truths, ints, texts, tuples; of a list only that it is one -/
inductive T where
  | non | bl (b : Bool) | int (i : Int) | str (s : Str) | tup (ts : List T) | lst
mutual
inductive Tv (K : PySem.W.Frag) (H : Hp) : V → T → Prop
  | non : Tv K H .non .non
  | bl (b : Bool) : Tv K H (.bl b) (.bl b)
  | int (i : Int) : Tv K H (.int i) (.int i)
  | str (s : Str) (h : s.length ≤ 1000) : Tv K H (.str s) (.str s)
  | tup {a : Addr} {xs : List V} {ts : List T} : SqT K H a xs → TvA K H xs ts → Tv K H (.ref a) (.tup ts)
  | lst {a : Addr} {xs : List V} : SqL K H a xs → Tv K H (.ref a) .lst
inductive TvA (K : PySem.W.Frag) (H : Hp) : List V → List T → Prop
  | nil : TvA K H [] []
  | cons {v : V} {vs : List V} {t : T} {ts : List T} : Tv K H v t → TvA K H vs ts → TvA K H (v :: vs) (t :: ts)
end
/-- tuples stay, a list stays one -/
structure Tame (H H' : Hp) : Prop where
  tup : ∀ a xs, Rd H a (.tup xs) → Rd H' a (.tup xs)
  lst : ∀ a xs, Rd H a (.lst xs) → ∃ ys, Rd H' a (.lst ys)
theorem Tame.refl (H : Hp) : Tame H H := ⟨fun _ _ h => h, fun _ xs h => ⟨xs, h⟩⟩
theorem Tame.trans {H H1 H2 : Hp} (a : Tame H H1) (b : Tame H1 H2) : Tame H H2 :=
  ⟨fun x xs h => b.tup x xs (a.tup x xs h), fun x xs h => by obtain ⟨ys, h⟩ := a.lst x xs h; exact b.lst x ys h⟩
abbrev Ex := Evl.Ex
theorem Tame.ex {H H' : Hp} (e : Ex H H') : Tame H H' := ⟨fun _ _ h => Evl.ex_rd e h, fun _ xs h => ⟨xs, Evl.ex_rd e h⟩⟩
theorem Tame.sqT {K : PySem.W.Frag} {H H' : Hp} {a : Addr} {xs : List V} (e : Tame H H') (h : SqT K H a xs) : SqT K H' a xs := h.elim (fun z => .inl (e.tup _ _ z)) .inr
theorem Tame.sqL {K : PySem.W.Frag} {H H' : Hp} {a : Addr} {xs : List V} (e : Tame H H') (h : SqL K H a xs) : ∃ ys, SqL K H' a ys :=
  h.elim (fun z => by obtain ⟨ys, q⟩ := e.lst _ _ z; exact ⟨ys, .inl q⟩) fun z => ⟨xs, .inr z⟩
theorem Tame.upd {H : Hp} {a : Addr} {xs ys : List V} (h : H a = some (.lst xs)) : Tame H (upd H a (.lst ys)) := by
  refine ⟨fun b zs q => ?_, fun b zs q => ?_⟩
  · have ne : b ≠ a := by
      rintro rfl
      rcases q with q | ⟨o, q⟩
      · rw [h] at q; cases q
      · rw [h] at q; cases q
    rcases q with q | ⟨o, q⟩
    · exact .inl (by rw [upd_ne ne]; exact q)
    · exact .inr ⟨o, by rw [upd_ne ne]; exact q⟩
  · by_cases ne : b = a
    · subst ne
      exact ⟨ys, .inl upd_same⟩
    · rcases q with q | ⟨o, q⟩
      · exact ⟨zs, .inl (by rw [upd_ne ne]; exact q)⟩
      · exact ⟨zs, .inr ⟨o, by rw [upd_ne ne]; exact q⟩⟩
section
variable {K : PySem.W.Frag} {H H' : Hp}
mutual
theorem Tame.tv (e : Tame H H') : ∀ {v : V} {t : T}, Tv K H v t → Tv K H' v t
  | _, _, .non => .non
  | _, _, .bl b => .bl b
  | _, _, .int i => .int i
  | _, _, .str s h => .str s h
  | _, _, .tup h a => .tup (e.sqT h) (Tame.tvA e a)
  | _, _, .lst h => by obtain ⟨ys, q⟩ := e.sqL h; exact .lst q
theorem Tame.tvA (e : Tame H H') : ∀ {v : List V} {t : List T}, TvA K H v t → TvA K H' v t
  | _, _, .nil => .nil
  | _, _, .cons h a => .cons (Tame.tv e h) (Tame.tvA e a)
end
theorem TvA.len : ∀ {vs : List V} {ts : List T}, TvA K H vs ts → vs.length = ts.length
  | _, _, .nil => rfl
  | _, _, .cons _ a => congrArg (· + 1) a.len
theorem TvA.get : ∀ {vs : List V} {ts : List T} {i : Nat} {t : T}, TvA K H vs ts → ts[i]? = some t → ∃ v, vs[i]? = some v ∧ Tv K H v t
  | _, _, i, _, .nil, h => by simp at h
  | _, _, 0, _, .cons h _, e => by cases (Option.some.inj e); exact ⟨_, rfl, h⟩
  | _, _, i + 1, _, .cons _ a, e => a.get (i := i) e
theorem TvA.getV : ∀ {vs : List V} {ts : List T} {i : Nat} {v : V}, TvA K H vs ts → vs[i]? = some v → ∃ t, ts[i]? = some t ∧ Tv K H v t
  | _, _, i, _, .nil, h => by simp at h
  | _, _, 0, _, .cons h _, e => by cases (Option.some.inj e); exact ⟨_, rfl, h⟩
  | _, _, i + 1, _, .cons _ a, e => a.getV (i := i) e
theorem TvA.append : ∀ {xs ys : List V} {ts us : List T}, TvA K H xs ts → TvA K H ys us → TvA K H (xs ++ ys) (ts ++ us)
  | _, _, _, _, .nil, b => b
  | _, _, _, _, .cons h a, b => .cons h (a.append b)
theorem TvA.take : ∀ {xs : List V} {ts : List T} (n : Nat), TvA K H xs ts → TvA K H (xs.take n) (ts.take n)
  | _, _, 0, _ => .nil
  | _, _, n + 1, .nil => .nil
  | _, _, n + 1, .cons h a => .cons h (a.take n)
theorem TvA.drop : ∀ {xs : List V} {ts : List T} (n : Nat), TvA K H xs ts → TvA K H (xs.drop n) (ts.drop n)
  | _, _, 0, a => a
  | _, _, n + 1, .nil => .nil
  | _, _, n + 1, .cons _ a => a.drop n
def cutT (xs : List T) (lo hi : Option Int) : List T := (xs.drop (HT.sIx xs.length 0 lo)).take (HT.sIx xs.length xs.length hi - HT.sIx xs.length 0 lo)
theorem TvA.cut {xs : List V} {ts : List T} (h : TvA K H xs ts) (lo hi : Option Int) : TvA K H (cutV xs lo hi) (cutT ts lo hi) := by
  unfold cutV cutT
  rw [h.len]
  exact (h.drop _).take _
end
theorem TvA.one {K : PySem.W.Frag} {H : Hp} {v : V} {t : T} (h : Tv K H v t) : TvA K H [v] [t] := .cons h .nil
theorem Tv.tupE {K : PySem.W.Frag} {H : Hp} {v : V} {ts : List T} (h : Tv K H v (.tup ts)) : ∃ a xs, v = .ref a ∧ SqT K H a xs ∧ TvA K H xs ts := by
  cases h with | tup h a => exact ⟨_, _, rfl, h, a⟩
theorem TvA.consE {K : PySem.W.Frag} {H : Hp} {vs : List V} {t : T} {ts : List T} (h : TvA K H vs (t :: ts)) : ∃ x xs, vs = x :: xs ∧ Tv K H x t ∧ TvA K H xs ts := by
  cases h with | cons h a => exact ⟨_, _, rfl, h, a⟩
theorem TvA.nilE {K : PySem.W.Frag} {H : Hp} {vs : List V} (h : TvA K H vs []) : vs = [] := by cases h; rfl
theorem Tv.intE {K : PySem.W.Frag} {H : Hp} {v : V} {i : Int} (h : Tv K H v (.int i)) : v = .int i := by cases h; rfl
theorem Tv.strE {K : PySem.W.Frag} {H : Hp} {v : V} {i : Str} (h : Tv K H v (.str i)) : v = .str i := by cases h; rfl
theorem Tv.blE {K : PySem.W.Frag} {H : Hp} {v : V} {i : Bool} (h : Tv K H v (.bl i)) : v = .bl i := by cases h; rfl
theorem Tv.nonE {K : PySem.W.Frag} {H : Hp} {v : V} (h : Tv K H v .non) : v = .non := by cases h; rfl

theorem TvA.mem {K : PySem.W.Frag} {H : Hp} {vs : List V} {ts : List T} {v : V} (h : TvA K H vs ts) (m : v ∈ vs) : ∃ t, t ∈ ts ∧ Tv K H v t := by
  obtain ⟨i, e⟩ := List.getElem?_of_mem m
  obtain ⟨t, e2, hv⟩ := h.getV e
  exact ⟨t, List.mem_of_getElem? e2, hv⟩
/-! isinstance by kind -/
def tyT : T → String
  | .non => "NoneType" | .bl _ => "bool" | .int _ => "int" | .str _ => "str" | .tup _ => "tuple" | .lst => "list"
theorem Tv.ty {K : PySem.W.Frag} {H : Hp} {v : V} {t : T} (h : Tv K H v t) : TyX K H v (.type (tyT t)) := by
  cases h with
  | non => exact .base .non
  | bl b => exact .base (.bl b)
  | int i => exact .base (.int i)
  | str i _ => exact .base (.str i)
  | tup h _ =>
    rcases h with (h | ⟨o, h⟩) | ⟨o, its, n, h, c, _⟩
    · exact .base (.tup h)
    · exact .fTuple h
    · exact .kTuple h c
  | lst h =>
    rcases h with (h | ⟨o, h⟩) | ⟨o, its, n, h, c, _⟩
    · exact .base (.lst h)
    · exact .base (.frz h)
    · exact .kList h c
def isS (s n : String) : Bool := n == s || (s == "bool" && n == "int")
def isT (t : T) (n : String) : Bool := isS (tyT t) n
theorem kitS : ∀ s ∈ ["NoneType", "bool", "int", "str", "tuple", "list"], ∀ n ∈ ["int", "bool", "str", "tuple", "list"], kitB s n = some (isS s n) := by decide +kernel
theorem isT_kit {K : PySem.W.Frag} (t : T) {n : String} (hn : n ∈ ["int", "bool", "str", "tuple", "list"]) : PySem.W.kitOne K (.type (tyT t)) (.type n) = some (isT t n) := by
  refine kit_ty (kitS _ ?_ n hn)
  cases t <;> simp [tyT]
def isInt : T → Bool | .int _ => true | .bl _ => true | _ => false
def isBool : T → Bool | .bl _ => true | _ => false
def isStr : T → Bool | .str _ => true | _ => false
def isTup : T → Bool | .tup _ => true | _ => false
def isLst : T → Bool | .lst => true | _ => false
section
variable {K : PySem.W.Frag} {H : Hp} {Q : VK} {v : V} {t : T}
theorem rd_isi {n : String} {b : Bool} (h : Tv K H v t) (hn : n ∈ ["int", "bool", "str", "tuple", "list"]) (e : isT t n = b) (q : Q (.bl b) H) : rIsi K [v, .ty n] H Q :=
  ⟨v, .ty n, _, _, _, rfl, .ty n, h.ty, isT_kit t hn, by rw [e]; exact q⟩
theorem rd_isInt (h : Tv K H v t) (q : Q (.bl (isInt t)) H) : rIsi K [v, .ty "int"] H Q := rd_isi h (by decide) (by cases t <;> rfl) q
theorem rd_isBool (h : Tv K H v t) (q : Q (.bl (isBool t)) H) : rIsi K [v, .ty "bool"] H Q := rd_isi h (by decide) (by cases t <;> rfl) q
theorem rd_isStr (h : Tv K H v t) (q : Q (.bl (isStr t)) H) : rIsi K [v, .ty "str"] H Q := rd_isi h (by decide) (by cases t <;> rfl) q
theorem rd_isTup (h : Tv K H v t) (q : Q (.bl (isTup t)) H) : rIsi K [v, .ty "tuple"] H Q := rd_isi h (by decide) (by cases t <;> rfl) q
theorem rd_isLst (h : Tv K H v t) (q : Q (.bl (isLst t)) H) : rIsi K [v, .ty "list"] H Q := rd_isi h (by decide) (by cases t <;> rfl) q
end

/-! ### reading step by step -/
section
variable {K : PySem.W.Frag} {σ : L2.St} {H : Hp} {Q : VK} {ta tb tc te : TE} {tt tu : TT} {x y v : V} {D : Ends} {s1 s2 : TS}
theorem rd_var {i : Nat} (h : σ[i]? = some (some v)) (q : Q v H) : tVar i σ H Q := ⟨v, h, q⟩
theorem rd_c (q : Q v H) : tC v σ H Q := q
theorem rd_op {r : R2} (q : ta σ H fun x H1 => tb σ H1 fun y H2 => r x y H2 Q) : tOp r ta tb σ H Q := q
theorem rd_un {r : V → Hp → VK → Prop} (q : ta σ H fun x H1 => r x H1 Q) : tUn r ta σ H Q := q
theorem rd_cb {r : List V → Hp → VK → Prop} {t : TA} (q : t σ H fun vs H1 => r vs H1 Q) : tCB r t σ H Q := q
theorem rd_cal {sp : Sp} {t : TA} (q : t σ H fun vs H1 => sp vs H1 Q E0) : tCal sp t σ H Q := q
theorem rd_cons {t : TA} {R : List V → Hp → Prop} (q : ta σ H fun x H1 => t σ H1 fun xs H2 => R (x :: xs) H2) : tCons ta t σ H R := q
theorem rd_nil {R : List V → Hp → Prop} (q : R [] H) : tNil σ H R := q
def NewL (xs : List V) (H : Hp) (Q : VK) : Prop := xs.length ≤ sizeLine ∧ ∀ p, H p = none → Q (.ref p) (upd H p (.lst xs))
def NewT (xs : List V) (H : Hp) (Q : VK) : Prop := xs.length ≤ sizeLine ∧ ∀ p, H p = none → Q (.ref p) (upd H p (.tup xs))
theorem rd_tup {t : TA} (q : t σ H fun xs H1 => NewT xs H1 Q) : tTup t σ H Q := q
theorem rd_lst {t : TA} (q : t σ H fun xs H1 => NewL xs H1 Q) : tLst t σ H Q := q
theorem new_tup {xs : List V} (q : ∀ p H', H p = none → Ex H H' → H' p = some (.tup xs) → Q (.ref p) H') (hl : xs.length ≤ 1000 := by first | decide | assumption | simp) : NewT xs H Q :=
  ⟨Nat.le_of_lt (small1000 hl), fun p hp => q p _ hp (Evl.Ex.new hp) upd_same⟩
theorem new_lst {xs : List V} (q : ∀ p H', H p = none → Ex H H' → H' p = some (.lst xs) → Q (.ref p) H') (hl : xs.length ≤ 1000 := by first | decide | assumption | simp) : NewL xs H Q :=
  ⟨Nat.le_of_lt (small1000 hl), fun p hp => q p _ hp (Evl.Ex.new hp) upd_same⟩
theorem rd_test {R : Bool → Hp → Prop} (q : te σ H fun x H' => ∃ k, x = .bl k ∧ R k H') : tTest te σ H R := q
theorem rd_tB {R : Bool → Hp → Prop} (q : te σ H fun x H' => ∃ k, x = .bl k ∧ R k H') : tB te σ H R := q
theorem rd_bl {b : Bool} {R : Bool → Hp → Prop} (q : R b H) : ∃ k, V.bl b = .bl k ∧ R k H := ⟨b, rfl, q⟩
theorem rd_blP {b : Bool} {P : Bool → Prop} (q : P b) : ∃ k, V.bl b = .bl k ∧ P k := ⟨b, rfl, q⟩
def tTru (K : PySem.W.Frag) (ta : TE) : TT := fun σ H Q => ta σ H fun x H' => ∃ k, TruV K x H' k ∧ Q k H'
theorem pt_tru {X : Cx} {a : Expr} {ta : TE} (ha : PE X a ta) (he : ∀ whole, isTrue a X.env whole = (do let v ← whole; standAt a.pos; holding [v] (truthy v)) := by intro _; rfl) : PT X a (tTru X.K ta) := pt_truth ha he
theorem rd_tru {R : Bool → Hp → Prop} (q : ta σ H fun x H' => ∃ k, TruV K x H' k ∧ R k H') : tTru K ta σ H R := q
theorem rd_trub {b : Bool} {R : Bool → Prop} (q : R b) : ∃ k, TruV K (.bl b) H k ∧ R k := ⟨b, rfl, q⟩
theorem rd_trui {i : Int} {R : Bool → Prop} (q : R (i != 0)) : ∃ k, TruV K (.int i) H k ∧ R k := ⟨_, rfl, q⟩
theorem rd_trun {R : Bool → Prop} (q : R false) : ∃ k, TruV K .non H k ∧ R k := ⟨_, rfl, q⟩
theorem rd_truT {ts : List T} (h : Tv K H v (.tup ts)) {R : Bool → Prop} (q : R (!ts.isEmpty)) : ∃ k, TruV K v H k ∧ R k := by
  obtain ⟨a, xs, rfl, hs, ha⟩ := h.tupE
  refine ⟨_, .inr (.inl ⟨xs, hs, rfl⟩), ?_⟩
  have e : xs.isEmpty = ts.isEmpty := by cases ha <;> rfl
  rw [e]; exact q
theorem rd_truL {a : Addr} {xs : List V} (h : SqL K H a xs) {R : Bool → Prop} (q : R (!xs.isEmpty)) : ∃ k, TruV K (.ref a) H k ∧ R k := ⟨_, .inl ⟨xs, h, rfl⟩, q⟩
theorem rd_not {R : Bool → Hp → Prop} (q : tt σ H fun c H1 => R (!c) H1) : tNot tt σ H R := q
theorem rd_and {R : Bool → Hp → Prop} (q : tt σ H fun c H1 => if c = true then tu σ H1 R else R false H1) : tAnd tt tu σ H R := q
theorem rd_or {R : Bool → Hp → Prop} (q : tt σ H fun c H1 => if c = true then R true H1 else tu σ H1 R) : tOr tt tu σ H R := q
theorem rd_andV (q : ta σ H fun x H1 => ∃ c, x = .bl c ∧ if c = true then tb σ H1 Q else Q (.bl false) H1) : tAndV ta tb σ H Q := q
theorem rd_orV (q : ta σ H fun x H1 => ∃ c, x = .bl c ∧ if c = true then Q (.bl true) H1 else tb σ H1 Q) : tOrV ta tb σ H Q := q
theorem rd_notV (q : ta σ H fun x H1 => ∃ c, x = .bl c ∧ Q (.bl (!c)) H1) : tNotV ta σ H Q := q
theorem rd_ifE (q : tt σ H fun c H1 => if c = true then ta σ H1 Q else tb σ H1 Q) : tIf tt ta tb σ H Q := q
theorem rd_chain {r r' : R2} (q : ta σ H fun x H1 => tb σ H1 fun y H2 => r x y H2 fun z H3 => ∃ k, z = .bl k ∧ if k = true then tc σ H3 fun w H4 => r' y w H4 Q else Q (.bl false) H3) : tChain r r' ta tb tc σ H Q := q
theorem rd_seq (q : s1 { D with nx := s2 D } σ H) : tSeq s1 s2 D σ H := q
theorem rd_cut (M : L2.St → Hp → Prop) (h : s1 { D with nx := M } σ H) (k : ∀ σ' H', M σ' H' → s2 D σ' H') : Evl.tCut s1 s2 D σ H := ⟨M, h, k⟩
theorem rd_asg {g : TG} (q : te σ H fun x H1 => g x σ H1 D.nx) : tAsg te g D σ H := q
theorem rd_name {i : Nat} {σ' : L2.St} {R : L2.St → Hp → Prop} (e : σ.set i (some v) = σ') (q : R σ' H) : gName i v σ H R := by subst e; exact q
theorem rd_ifS (q : tt σ H fun b H1 => if b = true then s1 D σ H1 else s2 D σ H1) : tIfS tt s1 s2 D σ H := q
theorem rd_ret (q : te σ H D.rt) : tRet te D σ H := q
theorem rd_retN (q : D.rt .non H) : tRetN D σ H := q
theorem rd_drop (q : te σ H fun _ H1 => D.nx σ H1) : tDrop te D σ H := q
theorem rd_next (q : D.nx σ H) : tNext D σ H := q
theorem rd_brk (q : D.bk σ H) : tBreak D σ H := q
theorem rd_cont (q : D.ct σ H) : tCont D σ H := q
theorem rd_aug {i : Nat} {ti : TIp} {σ' : L2.St → L2.V → L2.St} (h : σ[i]? = some (some x)) (q : te σ H fun y H1 => ti x y H1 fun z H2 => gName i z σ H2 D.nx) : tAug i te ti D σ H := ⟨x, h, q⟩
theorem rd_par {i j : Nat} {t : TA} (q : t σ H fun vs H1 => ∃ v w, vs = [v, w] ∧ D.nx ((σ.set i (some v)).set j (some w)) H1) : tPar i j t D σ H := q
theorem rd_par2 {i j : Nat} {a b : V} {σ' : L2.St} {R : L2.St → Hp → Prop} (e : (σ.set i (some a)).set j (some b) = σ') (q : R σ' H) : ∃ v w, [a, b] = [v, w] ∧ R ((σ.set i (some v)).set j (some w)) H := ⟨a, b, rfl, by rw [e]; exact q⟩
theorem rd_gtup {n : Nat} {t : TGs} {a : Addr} {xs : List V} {R : L2.St → Hp → Prop} (h : SqT K H a xs) (hl : xs.length = n) (q : t xs σ H R) : gTup K n t (.ref a) σ H R := ⟨a, xs, rfl, h, hl, q⟩
theorem rd_gcons {g : TG} {t : TGs} {xs : List V} {R : L2.St → Hp → Prop} (q : g x σ H fun σ' H' => t xs σ' H' R) : gCons g t (x :: xs) σ H R := ⟨x, xs, rfl, q⟩
theorem rd_gnil {R : L2.St → Hp → Prop} (q : R σ H) : gNil [] σ H R := ⟨rfl, q⟩
theorem rd_gsub {to ti : TE} {t : TSet} {R : L2.St → Hp → Prop} (q : to σ H fun o H1 => ti σ H1 fun i H2 => t o i v H2 fun H3 => R σ H3) : gSub to ti t v σ H R := q
theorem rd_setL {p : Addr} {xs : List V} {k : Int} {j : Nat} {R : Hp → Prop} (h : H p = some (.lst xs)) (hk : ixN xs.length k = some j) (q : R (upd H p (.lst (xs.set j v)))) : rSetL (.ref p) (.int k) v H R := ⟨p, xs, k, j, rfl, rfl, h, hk, q⟩
theorem rd_bm {T' : String} {r : V → List V → Hp → VK → Prop} {to : TE} {t : TA} (q : to σ H fun x H1 => tyV K T' x H1 ∧ t σ H1 fun xs H2 => r x xs H2 Q) : tBM K T' r to t σ H Q := q
theorem rd_tyL {a : Addr} {xs : List V} {B : Prop} (h : SqL K H a xs) (q : B) : tyV K "list" (.ref a) H ∧ B := ⟨.inl ⟨rfl, _, h⟩, q⟩
theorem rd_append {l : Addr} {xs : List V} {y : V} (h : H l = some (.lst xs)) (hl : xs.length < 1000) (q : Q .non (upd H l (.lst (xs ++ [y])))) : rAppend (.ref l) [y] H Q := ⟨l, xs, y, rfl, rfl, h, small1000 (Nat.le_of_lt hl), q⟩
theorem rd_sl {r : V → Option Int → Option Int → Hp → VK → Prop} {tl th : TO} (q : te σ H fun x H1 => tl σ H1 fun l H2 => th σ H2 fun u H3 => r x l u H3 Q) : tSl r te tl th σ H Q := q
theorem rd_part {R : Option Int → Hp → Prop} (q : te σ H fun x H1 => ∃ i, x = .int i ∧ R (some i) H1) : tPart te σ H R := q
theorem rd_partI {i : Int} {R : Int → Prop} (q : R i) : ∃ j, V.int i = .int j ∧ R j := ⟨i, rfl, q⟩
theorem rd_nopart {R : Option Int → Hp → Prop} (q : R none H) : tNoPart σ H R := q
/-! values -/
theorem rd_addI {i j : Int} (q : Q (.int (i + j)) H) : rAddA K (.int i) (.int j) H Q := .inl (.inl ⟨i, j, rfl, rfl, q⟩)
theorem rd_addS {i j : Str} (hl : i.length + j.length ≤ 1000) (q : Q (.str (i ++ j)) H) : rAddA K (.str i) (.str j) H Q := .inl (.inr ⟨i, j, rfl, rfl, Nat.le_of_lt (small1000 hl), q⟩)
theorem rd_addT {a b : Addr} {xs ys : List V} (ha : SqT K H a xs) (hb : SqT K H b ys) (hl : xs.length + ys.length ≤ 1000) (q : ∀ p H', Ex H H' → SqT K H' p (xs ++ ys) → Q (.ref p) H') : rAddA K (.ref a) (.ref b) H Q := by
  refine .inr (.inl ⟨a, b, xs, ys, rfl, rfl, ha, hb, Nat.le_of_lt (small1000 hl), fun e => ?_, fun e e' => ?_, fun _ _ p hp => q p _ (Evl.Ex.new hp) (.inl (.inl upd_same))⟩)
  · subst e
    exact q b H (Evl.Ex.refl H) hb
  · subst e'
    exact q a H (Evl.Ex.refl H) (by rw [List.append_nil]; exact ha)
theorem rd_addL {a b : Addr} {xs ys : List V} (ha : H a = some (.lst xs)) (hb : H b = some (.lst ys)) (hl : xs.length + ys.length ≤ 1000) (q : ∀ p H', H p = none → Ex H H' → H' p = some (.lst (xs ++ ys)) → Q (.ref p) H') : rAddA K (.ref a) (.ref b) H Q :=
  .inr (.inr ⟨a, b, xs, ys, rfl, rfl, ha, hb, Nat.le_of_lt (small1000 hl), fun p hp => q p _ hp (Evl.Ex.new hp) upd_same⟩)
theorem rd_I0 {i j : Int} {g : Int → Int → V} (q : Q (g i j) H) : rI0 g (.int i) (.int j) H Q := ⟨i, j, rfl, rfl, q⟩
theorem rd_I {i j : Int} {C : Int → Int → Prop} {g : Int → Int → V} (h : C i j) (q : Q (g i j) H) : rI C g (.int i) (.int j) H Q := ⟨i, j, rfl, rfl, h, q⟩
theorem rd_pow9 (q : Q (.int 1000000000) H) : rI CPow (fun i j => .int (i ^ j.toNat)) (.int 10) (.int 9) H Q := ⟨10, 9, rfl, rfl, ⟨by decide, by decide, by decide⟩, q⟩
theorem rd_pow12 (q : Q (.int 1000000000000) H) : rI CPow (fun i j => .int (i ^ j.toNat)) (.int 10) (.int 12) H Q := ⟨10, 12, rfl, rfl, ⟨by decide, by decide, by decide⟩, q⟩
theorem rd_U {i : Int} {g : Int → V} (q : Q (g i) H) : rU g (.int i) H Q := ⟨i, rfl, q⟩
theorem rd_eqI {i j : Int} (q : Q (.bl (decide (i = j))) H) : rEqA K (.int i) (.int j) H Q := .inl ⟨rfl, by rw [show decide (V.int i = V.int j) = decide (i = j) from by rw [Bool.eq_iff_iff]; simp]; exact q⟩
theorem rd_eqS {i j : Str} (q : Q (.bl (decide (i = j))) H) : rEqA K (.str i) (.str j) H Q := .inl ⟨rfl, by rw [show decide (V.str i = V.str j) = decide (i = j) from by rw [Bool.eq_iff_iff]; simp]; exact q⟩
theorem rd_eqB {i j : Bool} (q : Q (.bl (decide (i = j))) H) : rEqA K (.bl i) (.bl j) H Q := .inl ⟨rfl, by rw [show decide (V.bl i = V.bl j) = decide (i = j) from by rw [Bool.eq_iff_iff]; simp]; exact q⟩
theorem rd_neI {i j : Int} (q : Q (.bl (!decide (i = j))) H) : rNeA K (.int i) (.int j) H Q := .inl ⟨rfl, by rw [show decide (V.int i = V.int j) = decide (i = j) from by rw [Bool.eq_iff_iff]; simp]; exact q⟩
theorem rd_neS {i j : Str} (q : Q (.bl (!decide (i = j))) H) : rNeA K (.str i) (.str j) H Q := .inl ⟨rfl, by rw [show decide (V.str i = V.str j) = decide (i = j) from by rw [Bool.eq_iff_iff]; simp]; exact q⟩
theorem rd_neB {i j : Bool} (q : Q (.bl (!decide (i = j))) H) : rNeA K (.bl i) (.bl j) H Q := .inl ⟨rfl, by rw [show decide (V.bl i = V.bl j) = decide (i = j) from by rw [Bool.eq_iff_iff]; simp]; exact q⟩
theorem rd_lenL {a : Addr} {xs : List V} (h : SqL K H a xs) (q : Q (.int (xs.length : Nat)) H) : rLenA K [.ref a] H Q := ⟨_, xs.length, rfl, .inl ⟨xs, h, rfl⟩, q⟩
theorem rd_lenT {a : Addr} {xs : List V} (h : SqT K H a xs) (q : Q (.int (xs.length : Nat)) H) : rLenA K [.ref a] H Q := ⟨_, xs.length, rfl, .inr ⟨xs, h, rfl⟩, q⟩
theorem rd_lenS {s : Str} (h : s.length ≤ 1000) (q : Q (.int (s.length : Nat)) H) : rLenA K [.str s] H Q := ⟨_, s.length, rfl, ⟨Nat.le_of_lt (small1000 h), rfl⟩, q⟩
theorem rd_ixL {a : Addr} {xs : List V} {i : Int} {v : V} (h : SqL K H a xs) (e : atI xs i = some v) (q : Q v H) : rIx K (.ref a) (.int i) H Q := .inl ⟨a, xs, i, v, rfl, rfl, h, e, q⟩
theorem rd_ixT {a : Addr} {xs : List V} {i : Int} {v : V} (h : SqT K H a xs) (e : atI xs i = some v) (q : Q v H) : rIx K (.ref a) (.int i) H Q := .inr (.inl ⟨a, xs, i, v, rfl, rfl, h, e, q⟩)
theorem rd_ixS {z : Str} {i : Int} {c : Nat} (h : z.length ≤ 1000) (e : atI z.cps.toList i = some c) (q : Q (.str ⟨#[c]⟩) H) : rIx K (.str z) (.int i) H Q := .inr (.inr ⟨z, i, c, rfl, rfl, Nat.le_of_lt (small1000 h), e, q⟩)
theorem rd_tupOfL {a : Addr} {xs : List V} (h : SqL K H a xs) (q : ∀ p H', H p = none → Ex H H' → H' p = some (.tup xs) → Q (.ref p) H') : rTupOf K [.ref a] H Q := ⟨a, xs, rfl, .inl ⟨h, fun p hp => q p _ hp (Evl.Ex.new hp) upd_same⟩⟩
theorem rd_lstOfT {a : Addr} {xs : List V} (h : SqT K H a xs) (q : ∀ p H', H p = none → Ex H H' → H' p = some (.lst xs) → Q (.ref p) H') : rLstOf K [.ref a] H Q := ⟨a, xs, rfl, .inr h, fun p hp => q p _ hp (Evl.Ex.new hp) upd_same⟩
theorem rd_lstOfL {a : Addr} {xs : List V} (h : SqL K H a xs) (q : ∀ p H', H p = none → Ex H H' → H' p = some (.lst xs) → Q (.ref p) H') : rLstOf K [.ref a] H Q := ⟨a, xs, rfl, .inl h, fun p hp => q p _ hp (Evl.Ex.new hp) upd_same⟩
theorem rd_intB {b : Bool} (q : Q (.int (if b then 1 else 0)) H) : rInt1 [.bl b] H Q := .inr ⟨b, rfl, q⟩
theorem rd_intI {i : Int} (q : Q (.int i) H) : rInt1 [.int i] H Q := .inl ⟨i, rfl, q⟩
theorem rd_min2 {i j : Int} (q : Q (.int (if j < i then j else i)) H) : rMin2 [.int i, .int j] H Q := ⟨i, j, rfl, q⟩
theorem rd_max2 {i j : Int} (q : Q (.int (if j > i then j else i)) H) : rMax2 [.int i, .int j] H Q := ⟨i, j, rfl, q⟩
theorem rd_slT {a : Addr} {xs : List V} {lo hi : Option Int} (h : SqT K H a xs) (q : ∀ p H', Ex H H' → SqT K H' p (cutV xs lo hi) → Q (.ref p) H') : rSlX K (.ref a) lo hi H Q := by
  refine .inl (.inr ⟨a, xs, rfl, h, fun e => ?_, fun _ p hp => q p _ (Evl.Ex.new hp) (.inl (.inl upd_same))⟩)
  have ec : cutV xs lo hi = xs := by
    unfold cutV
    rw [e.1, e.2, List.drop_zero, Nat.sub_zero, List.take_length]
  exact q a H (Evl.Ex.refl H) (by rw [ec]; exact h)
theorem rd_slL {a : Addr} {xs : List V} {lo hi : Option Int} (h : SqL K H a xs) (q : ∀ p H', H p = none → Ex H H' → H' p = some (.lst (cutV xs lo hi)) → Q (.ref p) H') : rSlX K (.ref a) lo hi H Q :=
  .inl (.inl ⟨a, xs, rfl, h, fun p hp => q p _ hp (Evl.Ex.new hp) upd_same⟩)
theorem rd_slS {z : Str} {lo hi : Option Int} (h : z.length ≤ 1000) (q : Q (.str (cutS z lo hi)) H) : rSlX K (.str z) lo hi H Q := .inr ⟨z, rfl, Nat.le_of_lt (small1000 h), q⟩
def rSignIn : R2 := fun x y H Q => ∃ (c : Nat) (z : Str), x = .str ⟨#[c]⟩ ∧ y = .str z ∧ Q (.bl (decide (c ∈ z.cps.toList))) H
def rSignOut : R2 := fun x y H Q => ∃ (c : Nat) (z : Str), x = .str ⟨#[c]⟩ ∧ y = .str z ∧ Q (.bl (!decide (c ∈ z.cps.toList))) H
theorem op_signIn {X : Cx} : OpR X (compareOp .In) rSignIn := op_in_sign
theorem op_signOut {X : Cx} : OpR X (compareOp .NotIn) rSignOut := op_notIn_sign
theorem rd_signIn {c : Nat} {z : Str} (q : Q (.bl (decide (c ∈ z.cps.toList))) H) : rSignIn (.str ⟨#[c]⟩) (.str z) H Q := ⟨c, z, rfl, rfl, q⟩
theorem rd_signOut {c : Nat} {z : Str} (q : Q (.bl (!decide (c ∈ z.cps.toList))) H) : rSignOut (.str ⟨#[c]⟩) (.str z) H Q := ⟨c, z, rfl, rfl, q⟩
theorem rd_inL {v : V} {a : Addr} {xs : List V} (h : SqL K H a xs) (f : flatV v = true) (g : xs.all flatV = true) (q : Q (.bl (inV v xs)) H) : rIn K false v (.ref a) H Q := ⟨a, xs, rfl, .inl h, f, g, q⟩
theorem rd_outL {v : V} {a : Addr} {xs : List V} (h : SqL K H a xs) (f : flatV v = true) (g : xs.all flatV = true) (q : Q (.bl (!inV v xs)) H) : rIn K true v (.ref a) H Q := ⟨a, xs, rfl, .inl h, f, g, q⟩
theorem rd_ite {p A B : Prop} [Decidable p] (h1 : p → A) (h2 : ¬ p → B) : if decide p = true then A else B := by
  by_cases h : p
  · rw [if_pos (decide_eq_true h)]; exact h1 h
  · rw [if_neg (by rw [decide_eq_false h]; exact Bool.false_ne_true)]; exact h2 h
theorem rd_iteN {p A B : Prop} [Decidable p] (h1 : ¬ p → A) (h2 : p → B) : if (!decide p) = true then A else B := by
  by_cases h : p
  · rw [decide_eq_true h]; exact iteF (h2 h)
  · rw [decide_eq_false h]; exact iteT (h1 h)
theorem rd_iteB {b : Bool} {A B : Prop} (h1 : b = true → A) (h2 : b = false → B) : if b = true then A else B := by
  cases b
  · exact iteF (h2 rfl)
  · exact iteT (h1 rfl)
theorem rd_iteK {b c : Bool} {A B : Prop} (e : b = c) (q : if c = true then A else B) : if b = true then A else B := by rw [e]; exact q
end

theorem cutV_tail (xs : List V) : cutV xs (some 1) none = xs.drop 1 := by
  unfold cutV
  rw [show HT.sIx xs.length 0 (some 1) = min 1 xs.length from HT.sIx_nat xs.length 0 1, HT.sIx_none]
  cases xs with
  | nil => rfl
  | cons x r =>
    rw [show min 1 (x :: r).length = 1 by rw [List.length_cons]; omega]
    show (List.take ((x :: r).length - 1) r) = r
    rw [List.length_cons, Nat.add_sub_cancel]
    exact List.take_length
theorem cutV_from (xs : List V) (n : Nat) : cutV xs (some (n : Int)) none = xs.drop n := by
  unfold cutV
  rw [HT.sIx_nat xs.length 0 n, HT.sIx_none]
  by_cases h : n ≤ xs.length
  · rw [Nat.min_eq_left h]
    exact List.take_of_length_le (by rw [List.length_drop]; exact Nat.le_refl _)
  · rw [Nat.min_eq_right (by omega), Nat.sub_self, List.take_zero, List.drop_eq_nil_of_le (by omega)]
theorem cutV_to (xs : List V) (n : Nat) : cutV xs none (some (n : Int)) = xs.take n := by
  unfold cutV
  rw [HT.sIx_nat xs.length xs.length n, HT.sIx_none, List.drop_zero, Nat.sub_zero]
  by_cases h : n ≤ xs.length
  · rw [Nat.min_eq_left h]
  · rw [Nat.min_eq_right (by omega), List.take_length, List.take_of_length_le (by omega)]
/-! ### loops -/
def ForW (J : It) (g : TG) (tb : TS) (D : Ends) (σ : L2.St) (H : Hp) : Prop :=
  ∃ W : Nat → Nat → L2.St → Hp → Prop, (∃ m, W 0 m σ H) ∧ ∀ i m σ H, W i m σ H →
    (J.stop i H ∧ D.nx σ H) ∨ (J.go i H ∧ ∃ N : L2.St → Hp → Prop, (∀ σ' H', N σ' H' → ∃ m', m' < m ∧ W (i + 1) m' σ' H') ∧ ∀ x H', J.yld i H x H' → g x σ H' fun σ2 H2 => tb { D with nx := N, ct := N, bk := D.nx } σ2 H2)
section
variable {K : PySem.W.Frag} {σ : L2.St} {H : Hp} {g : TG} {tb : TS} {D : Ends} {te : TE} {ta : TA} {J : It}
theorem rd_forS (q : te σ H fun x H1 => ((∃ a, x = .ref a ∧ (∃ xs, SqL K H1 a xs) ∧ ForW (Itl K a) g tb D σ H1) ∨ (∃ a, x = .ref a ∧ (∃ xs, SqT K H1 a xs) ∧ ForW (Itt K a) g tb D σ H1)) ∨ ∃ z, x = .str z ∧ ForW (Its z) g tb D σ H1) : tFor (iSeq K te) g tb D σ H := q
theorem rd_fsT {a : Addr} {xs : List V} {R : Addr → Prop} {A B : Prop} (h : SqT K H a xs) (q : R a) : (A ∨ (∃ b, V.ref a = .ref b ∧ (∃ xs, SqT K H b xs) ∧ R b)) ∨ B := .inl (.inr ⟨a, rfl, ⟨xs, h⟩, q⟩)
theorem rd_fsL {a : Addr} {xs : List V} {R : Addr → Prop} {A B : Prop} (h : SqL K H a xs) (q : R a) : ((∃ b, V.ref a = .ref b ∧ (∃ xs, SqL K H b xs) ∧ R b) ∨ A) ∨ B := .inl (.inl ⟨a, rfl, ⟨xs, h⟩, q⟩)
theorem rd_fsS {z : Str} {R : Str → Prop} {A : Prop} (q : R z) : A ∨ ∃ y, V.str z = .str y ∧ R y := .inr ⟨z, rfl, q⟩
theorem rd_forR1 (q : ta σ H fun vs H1 => ∃ j : Int, vs = [.int j] ∧ -(2 ^ 62) ≤ j ∧ j < 2 ^ 62 ∧ ForW (Itr 0 j.toNat) g tb D σ H1) : tFor (iRng1 ta) g tb D σ H := q
theorem rd_fr1 {j : Int} {R : Int → Prop} (h : 0 ≤ j) (h' : j < 2 ^ 62) (q : R j) : ∃ k : Int, [V.int j] = [.int k] ∧ -(2 ^ 62) ≤ k ∧ k < 2 ^ 62 ∧ R k := ⟨j, rfl, by omega, h', q⟩
theorem rd_forR2 (q : ta σ H fun vs H1 => ∃ i j : Int, vs = [.int i, .int j] ∧ (-(2 ^ 62) ≤ i ∧ i < 2 ^ 62 ∧ -(2 ^ 62) ≤ j ∧ j < 2 ^ 62) ∧ ForW (Itr i (j - i).toNat) g tb D σ H1) : tFor (iRng2 ta) g tb D σ H := q
theorem rd_fr2 {i j : Int} {R : Int → Int → Prop} (h : -(2 ^ 62) ≤ i ∧ i < 2 ^ 62 ∧ -(2 ^ 62) ≤ j ∧ j < 2 ^ 62) (q : R i j) : ∃ k l : Int, [V.int i, V.int j] = [.int k, .int l] ∧ (-(2 ^ 62) ≤ k ∧ k < 2 ^ 62 ∧ -(2 ^ 62) ≤ l ∧ l < 2 ^ 62) ∧ R k l := ⟨i, j, rfl, h, q⟩
theorem rd_forZ (q : ta σ H fun vs H1 => ∃ a b xs ys, vs = [.ref a, .ref b] ∧ ((SqL K H1 a xs ∧ SqL K H1 b ys ∧ ForW (Itz K a b) g tb D σ H1) ∨ (SqT K H1 a xs ∧ SqT K H1 b ys ∧ ForW (RZ.ItzT K a b) g tb D σ H1))) : tFor (RZ.iZipA K ta) g tb D σ H := q
theorem rd_fzT {a b : Addr} {xs ys : List V} {R R' : Addr → Addr → Prop} (h1 : SqT K H a xs) (h2 : SqT K H b ys) (q : R' a b) : ∃ c d xs ys, [V.ref a, V.ref b] = [.ref c, .ref d] ∧ ((SqL K H c xs ∧ SqL K H d ys ∧ R c d) ∨ (SqT K H c xs ∧ SqT K H d ys ∧ R' c d)) := ⟨a, b, xs, ys, rfl, .inr ⟨h1, h2, q⟩⟩
theorem rd_fzL {a b : Addr} {xs ys : List V} {R R' : Addr → Addr → Prop} (h1 : SqL K H a xs) (h2 : SqL K H b ys) (q : R a b) : ∃ c d xs ys, [V.ref a, V.ref b] = [.ref c, .ref d] ∧ ((SqL K H c xs ∧ SqL K H d ys ∧ R c d) ∨ (SqT K H c xs ∧ SqT K H d ys ∧ R' c d)) := ⟨a, b, xs, ys, rfl, .inl ⟨h1, h2, q⟩⟩
/-- the loop by its invariant: over a tuple, a list, a range, zip of two tuples -/
theorem forW_T {a : Addr} (xs : List V) (Pv : Nat → L2.St → Hp → Prop) (h0 : Pv 0 σ H) (hl : ∀ i σ H, i ≤ xs.length → Pv i σ H → SqT K H a xs)
    (hs : ∀ i x σ H, xs[i]? = some x → Pv i σ H → g x σ H fun σ2 H2 => tb { D with nx := Pv (i + 1), ct := Pv (i + 1), bk := D.nx } σ2 H2) (hd : ∀ σ H, Pv xs.length σ H → D.nx σ H) : ForW (Itt K a) g tb D σ H := for_tup Pv h0 hl hs hd
theorem forW_L {a : Addr} (xs : List V) (Pv : Nat → L2.St → Hp → Prop) (h0 : Pv 0 σ H) (hl : ∀ i σ H, i ≤ xs.length → Pv i σ H → SqL K H a xs)
    (hs : ∀ i x σ H, xs[i]? = some x → Pv i σ H → g x σ H fun σ2 H2 => tb { D with nx := Pv (i + 1), ct := Pv (i + 1), bk := D.nx } σ2 H2) (hd : ∀ σ H, Pv xs.length σ H → D.nx σ H) : ForW (Itl K a) g tb D σ H := for_list Pv h0 hl hs hd
theorem forW_S {z : Str} (Pv : Nat → L2.St → Hp → Prop) (h0 : Pv 0 σ H)
    (hs : ∀ i c σ H, z.cps.toList[i]? = some c → Pv i σ H → g (.str ⟨#[c]⟩) σ H fun σ2 H2 => tb { D with nx := Pv (i + 1), ct := Pv (i + 1), bk := D.nx } σ2 H2) (hd : ∀ σ H, Pv z.length σ H → D.nx σ H) : ForW (Its z) g tb D σ H :=
  for_it walk_str Pv h0 (fun _ _ _ _ _ => trivial) (fun i x σ H H' _ hp y => by
    obtain ⟨rfl, c, e, rfl⟩ := y
    exact hs i c σ H' (by rw [Array.getElem?_toList]; exact e) hp) hd
theorem forW_Lx {a : Addr} {xs : List V} (_ : SqL K H a xs) (Pv : Nat → L2.St → Hp → Prop) (h0 : Pv 0 σ H) (hl : ∀ i σ H, i ≤ xs.length → Pv i σ H → SqL K H a xs)
    (hs : ∀ i x σ H, xs[i]? = some x → Pv i σ H → g x σ H fun σ2 H2 => tb { D with nx := Pv (i + 1), ct := Pv (i + 1), bk := D.nx } σ2 H2) (hd : ∀ σ H, Pv xs.length σ H → D.nx σ H) : ForW (Itl K a) g tb D σ H := for_list Pv h0 hl hs hd
theorem forW_R {lo : Int} {n : Nat} (Pv : Nat → L2.St → Hp → Prop) (h0 : Pv 0 σ H)
    (hs : ∀ i σ H, i < n → Pv i σ H → g (.int (lo + i)) σ H fun σ2 H2 => tb { D with nx := Pv (i + 1), ct := Pv (i + 1), bk := D.nx } σ2 H2) (hd : ∀ σ H, Pv n σ H → D.nx σ H) : ForW (Itr lo n) g tb D σ H := for_range Pv h0 hs hd
theorem forW_it {n : Nat} {G : Hp → Prop} {Y : Nat → Hp → V → Hp → Prop} (w : Walk J n G Y) (Pv : Nat → L2.St → Hp → Prop) (h0 : Pv 0 σ H) (hG : ∀ i σ H, i ≤ n → Pv i σ H → G H)
    (hs : ∀ i x σ H H', i < n → Pv i σ H → Y i H x H' → g x σ H' fun σ2 H2 => tb { D with nx := Pv (i + 1), ct := Pv (i + 1), bk := D.nx } σ2 H2) (hd : ∀ σ H, Pv n σ H → D.nx σ H) : ForW J g tb D σ H := for_it w Pv h0 hG hs hd
end
/-- over zip of two tuples, of any lengths -/
theorem walk_zipT {K : PySem.W.Frag} {a b : Addr} {xs ys : List V} {n : Nat} (hn : n = min xs.length ys.length) : Walk (RZ.ItzT K a b) n (fun H => SqT K H a xs ∧ SqT K H b ys) (YPair (fun i => xs[i]?) (fun i => ys[i]?)) := by
  subst hn
  refine ⟨fun i _ hi q => ?_, fun _ q => ⟨xs, ys, q.1, q.2, by omega⟩, fun i H v H' _ q y => ?_⟩
  · have h1 : i < xs.length := by omega
    have h2 : i < ys.length := by omega
    exact ⟨xs, ys, xs[i], ys[i], q.1, q.2, by simp [h1], by simp [h2]⟩
  · obtain ⟨T, x, z, h1, h2, h3, h4, h5⟩ := y
    exact ⟨T, x, z, h1, h2, h3, h4 xs q.1, h5 ys q.2⟩
theorem forW_Z {K : PySem.W.Frag} {σ : L2.St} {H : Hp} {g : TG} {tb : TS} {D : Ends} {a b : Addr} (xs ys : List V) {n : Nat} (hn : n = min xs.length ys.length) (Pv : Nat → L2.St → Hp → Prop) (h0 : Pv 0 σ H) (hG : ∀ i σ H, i ≤ n → Pv i σ H → SqT K H a xs ∧ SqT K H b ys)
    (hs : ∀ i x y T σ H H', i < n → Pv i σ H → xs[i]? = some x → ys[i]? = some y → H T = none → Ex H H' → H' T = some (.tup [x, y]) → g (.ref T) σ H' fun σ2 H2 => tb { D with nx := Pv (i + 1), ct := Pv (i + 1), bk := D.nx } σ2 H2) (hd : ∀ σ H, Pv n σ H → D.nx σ H) : ForW (RZ.ItzT K a b) g tb D σ H :=
  forW_it (walk_zipT hn) Pv h0 hG (fun i x σ H H' hi hp y => by
    obtain ⟨T, x, z, rfl, hT, rfl, h4, h5⟩ := y
    exact hs i x z T σ H _ hi hp h4 h5 hT (Evl.Ex.new hT) upd_same) hd

/-! comprehensions -/
def LcW (J : It) (g : TG) (tt : TT) (te : TE) (vs : List Nat) (σ : L2.St) (H1 : Hp) (Q : VK) : Prop :=
  ∀ D, H1 D = none → ∃ W : Nat → Nat → Hp → Prop, (∃ m, W 0 m (upd H1 D (.lst []))) ∧ ∀ i m H, W i m H →
  (J.stop i H ∧ Q (.ref D) H) ∨ (J.go i H ∧ ∃ Nx : Hp → Prop, (∀ H', Nx H' → ∃ m', m' < m ∧ W (i + 1) m' H') ∧ ∀ x H', J.yld i H x H' → g x (wipe σ vs) H' fun σ2 H2 => wipe σ2 vs = wipe σ vs ∧ tt σ2 H2 fun b H3 =>
    if b = true then te σ2 H3 fun y H4 => ∃ acc, H4 D = some (.lst acc) ∧ acc.length < sizeLine ∧ Nx (upd H4 D (.lst (acc ++ [y]))) else Nx H3)
section
variable {K : PySem.W.Frag} {σ : L2.St} {H : Hp} {Q : VK} {g : TG} {tt : TT} {te tl : TE} {ta : TA} {vs : List Nat}
theorem rd_lcS (q : tl σ H fun x H1 => ((∃ a, x = .ref a ∧ (∃ xs, SqL K H1 a xs) ∧ LcW (Itl K a) g tt te vs σ H1 Q) ∨ (∃ a, x = .ref a ∧ (∃ xs, SqT K H1 a xs) ∧ LcW (Itt K a) g tt te vs σ H1 Q)) ∨ ∃ z, x = .str z ∧ LcW (Its z) g tt te vs σ H1 Q) : tLc (iSeq K tl) g tt te vs σ H Q := q
theorem rd_lcR1 (q : ta σ H fun us H1 => ∃ j : Int, us = [.int j] ∧ -(2 ^ 62) ≤ j ∧ j < 2 ^ 62 ∧ LcW (Itr 0 j.toNat) g tt te vs σ H1 Q) : tLc (iRng1 ta) g tt te vs σ H Q := q
theorem rd_lcR2 (q : ta σ H fun us H1 => ∃ i j : Int, us = [.int i, .int j] ∧ (-(2 ^ 62) ≤ i ∧ i < 2 ^ 62 ∧ -(2 ^ 62) ≤ j ∧ j < 2 ^ 62) ∧ LcW (Itr i (j - i).toNat) g tt te vs σ H1 Q) : tLc (iRng2 ta) g tt te vs σ H Q := q
/-- the step of a comprehension's turn: the new item -/
def LcIt (D : Addr) (N : Hp → Prop) : VK := fun y H4 => ∃ acc, H4 D = some (.lst acc) ∧ acc.length < sizeLine ∧ N (upd H4 D (.lst (acc ++ [y])))
theorem lc_item {D : Addr} {N : Hp → Prop} {y : V} {H4 : Hp} {acc : List V} (h : H4 D = some (.lst acc)) (hl : acc.length < 1000) (q : N (upd H4 D (.lst (acc ++ [y])))) : ∃ acc, H4 D = some (.lst acc) ∧ acc.length < sizeLine ∧ N (upd H4 D (.lst (acc ++ [y]))) := ⟨acc, h, small1000 (Nat.le_of_lt hl), q⟩
theorem lcW_R {lo : Int} {n : Nat} (Pv : Addr → Nat → Hp → Prop) (h0 : ∀ D H', H D = none → Ex H H' → H' D = some (.lst []) → Pv D 0 H')
    (hs : ∀ D i H', H D = none → i < n → Pv D i H' → g (.int (lo + i)) (wipe σ vs) H' fun σ2 H2 => wipe σ2 vs = wipe σ vs ∧ tt σ2 H2 fun b H3 =>
      if b = true then te σ2 H3 fun y H4 => ∃ acc, H4 D = some (.lst acc) ∧ acc.length < sizeLine ∧ Pv D (i + 1) (upd H4 D (.lst (acc ++ [y]))) else Pv D (i + 1) H3)
    (hd : ∀ D H', H D = none → Pv D n H' → Q (.ref D) H') : LcW (Itr lo n) g tt te vs σ H Q := fun D hD =>
  lc_range (Pv D) (h0 D _ hD (Evl.Ex.new hD) upd_same) (fun i H' hi hp => hs D i H' hD hi hp) fun H' hp => hd D H' hD hp
theorem lcW_L {a : Addr} (xs : List V) (Pv : Addr → Nat → Hp → Prop) (h0 : ∀ D H', H D = none → Ex H H' → H' D = some (.lst []) → Pv D 0 H') (hl : ∀ D i H', H D = none → i ≤ xs.length → Pv D i H' → SqL K H' a xs)
    (hs : ∀ D i x H', H D = none → xs[i]? = some x → Pv D i H' → g x (wipe σ vs) H' fun σ2 H2 => wipe σ2 vs = wipe σ vs ∧ tt σ2 H2 fun b H3 =>
      if b = true then te σ2 H3 fun y H4 => ∃ acc, H4 D = some (.lst acc) ∧ acc.length < sizeLine ∧ Pv D (i + 1) (upd H4 D (.lst (acc ++ [y]))) else Pv D (i + 1) H3)
    (hd : ∀ D H', H D = none → Pv D xs.length H' → Q (.ref D) H') : LcW (Itl K a) g tt te vs σ H Q := fun D hD =>
  lc_list (Pv D) (h0 D _ hD (Evl.Ex.new hD) upd_same) (fun i H' hi hp => hl D i H' hD hi hp) (fun i x H' hx hp => hs D i x H' hD hx hp) fun H' hp => hd D H' hD hp
theorem lcW_T {a : Addr} (xs : List V) (Pv : Addr → Nat → Hp → Prop) (h0 : ∀ D H', H D = none → Ex H H' → H' D = some (.lst []) → Pv D 0 H') (hl : ∀ D i H', H D = none → i ≤ xs.length → Pv D i H' → SqT K H' a xs)
    (hs : ∀ D i x H', H D = none → xs[i]? = some x → Pv D i H' → g x (wipe σ vs) H' fun σ2 H2 => wipe σ2 vs = wipe σ vs ∧ tt σ2 H2 fun b H3 =>
      if b = true then te σ2 H3 fun y H4 => ∃ acc, H4 D = some (.lst acc) ∧ acc.length < sizeLine ∧ Pv D (i + 1) (upd H4 D (.lst (acc ++ [y]))) else Pv D (i + 1) H3)
    (hd : ∀ D H', H D = none → Pv D xs.length H' → Q (.ref D) H') : LcW (Itt K a) g tt te vs σ H Q := fun D hD =>
  lc_tup (Pv D) (h0 D _ hD (Evl.Ex.new hD) upd_same) (fun i H' hi hp => hl D i H' hD hi hp) (fun i x H' hx hp => hs D i x H' hD hx hp) fun H' hp => hd D H' hD hp
theorem rd_yes {R : Bool → Hp → Prop} (q : R true H) : tYes σ H R := q
theorem ex_new {H H1 : Hp} {D : Addr} {o : HO} (hn : H D = none) (e : Ex H H1) : Ex H (upd H1 D o) := fun b u q => by
  rw [upd_ne (ne_of_none q hn)]
  exact e b u q
end

/-! ### what a state list's def leaves: all but the list, its one int another -/
structure St1 (a : Addr) (H H' : Hp) : Prop where
  fr : ∀ b o, b ≠ a → H b = some o → H' b = some o
  st : ∃ s, H' a = some (.lst [.int s])
  tame : Tame H H'
theorem St1.trans {a : Addr} {H H1 H2 : Hp} (x : St1 a H H1) (y : St1 a H1 H2) : St1 a H H2 := ⟨fun b o n h => y.fr b o n (x.fr b o n h), y.st, x.tame.trans y.tame⟩
theorem St1.ex {a : Addr} {H H1 : Hp} (h : ∃ s, H a = some (.lst [.int s])) (e : Ex H H1) : St1 a H H1 := by
  obtain ⟨s, h⟩ := h
  exact ⟨fun b o _ q => e b o q, ⟨s, e a _ h⟩, .ex e⟩
theorem St1.free {a o : Addr} {H H1 : Hp} (S : St1 a H H1) (h : H1 o = none) : H o = none := by
  cases e : H o with
  | none => rfl
  | some x =>
    by_cases n : o = a
    · subst n
      obtain ⟨s, q⟩ := S.st
      rw [h] at q; cases q
    · rw [S.fr o x n e] at h; cases h
/-- a list that was not there at the start has grown -/
theorem St1.upd {a o : Addr} {H H1 : Hp} {xs ys : List V} (S : St1 a H H1) (hn : H o = none) (ho : H1 o = some (.lst xs)) (ne : o ≠ a) : St1 a H (upd H1 o (.lst ys)) := by
  refine ⟨fun b u nb e => ?_, ?_, S.tame.trans (Tame.upd ho)⟩
  · rw [upd_ne (by rintro rfl; rw [hn] at e; cases e)]
    exact S.fr b u nb e
  · obtain ⟨s, q⟩ := S.st
    exact ⟨s, by rw [upd_ne (Ne.symm ne)]; exact q⟩
theorem St1.refl {a : Addr} {H : Hp} (h : ∃ s, H a = some (.lst [.int s])) : St1 a H H := ⟨fun _ _ _ h => h, h, .refl H⟩
/-! what St1 and Ex keep -/
section
variable {K : PySem.W.Frag} {H H' : Hp} {a b : Addr} {v : V} {t : T} {vs : List V} {ts : List T} {xs : List V}
theorem tv_st (h : Tv K H v t) (e : St1 a H H') : Tv K H' v t := e.tame.tv h
theorem tv_ex (h : Tv K H v t) (e : Ex H H') : Tv K H' v t := (Tame.ex e).tv h
theorem tva_st (h : TvA K H vs ts) (e : St1 a H H') : TvA K H' vs ts := e.tame.tvA h
theorem tva_ex (h : TvA K H vs ts) (e : Ex H H') : TvA K H' vs ts := (Tame.ex e).tvA h
theorem sqt_st (h : SqT K H b xs) (e : St1 a H H') : SqT K H' b xs := e.tame.sqT h
theorem sqt_ex (h : SqT K H b xs) (e : Ex H H') : SqT K H' b xs := Evl.ex_t e h
theorem lst_st (h : H b = some (.lst xs)) (e : St1 a H H') (n : b ≠ a) : H' b = some (.lst xs) := e.fr b _ n h
theorem lst_ex (h : H b = some (.lst xs)) (e : Ex H H') : H' b = some (.lst xs) := e b _ h
theorem sql_ex (h : SqL K H b xs) (e : Ex H H') : SqL K H' b xs := Evl.ex_l e h
theorem sql_st {l st : Addr} {H0 : Hp} (h : SqL K H0 l xs) (hn : H0 st = none) (e0 : Ex H0 H) (e : St1 st H H') : SqL K H' l xs := by
  rcases h with (h | ⟨o, h⟩) | h
  · exact .inl (.inl (e.fr _ _ (by rintro rfl; rw [hn] at h; cases h) (e0 _ _ h)))
  · exact .inl (.inr ⟨o, e.fr _ _ (by rintro rfl; rw [hn] at h; cases h) (e0 _ _ h)⟩)
  · exact .inr h
theorem sta_st (e : St1 a H H') : ∃ s, H' a = some (.lst [.int s]) := e.st
theorem sta_ex (h : ∃ s, H a = some (.lst [.int s])) (e : Ex H H') : ∃ s, H' a = some (.lst [.int s]) := by obtain ⟨s, h⟩ := h; exact ⟨s, e a _ h⟩
theorem ne_st (h : ∃ s, H a = some (.lst [.int s])) (hp : H b = none) : b ≠ a := by
  obtain ⟨s, h⟩ := h
  rintro rfl
  rw [h] at hp; cases hp
end
section
variable {K : PySem.W.Frag} {H : Hp} {Q : VK}
/-- an item, whichever it is -/
theorem mem_at {xs : List V} {i : Int} (h0 : 0 ≤ i) (h1 : i < xs.length) : ∃ v, atI xs i = some v ∧ v ∈ xs := by
  have hk : i.toNat < xs.length := by omega
  refine ⟨xs[i.toNat], ?_, List.getElem_mem hk⟩
  have e : ((i.toNat : Nat) : Int) = i := by omega
  have q := atI_nat (List.getElem?_eq_getElem hk)
  rw [e] at q
  exact q
theorem rd_ixLm {a : Addr} {xs : List V} {i : Int} (h : SqL K H a xs) (h0 : 0 ≤ i) (h1 : i < xs.length) (q : ∀ v, v ∈ xs → Q v H) : rIx K (.ref a) (.int i) H Q := by
  obtain ⟨v, e, m⟩ := mem_at h0 h1
  exact rd_ixL h e (q v m)
theorem rd_ixTm {a : Addr} {xs : List V} {i : Int} (h : SqT K H a xs) (h0 : 0 ≤ i) (h1 : i < xs.length) (q : ∀ v, v ∈ xs → Q v H) : rIx K (.ref a) (.int i) H Q := by
  obtain ⟨v, e, m⟩ := mem_at h0 h1
  exact rd_ixT h e (q v m)
/-- the k-th of a tuple of data -/
theorem rd_ixD {v : V} {ts : List T} {i : Int} {n : Nat} {t : T} (h : Tv K H v (.tup ts)) (hi : i = (n : Nat)) (e : ts[n]? = some t) (q : ∀ x, Tv K H x t → Q x H) : rIx K v (.int i) H Q := by
  obtain ⟨a, xs, rfl, hs, ha⟩ := h.tupE
  obtain ⟨x, e1, hx⟩ := ha.get e
  subst hi
  exact rd_ixT hs (atI_nat e1) (q x hx)
theorem rd_lenD {v : V} {ts : List T} (h : Tv K H v (.tup ts)) (q : Q (.int (ts.length : Nat)) H) : rLenA K [v] H Q := by
  obtain ⟨a, xs, rfl, hs, ha⟩ := h.tupE
  refine rd_lenT hs ?_
  rw [ha.len]
  exact q
end
/-! ### a written dict: texts to tuples of texts -/
def TupIn (K : PySem.W.Frag) (a : Addr) (ws : List Str) : Prop :=
  ∃ (dd : Option Addr) (its : Array Value) (n : Nat) (sl : Array (Option Value)), K.lookup a = some ⟨.type "tuple", dd, .seq its n, sl⟩ ∧ its.size ≤ sizeLine ∧ Vals (ws.map V.str) its.toList
theorem TupIn.sq {K : PySem.W.Frag} {a : Addr} {ws : List Str} (h : TupIn K a ws) (H : Hp) : SqT K H a (ws.map V.str) := by
  obtain ⟨dd, its, n, sl, h, hz, hv⟩ := h
  exact .inr ⟨_, its, n, h, rfl, rfl, hz, hv⟩
def EntIs (K : PySem.W.Frag) (w : World) (e : DictEntry) (p : Str × List Str) : Prop :=
  ∃ t a, e.key = .str p.1 t ∧ e.hash = PyData.keyHash w.params p.1 ∧ e.val = .ref a ∧ TupIn K a p.2
/-- one entry after another -/
theorem ent_cons {K : PySem.W.Frag} {w : World} {a : Addr} {x : Str} {t : Tok} {ws : List Str} {l : List DictEntry} {ps : List (Str × List Str)} {dd : Option Addr} {its : Array Value} {n : Nat} {sl : Array (Option Value)}
    (k : K.lookup a = some ⟨.type "tuple", dd, .seq its n, sl⟩) (s : its.size ≤ sizeLine) (v : Vals (ws.map V.str) its.toList) (b : Paired (EntIs K w) l ps) :
    Paired (EntIs K w) (⟨PyData.keyHash w.params x, .str x t, .ref a⟩ :: l) ((x, ws) :: ps) := .cons ⟨t, a, rfl, rfl, rfl, dd, its, n, sl, k, s, v⟩ b
def TabAt (K : PySem.W.Frag) (w : World) (d : Addr) (ps : List (Str × List Str)) : Prop :=
  ∃ es n, K.lookup d = some ⟨.type "dict", none, .dict es n, #[]⟩ ∧ (d == sysModules) = false ∧ Paired (EntIs K w) es.toList ps
section
variable {K : PySem.W.Frag} {w : World} {d : Addr} {ps : List (Str × List Str)}
theorem ent_lit : ∀ {l : List DictEntry} {ps : List (Str × List Str)}, Paired (EntIs K w) l ps → PySem.W.KeysLit w.params l
  | _, _, .nil => trivial
  | _, _, .cons h t => by
    obtain ⟨t', a, h1, h2, _⟩ := h
    exact ⟨⟨_, t', h1, h2⟩, ent_lit t⟩
theorem ent_find (z : Str) : ∀ {l : List DictEntry} {ps : List (Str × List Str)}, Paired (EntIs K w) l ps →
    (match ps.lookup z with | some ws => ∃ e a, l.find? (·.key.isStr z) = some e ∧ e.val = .ref a ∧ TupIn K a ws | none => l.find? (·.key.isStr z) = none) ∧ l.any (·.refKey) = false
  | _, _, .nil => ⟨rfl, rfl⟩
  | e :: l, p :: ps, .cons h t => by
    have ih := ent_find z t
    obtain ⟨t', a, h1, h2, h3, h4⟩ := h
    have hr : e.refKey = false := by
      unfold DictEntry.refKey
      rw [h1]
    have hk : e.key.isStr z = (z == p.1) := by
      rw [h1, PySem.W.isStr_of]
      show (p.1 == z) = (z == p.1)
      rw [Bool.eq_iff_iff, beq_iff_eq, beq_iff_eq]
      exact eq_comm
    refine ⟨?_, by rw [List.any_cons, hr, ih.2]; rfl⟩
    rw [List.find?_cons, hk, List.lookup_cons]
    cases hz : z == p.1 with
    | true => exact ⟨e, a, rfl, h3, h4⟩
    | false => exact ih.1
theorem tab_ns (T : TabAt K w d ps) (z : Str) : match ps.lookup z with | some ws => ∃ a, PySem.W.nsIn K d z = some (some (.ref a)) ∧ TupIn K a ws | none => PySem.W.nsIn K d z = some none := by
  obtain ⟨es, n, hl, _, pr⟩ := T
  have f := ent_find z pr
  cases e : ps.lookup z with
  | some ws =>
    rw [e] at f
    obtain ⟨⟨en, a, f1, f2, f3⟩, _⟩ := f
    refine ⟨a, ?_, f3⟩
    unfold PySem.W.nsIn
    rw [hl]
    dsimp only
    rw [f1]
    dsimp only
    rw [f2]
  | none =>
    rw [e] at f
    unfold PySem.W.nsIn
    rw [hl]
    dsimp only
    rw [f.1]
    dsimp only
    rw [f.2]
    rfl
end
def rInTab (K : PySem.W.Frag) (w : World) (neg : Bool) : R2 := fun x y H Q => ∃ z d ps, x = .str z ∧ y = .ref d ∧ TabAt K w d ps ∧ Q (.bl (if neg then !(ps.lookup z).isSome else (ps.lookup z).isSome)) H
theorem tab_kd {K : PySem.W.Frag} {w : World} {d : Addr} {ps : List (Str × List Str)} (T : TabAt K w d ps) : ∃ es n, KDict K w d es n := by
  obtain ⟨es, n, hl, low, pr⟩ := T
  exact ⟨es, n, hl, ent_lit pr, low⟩
theorem tab_some {K : PySem.W.Frag} {w : World} {d : Addr} {ps : List (Str × List Str)} (T : TabAt K w d ps) (z : Str) : ∃ r, PySem.W.nsIn K d z = some r ∧ r.isSome = (ps.lookup z).isSome := by
  have f := tab_ns T z
  cases e : ps.lookup z with
  | some ws =>
    rw [e] at f
    obtain ⟨a, f1, _⟩ := f
    exact ⟨_, f1, rfl⟩
  | none =>
    rw [e] at f
    exact ⟨_, f, rfl⟩
theorem op_inTab {X : Cx} : OpR X (compareOp .In) (rInTab X.K X.w false) := by
  intro pins s σ H x y v u Q I rx ry h
  obtain ⟨z, d, ps, rfl, rfl, T, q⟩ := h
  obtain ⟨es, n, D⟩ := tab_kd T
  obtain ⟨r, hr, e⟩ := tab_some T z
  refine op_in_kd D pins s σ H _ _ v u Q I rx ry ⟨z, r, rfl, rfl, hr, ?_⟩
  rw [e]
  exact q
theorem op_notinTab {X : Cx} : OpR X (compareOp .NotIn) (rInTab X.K X.w true) := by
  intro pins s σ H x y v u Q I rx ry h
  obtain ⟨z, d, ps, rfl, rfl, T, q⟩ := h
  obtain ⟨es, n, D⟩ := tab_kd T
  obtain ⟨r, hr, e⟩ := tab_some T z
  refine op_notIn_kd D pins s σ H _ _ v u Q I rx ry ⟨z, r, rfl, rfl, hr, ?_⟩
  rw [e]
  exact q
theorem pe_gtab {X : Cx} {x : Str} {d : Addr} {pos : Pos} (hm : X.mg x = some (.ref d)) (hg : Gl X x := by rfl) (hd : (x == ("__debug__" : Str)) = false := by decide) : PE X (.Name x pos) (tC (.ref d)) := pe_glob hg hm rfl hd
theorem rd_inTab {K : PySem.W.Frag} {w : World} {d : Addr} {ps : List (Str × List Str)} {H : Hp} {Q : VK} {z : Str} (T : TabAt K w d ps) (q : Q (.bl (ps.lookup z).isSome) H) : rInTab K w false (.str z) (.ref d) H Q := ⟨z, d, ps, rfl, rfl, T, q⟩
theorem rd_outTab {K : PySem.W.Frag} {w : World} {d : Addr} {ps : List (Str × List Str)} {H : Hp} {Q : VK} {z : Str} (T : TabAt K w d ps) (q : Q (.bl (!(ps.lookup z).isSome)) H) : rInTab K w true (.str z) (.ref d) H Q := ⟨z, d, ps, rfl, rfl, T, q⟩
theorem rd_dgetT {σ : L2.St} {H : Hp} {Q : VK} {td ty : TE} (q : td σ H fun x H1 => ty σ H1 fun y H2 => ∃ a v, x = .ref a ∧ DGet H2 a y (some v) ∧ Q v H2) : tDGet td ty σ H Q := q
theorem rd_dgetK {H : Hp} {d : Addr} {kvs : List (Key × V)} {z : Str} {v : V} {R : V → Prop} (h : H d = some (.dK kvs)) (e : valV kvs (.inr z) = some v) (q : R v) : ∃ a u, V.ref d = .ref a ∧ DGet H a (.str z) (some u) ∧ R u := ⟨d, v, rfl, by rw [← e]; exact DGet.k (k := .inr z) h, q⟩
theorem rd_dgetI {H : Hp} {d : Addr} {kvs : List (Key × V)} {z : Int} {v : V} {R : V → Prop} (h : H d = some (.dK kvs)) (e : valV kvs (.inl z) = some v) (q : R v) : ∃ a u, V.ref d = .ref a ∧ DGet H a (.int z) (some u) ∧ R u := ⟨d, v, rfl, by rw [← e]; exact DGet.k (k := .inl z) h, q⟩
/-- d[z], z there -/
theorem rd_ixTab {K : PySem.W.Frag} {w : World} {d : Addr} {ps : List (Str × List Str)} {H : Hp} {Q : VK} {z : Str} {ws : List Str} (T : TabAt K w d ps) (e : ps.lookup z = some ws) (q : ∀ a, SqT K H a (ws.map V.str) → Q (.ref a) H) : rIxD K w (.ref d) (.str z) H Q := by
  have f := tab_ns T z
  rw [e] at f
  obtain ⟨a, f1, f2⟩ := f
  obtain ⟨es, n, hl, _, pr⟩ := T
  exact ⟨d, z, .ref a, rfl, rfl, ⟨es, n, _, hl, ent_lit pr, f1, rfl⟩, q a (f2.sq H)⟩
/-- a dict that stands in the heap stays -/
theorem dK_ex {H H' : Hp} {d : Addr} {kvs : List (Key × V)} (h : H d = some (.dK kvs)) (e : Ex H H') : H' d = some (.dK kvs) := e _ _ h
end Qa
namespace Qa
open PySem PySem.Spec PyProof.Rows L2
/-! within a comprehension: the fragment named -/
section
variable {X : Cx} {K : PySem.W.Frag}
theorem pt_truK {a : Expr} {ta : TE} (hK : X.K = K) (ha : PE X a ta) (he : ∀ whole, isTrue a X.env whole = (do let v ← whole; standAt a.pos; holding [v] (truthy v)) := by intro _; rfl) : PT X a (tTru K ta) := by
  subst hK
  exact pt_tru ha he
theorem isiK (hK : X.K = K) : CallR X (.builtin "isinstance") (rIsi K) := by
  subst hK
  exact call_isi
theorem notInK (hK : X.K = K) : OpR X (compareOp .NotIn) (rIn K true) := by
  subst hK
  exact op_notIn_seq
theorem inK (hK : X.K = K) : OpR X (compareOp .In) (rIn K false) := by
  subst hK
  exact op_in_seq
theorem ixK (hK : X.K = K) : IxR X (rIx K) := by
  subst hK
  exact ix_seq
theorem addK' (hK : X.K = K) : OpR X (binaryOp .Add) (rAddA K) := by
  subst hK
  exact op_addA
theorem lenK (hK : X.K = K) : CallR X (.builtin "len") (rLenA K) := by
  subst hK
  exact cr_lenA
end
/-! lists of whole numbers and texts, compared -/
def flatD : PyData → Bool
  | .int _ => true
  | .str x => PyData.strOk x
  | _ => false
theorem lay_flat : ∀ ds : List PyData, (∀ d ∈ ds, flatD d = true) → PyData.canLayAll0 ds = true ∧ PyData.depthAll ds = 0 ∧ PyData.eqvAll ds ds = true
  | [], _ => ⟨by simp [PyData.canLayAll0], by simp [PyData.depthAll], by simp [PyData.eqvAll]⟩
  | d :: ds, h => by
    obtain ⟨h1, h2, h3⟩ := lay_flat ds fun x hx => h x (List.mem_cons_of_mem _ hx)
    have hd := h d List.mem_cons_self
    cases d with
    | int i => exact ⟨by simp [PyData.canLayAll0, PyData.canLay0, h1], by simp [PyData.depthAll, PyData.depth, h2], by simp [PyData.eqvAll, PyData.eqv, h3]⟩
    | str i => exact ⟨by simp [PyData.canLayAll0, PyData.canLay0, h1]; exact hd, by simp [PyData.depthAll, PyData.depth, h2], by simp [PyData.eqvAll, PyData.eqv, h3]⟩
    | _ => cases hd
theorem shaped_flat (ds : List PyData) (h : ∀ d ∈ ds, flatD d = true) : SeqAt.shaped (.list ds) = true := by
  obtain ⟨h1, h2, h3⟩ := lay_flat ds h
  unfold SeqAt.shaped
  simp [PyData.canLay0, PyData.depth, h1, h2]
theorem eqv_flat (ds : List PyData) (h : ∀ d ∈ ds, flatD d = true) : PyData.eqv (.list ds) (.list ds) = true := by
  rw [PyData.eqv]
  exact (lay_flat ds h).2.2
section
variable {K : PySem.W.Frag} {H : Hp} {Q : VK}
def kD : Key → PyData
  | .inl i => .int i
  | .inr x => .str x
def okK : Key → Bool
  | .inl _ => true
  | .inr x => PyData.strOk x
theorem flat_kD (ks : List Key) (h : ∀ k ∈ ks, okK k = true) : ∀ d ∈ ks.map kD, flatD d = true := by
  intro d hd
  obtain ⟨k, hk, rfl⟩ := List.mem_map.mp hd
  have := h k hk
  cases k with
  | inl i => rfl
  | inr x => exact this
theorem dp_keys : ∀ (ks : List Key), DpAll K H (ks.map kV) (ks.map kD)
  | [] => .nil
  | .inl n :: ns => .cons (.int n) (dp_keys ns)
  | .inr n :: ns => .cons (.str n) (dp_keys ns)
theorem rd_eqNil {a b : Addr} {ns : List Key} (ok : ∀ k ∈ ns, okK k = true) (ha : SqL K H a (ns.map kV)) (hb : SqL K H b []) (q : Q (.bl ns.isEmpty) H) : rEqA K (.ref a) (.ref b) H Q := by
  refine .inr ⟨_, _, .lst ha (dp_keys ns), .lst hb .nil, shaped_flat _ (flat_kD ns ok), shaped_flat [] (by simp), ?_⟩
  cases ns with
  | nil => exact q
  | cons n ns => exact q
/-- two lists of the same keys -/
theorem rd_neSame {a b : Addr} {ns : List Key} (ok : ∀ k ∈ ns, okK k = true) (ha : SqL K H a (ns.map kV)) (hb : SqL K H b (ns.map kV)) (q : Q (.bl false) H) : rNeA K (.ref a) (.ref b) H Q := by
  refine .inr ⟨_, _, .lst ha (dp_keys ns), .lst hb (dp_keys ns), shaped_flat _ (flat_kD ns ok), shaped_flat _ (flat_kD ns ok), ?_⟩
  rw [eqv_flat _ (flat_kD ns ok)]
  exact q
theorem rd_eqSame {a b : Addr} {ns : List Key} (ok : ∀ k ∈ ns, okK k = true) (ha : SqL K H a (ns.map kV)) (hb : SqL K H b (ns.map kV)) (q : Q (.bl true) H) : rEqA K (.ref a) (.ref b) H Q := by
  refine .inr ⟨_, _, .lst ha (dp_keys ns), .lst hb (dp_keys ns), shaped_flat _ (flat_kD ns ok), shaped_flat _ (flat_kD ns ok), ?_⟩
  rw [eqv_flat _ (flat_kD ns ok)]
  exact q
theorem rd_ixTk {a : Addr} {xs : List V} {i : Int} {n : Nat} {v : V} (h : SqT K H a xs) (hi : i = (n : Nat)) (e : xs[n]? = some v) (q : Q v H) : rIx K (.ref a) (.int i) H Q := by
  subst hi
  exact rd_ixT h (atI_nat e) q
end
end Qa
namespace Qs
open PySem PySem.Spec PyProof.Rows L2
/-! sets of ints and texts, made of a list, sorted -/
def keyK (e : Int × Value) : Key := match e.2 with | .int k _ => .inl k | .str x _ => .inr x | _ => .inl 0
def GoodK (w : World) (e : Int × Value) : Prop := ∃ k, keyIs k e.2 = true ∧ e.1 = keyH w k
theorem keyK_is {e : Int × Value} {k : Key} (h : keyIs k e.2 = true) : keyK e = k := by
  obtain ⟨a, v⟩ := e
  rcases keyIs_shape h with ⟨i, t, rfl, e1⟩ | ⟨x, t, rfl, e1⟩
  · cases (show v = Value.int i t from e1); rfl
  · cases (show v = Value.str x t from e1); rfl
theorem goodK_is {w : World} {P : Program} {e : Int × Value} (g : GoodK w e) (k : Key) : (mixKind P w).is k e.2 = true ↔ keyK e = k := by
  obtain ⟨k0, h1, _⟩ := g
  constructor
  · intro h
    exact keyK_is h
  · intro h
    rw [keyK_is h1] at h
    rw [← h]
    exact h1
theorem goodK_scan {w : World} {e : Int × Value} (g : GoodK w e) : e.2.scannable = true := by
  obtain ⟨k, h1, _⟩ := g
  obtain ⟨a, v⟩ := e
  rcases keyIs_shape h1 with ⟨i, t, rfl, e1⟩ | ⟨x, t, rfl, e1⟩
  · cases (show v = Value.int i t from e1); rfl
  · cases (show v = Value.str x t from e1); rfl
/-- the set at a: its keys, none twice -/
def SetG (w : World) (h : Heap) (a : Addr) (ks : List Key) : Prop :=
  ∃ o es ep t, h.get? a = some o ∧ o.ExactSet ∧ o.data = .set es ep t ∧ (∀ e ∈ es.toList, GoodK w e) ∧ (es.toList.map keyK).Perm ks ∧ ks.Nodup ∧
    es.size < scanBound ∧ t.fits es.size = true ∧ Ris t.place.toList ∧ (w.params.followText "set-order" = true ∨ t.led = true)
section
variable {P : Program} {w : World} {A : Around} {E : Value → Shared → Prop} {s : Shared} {a : Addr} {ks : List Key}
theorem SetG.at {h h' : Heap} (R : SetG w h a ks) (k : ∀ o, h.get? a = some o → h'.get? a = some o) : SetG w h' a ks := by
  obtain ⟨o, es, ep, t, ho, r⟩ := R
  exact ⟨o, es, ep, t, k o ho, r⟩
theorem goodK_elems {l : List (Int × Value)} (g : ∀ e ∈ l, GoodK w e) : ElemsOf (mixKind P w) l := fun e he => by
  obtain ⟨k, h1, h2⟩ := g e he
  exact ⟨⟨k, h1, h2⟩, goodK_scan (g e he)⟩
theorem setG_tail {g : Bool → Sem Unit} (hg : ∀ (b : Bool) (s₁ : Shared) (Q' : Unit → Shared → Prop), Q' () s₁ → wpAny (model P w) A (g b) Q' E s₁)
    {o : Obj} {es : Array (Int × Value)} {ep : Nat} {t : SetTable} (ho : s.heap.get? a = some o) (hex : o.ExactSet) (hd : o.data = .set es ep t)
    {es1 : Array (Int × Value)} {t2 : SetTable} (g1 : ∀ e ∈ es1.toList, GoodK w e) (p1 : (es1.toList.map keyK).Perm ks) (n1 : ks.Nodup)
    (hb1 : es1.size < scanBound) (hf2 : t2.fits es1.size = true) (hr : Ris t2.place.toList) (hl : w.params.followText "set-order" = true ∨ t2.led = true) {wasDummy : Bool} {R : Option Bool → Shared → Prop}
    (hR : ∀ h', Heap.SameBut a s.heap h' → SetG w h' a ks → R (some true) { s with heap := h' }) :
    wpAny (model P w) A (do
        storeSet a es1 t2
        if (!wasDummy && t2.tooFull) = true then do
            g (relayAll t2 es1 (SetTable.grown es1.size)).2.2
            storeSet a (relayAll t2 es1 (SetTable.grown es1.size)).1 (relayAll t2 es1 (SetTable.grown es1.size)).2.1
            pure (some true)
          else pure (some true)) R E s := by
  have sb1 := Heap.SameBut.update s.heap a (Obj.putSet es1 t2)
  have at1 := store_at (es' := es1) (t' := t2) ho hd
  refine wpAny_bind (wpAny_storeSet_of ho hd ?_ (fits_of_scanBound hb1))
  by_cases full : (!wasDummy && t2.tooFull) = true
  · rw [if_pos full]
    have pm := relayAll_perm t2 es1 (SetTable.grown es1.size)
    have f3 := relayAll_fits t2 es1 (SetTable.grown es1.size)
    have r3 := relayAll_ris t2 es1 (SetTable.grown es1.size)
    have l3 := relayAll_led t2 es1 (SetTable.grown es1.size)
    revert pm f3 r3 l3
    generalize relayAll t2 es1 (SetTable.grown es1.size) = Z
    obtain ⟨es2, t3, gave⟩ := Z
    intro pm f3 r3 l3
    have sz : es2.size = es1.size := by
      have := pm.length_eq
      simpa using this
    refine wpAny_bind (hg _ _ _ (wpAny_bind (wpAny_storeSet_of at1 rfl ?_ (fits_of_scanBound (show es2.size < scanBound by rw [sz]; exact hb1)))))
    refine wpAny_pure (hR _ (sb1.trans (Heap.SameBut.update _ a _)) ⟨_, es2, _, t3, store_at (es' := es2) (t' := t3) at1 rfl, hex, rfl, fun e he => g1 e (pm.mem_iff.mp he), (pm.map keyK).trans p1, n1, by rw [sz]; exact hb1, f3, r3, ?_⟩)
    rcases hl with hl | hl
    · exact .inl hl
    · exact .inr (l3.trans hl)
  · rw [if_neg full]
    exact wpAny_pure (hR _ sb1 ⟨_, es1, _, t2, at1, hex, rfl, g1, p1, n1, hb1, hf2, hr, hl⟩)
def addK (ks : List Key) (k : Key) : List Key := if (ks.any fun j => decide (j = k)) = true then ks else k :: ks
theorem any_mem {ks : List Key} {k : Key} : (ks.any fun j => decide (j = k)) = true ↔ k ∈ ks := by
  rw [List.any_eq_true]
  exact ⟨fun ⟨j, h, e⟩ => of_decide_eq_true e ▸ h, fun h => ⟨k, h, decide_eq_true rfl⟩⟩
theorem setG_add {k : Key} {v : Value} {Q : Bool → Shared → Prop} (R : SetG w s.heap a ks) (hkey : keyIs k v = true) (room : ks.length + 1 < scanBound)
    (hQ : ∀ h' b, Heap.SameBut a s.heap h' → SetG w h' a (addK ks k) → Q b { s with heap := h' }) :
    wpAny (model P w) A (setAddHashed a v ((mixKind P w).hash k)) Q E s := by
  obtain ⟨o, es, ep, t, ho, hex, hd, g, pk, nd, hb, hf, hr, hl⟩ := R
  have hkey' : (mixKind P w).is k v = true := hkey
  have hsc : v.scannable = true := by
    rcases keyIs_shape hkey with ⟨i, t, rfl, rfl⟩ | ⟨x, t, rfl, rfl⟩ <;> rfl
  have hel : ElemsOf (mixKind P w) es.toList := goodK_elems g
  have mem : k ∈ ks ↔ ∃ e ∈ es.toList, (mixKind P w).is k e.2 = true := by
    rw [← pk.mem_iff, List.mem_map]
    exact ⟨fun ⟨e, he, q⟩ => ⟨e, he, (goodK_is (g e he) k).2 q⟩, fun ⟨e, he, q⟩ => ⟨e, he, (goodK_is (g e he) k).1 q⟩⟩
  unfold setAddHashed setAddHashedIn
  refine wpAny_holding (wpAny_bind (wpAny_setState_of ho hd hf ?_))
  dsimp only
  rw [byScan_of hsc hb hel]
  simp only [↓reduceIte]
  unfold setAddByScan
  refine wpAny_bind (wpAny_bind (wpAny_rule (wpAny_bind (wpAny_setScan_of hkey' ho hd hf hel ?_))))
  cases hfi : List.findIdx? (fun e => (mixKind P w).is k e.2) es.toList with
  | some j =>
    obtain ⟨hj, pj, _⟩ := List.findIdx?_eq_some_iff_getElem.mp hfi
    have inK : k ∈ ks := mem.2 ⟨es.toList[j], List.getElem_mem hj, pj⟩
    have eK : addK ks k = ks := if_pos (any_mem.2 inK)
    refine wpAny_pure (wpAny_pure (hQ s.heap _ (Heap.SameBut.refl a s.heap) ?_))
    rw [eK]
    exact ⟨o, es, ep, t, ho, hex, hd, g, pk, nd, hb, hf, hr, hl⟩
  | none =>
    have outK : k ∉ ks := fun z => by
      obtain ⟨e, he, q⟩ := mem.1 z
      have c := List.findIdx?_eq_none_iff.mp hfi e he
      rw [q] at c
      cases c
    have eK : addK ks k = k :: ks := if_neg fun z => outK (any_mem.1 z)
    dsimp only
    have pm := layNew_perm t es ((mixKind P w).hash k) v
    have f1 := layNew_fits t es ((mixKind P w).hash k) v
    have r1 := layNew_ris t es ((mixKind P w).hash k) v hr
    have l1 := layNew_led t es ((mixKind P w).hash k) v
    revert pm f1 r1 l1
    generalize layNew t es ((mixKind P w).hash k) v = Z
    obtain ⟨es1, t1, wasDummy, gave⟩ := Z
    intro pm f1 r1 l1
    dsimp only at pm f1 r1 l1 ⊢
    rw [Array.toList_push] at pm
    have pc : es1.toList.Perm (((mixKind P w).hash k, v) :: es.toList) := pm.trans (List.perm_append_singleton _ _)
    have pk1 : (es1.toList.map keyK).Perm (k :: ks) := by
      have q := pc.map keyK
      rw [List.map_cons, keyK_is (e := ((mixKind P w).hash k, v)) hkey] at q
      exact q.trans (pk.cons k)
    have g1 : ∀ e ∈ es1.toList, GoodK w e := fun e he => by
      rcases List.mem_cons.mp (pc.mem_iff.mp he) with z | z
      · rw [z]; exact ⟨k, hkey, rfl⟩
      · exact g e z
    have nd1 : (k :: ks).Nodup := List.nodup_cons.mpr ⟨outK, nd⟩
    have hb1 : es1.size < scanBound := by
      have q := pk1.length_eq
      rw [List.length_map, Array.length_toList, List.length_cons] at q
      omega
    have led1 : w.params.followText "set-order" = true ∨ t1.led = true := by
      rcases hl with z | z
      · exact .inl z
      · exact .inr (l1.trans z)
    have gw : ∀ (b : Bool) (s₁ : Shared) (Q' : Unit → Shared → Prop), Q' () s₁ → wpAny (model P w) A (match b with | true => rule "set.scan.the-table-gave-way" | false => pure ()) Q' E s₁ := fun b s₁ Q' q => by
      cases b
      · exact wpAny_pure q
      · exact wpAny_rule q
    have fin : ∀ h', Heap.SameBut a s.heap h' → SetG w h' a (k :: ks) → Q true { s with heap := h' } := fun h' sb r => hQ h' true sb (by rw [eK]; exact r)
    refine wpAny_bind (gw _ _ _ ?_)
    split
    · refine wpAny_bind ?_
      rw [hashByValue_scannable 8 hsc]
      refine wpAny_pure (setG_tail gw ho hex hd g1 pk1 nd1 hb1 ?_ ?_ ?_ fun h' sb r => ?_)
      · first
          | exact f1
          | (split <;> first | exact f1 | exact SetTable.fits_plain_off f1)
      · first
          | exact r1
          | (split <;> exact r1)
      · first
          | exact led1
          | (split <;> exact led1)
      · dsimp only
        exact wpAny_pure (fin h' sb r)
    · refine wpAny_bind (wpAny_pure ?_)
      simp only [↓reduceIte]
      refine setG_tail gw ho hex hd g1 pk1 nd1 hb1 f1 r1 led1 fun h' sb r => ?_
      dsimp only
      exact wpAny_pure (fin h' sb r)
/-- the keys of a list, none twice -/
def foldK (xs : List Key) : List Key := xs.foldl addK []
theorem foldK_snoc (xs : List Key) (k : Key) : foldK (xs ++ [k]) = addK (foldK xs) k := by
  unfold foldK
  rw [List.foldl_append]
  rfl
theorem addK_len (ks : List Key) (k : Key) : (addK ks k).length ≤ ks.length + 1 := by
  unfold addK
  split
  · omega
  · exact Nat.le_refl _
theorem mem_addK {ks : List Key} {k j : Key} : j ∈ addK ks k ↔ j ∈ ks ∨ j = k := by
  unfold addK
  split
  · rename_i h
    have := any_mem.1 h
    exact ⟨.inl, fun z => z.elim id fun e => e ▸ this⟩
  · rw [List.mem_cons]
    exact Or.comm
theorem foldK_facts : ∀ (xs ks : List Key), (xs.foldl addK ks).length ≤ ks.length + xs.length ∧ ∀ j, j ∈ xs.foldl addK ks ↔ j ∈ ks ∨ j ∈ xs
  | [], ks => ⟨Nat.le_refl _, fun j => by simp⟩
  | x :: xs, ks => by
    have ih := foldK_facts xs (addK ks x)
    have l := addK_len ks x
    refine ⟨by show (xs.foldl addK (addK ks x)).length ≤ _; have := ih.1; rw [List.length_cons]; omega, fun j => ?_⟩
    show j ∈ xs.foldl addK (addK ks x) ↔ _
    rw [ih.2 j, mem_addK, List.mem_cons]
    exact or_assoc
theorem foldK_len (xs : List Key) : (foldK xs).length ≤ xs.length := by
  have := (foldK_facts xs []).1
  simpa [foldK] using this
theorem mem_foldK {xs : List Key} {j : Key} : j ∈ foldK xs ↔ j ∈ xs := by
  have := (foldK_facts xs []).2 j
  simpa [foldK] using this
theorem setG_new {h : Heap} {a : Addr} (ho : h.get? a = some { cls := .type "set", dict := none, data := .set #[] 0 (.fresh 0 0 (!w.params.followText "set-order")) }) : SetG w h a [] := by
  refine ⟨_, #[], 0, _, ho, ⟨rfl, rfl, rfl⟩, rfl, fun e he => absurd he (by simp), by simp, List.nodup_nil, by decide, rfl, List.Pairwise.nil, ?_⟩
  cases hx : w.params.followText "set-order" with
  | true => exact .inl rfl
  | false => exact .inr rfl
theorem setG_update {I : Addr} {fp wr : List Addr} {G : Array GenState → Array GenState → Prop} {n : Nat} {Pv : Nat → Value → Prop} {St : Nat → Shared → Prop} {R : Result → Shared → Prop}
    (W : WalksS P w A.in1 I fp wr G n Pv St) (S : Addr) (hSf : S ∉ fp) (xs : List Key) (hn : n = xs.length) (hb : xs.length + 1 < scanBound) (hval : ∀ i v, Pv i v → ∃ k, xs[i]? = some k ∧ keyIs k v = true) :
    ∀ (m i : Nat) (s : Shared), n - i = m → i ≤ n → St i s → SetG w s.heap S (foldK (xs.take i)) →
      (∀ s', Moved (S :: wr) G s s' → SetG w s'.heap S (foldK xs) → R (.ok (.ret .none)) s') →
      codeAny (model P w) A (.builtin "set.update.loop" ⟨[.ref S, .ref I], []⟩) R s := by
  have notW : S ∉ wr := fun z => hSf (W.sub _ z)
  intro m
  induction m with
  | zero =>
    intro i s hm hi hst hS hR
    obtain rfl : i = n := by omega
    rw [show xs.take i = xs from List.take_of_length_le (by omega)] at hS
    refine codeAny_builtin F.entry_set_update_loop ?_
    rw [Around.under_plainId F.plain_set_update_loop _]
    show wpAny _ A.in1 (pyNext (.ref I) >>= _) _ _ s
    exact wpAny_bind (W.done s _ _ hst fun s' mv => wpAny_pure (hR s' (mv.mono fun b hb => List.mem_cons_of_mem _ hb) (hS.at fun o e => mv.heap S o notW e)))
  | succ m ih =>
    intro i s hm hi hst hS hR
    have lt : i < n := by omega
    refine codeAny_builtin F.entry_set_update_loop ?_
    rw [Around.under_plainId F.plain_set_update_loop _]
    show wpAny _ A.in1 (pyNext (.ref I) >>= _) _ _ s
    refine wpAny_bind (W.item i s _ _ lt hst fun v s' hP hst' mv => ?_)
    obtain ⟨k, hk, hkey⟩ := hval i v hP
    have sc : v.scannable = true := by
      rcases keyIs_shape hkey with ⟨i, t, rfl, rfl⟩ | ⟨x, t, rfl, rfl⟩ <;> rfl
    have hS' : SetG w s'.heap S (foldK (xs.take i)) := hS.at fun o e => mv.heap S o notW e
    have len := foldK_len (xs.take i)
    rw [List.length_take] at len
    show wpAny _ A.in1 (holding [v] (setAdd S v) >>= _) _ _ s'
    refine wpAny_bind (wpAny_holding ?_)
    unfold setAdd
    refine wpAny_holding (wpAny_bind ((mixKind P w).pyHash (k := k) hkey ?_))
    refine setG_add (s := { s' with toks := s'.toks + 1 }) hS' hkey (by omega) fun h' b sb hS2 => ?_
    have e3 : addK (foldK (xs.take i)) k = foldK (xs.take (i + 1)) := by
      rw [List.take_add_one, hk]
      exact (foldK_snoc _ _).symm
    rw [e3] at hS2
    refine wpAny_pure ⟨plainId_quiet F.plain_set_update_loop _, ih (i + 1) _ (by omega) lt (W.frame _ s' _ _ hst' (Nat.le_succ _) fun c hc o e => ?_) hS2 fun s'' mv2 r => ?_⟩
    · rw [sb.2 c (by rintro rfl; exact hSf hc)]
      exact e
    · refine hR s'' (Moved.trans W.gtrans ((mv.mono fun b hb => List.mem_cons_of_mem _ hb).then_heap (Nat.le_succ _) fun c o hc e => ?_) mv2) r
      rw [sb.2 c (by rintro rfl; exact hc List.mem_cons_self)]
      exact e
/-- the new set, its table as the setting says -/
abbrev set0 (w : World) : Obj := { cls := .type "set", dict := none, data := .set #[] 0 (.fresh 0 0 (!w.params.followText "set-order")) }
set_option maxHeartbeats 8000000 in
/-- set(xs), a list of ints and texts -/
theorem call_setG {l : Addr} {items : Array Value} (xs : List Key) {Q : Value → Shared → Prop} (hh : A.handled = none) (hl : s.heap.IsList l items) (hn : items.size = xs.length) (hv : ∀ (i : Nat) (v : Value), items[i]? = some v → ∃ k, xs[i]? = some k ∧ keyIs k v = true) (hb : xs.length + 1 < scanBound)
    (h : ∀ (h' : Heap) (tk : Nat), SetG w h' s.heap.objs.size (foldK xs) → (∀ b o, s.heap.get? b = some o → h'.get? b = some o) → Q (.ref s.heap.objs.size) { s with heap := h', toks := tk }) :
    wpAny (model P w) A (call (.type "set") [.ref l]) Q E s := by
  obtain ⟨c, tl, hmro⟩ := F.called_set.mro
  have made := F.called_set.made
  have sub := F.called_set.sub
  have ct := F.typeCall_set_1 (.ref l)
  have nt := F.called_set.notType
  have cc := F.called_set.canCreate
  refine wpAny_call (codeAny_of_tree ?_)
  show wpAny _ _ (callAny (.type "set") _) _ _ _
  refine wpAny_pure ⟨Code.quiet_builtin _ (by decide +kernel), codeAny_builtin F.entry_type_call ?_⟩
  rw [Around.under_plain (weight_type_call_type "set" [.ref l] []) rfl]
  repeat (any_goals (first | assumption | wp_step))
  refine codeAny_mono (code_set_led1 (.ref l) (E := E) (Q₁ := fun obj s₁ => obj = .ref s.heap.objs.size ∧ s₁ = { s with heap := s.heap.push (set0 w) }) ⟨rfl, rfl⟩) fun r s₁ hr => ?_
  cases r with
  | error e => exact hr
  | ok fl =>
    cases fl with
    | ret obj =>
      obtain ⟨rfl, rfl⟩ := hr
      have new : (s.heap.push (set0 w)).get? s.heap.objs.size = some (set0 w) := Heap.get?_push_size _ rfl
      have ty : Shared.TypeIs { s with heap := s.heap.push (set0 w) } (.ref s.heap.objs.size) "set" := ⟨_, new, rfl⟩
      have il := F.called_set.init.lookup
      have ib := F.called_set.init.bind (.ref s.heap.objs.size)
      repeat (any_goals (first | assumption | wp_step))
      refine codeAny_mono (codeAny_call_builtin (R := wants (fun r s₂ => r = .none ∧ ∃ h' tk, s₂ = { s with heap := h', toks := tk } ∧ SetG w h' s.heap.objs.size (foldK xs) ∧ (∀ b o, s.heap.get? b = some o → h'.get? b = some o)) E)
        F.called_set.init.plain F.entry_set_init (check_set_init_1 ty ?_)) fun r₂ s₂ hr₂ => ?_
      · obtain ⟨ol, hol, hcl, nl, hdl⟩ := hl
        obtain ⟨ocls, odict, odata, oslots⟩ := ol
        simp only at hcl hdl
        subst hcl
        subst hdl
        have there : (s.heap.push (set0 w)).get? l = some { cls := .type "list", dict := odict, data := .seq items nl, slots := oslots } := Heap.get?_push_of_some _ hol
        have nos := F.sub_list_set
        have nof := F.sub_list_frozenset
        have nod : (Value.type "list" == Value.type "dict") = false := by decide
        have is1 : (s.heap.push (set0 w)).IsList l items := ⟨_, there, rfl, nl, rfl⟩
        unfold Builtin.«set.__init__» noKeywords Builtin.Frozenset.updateFrom
        generalize hPI : pyIter = PI
        wp_walk
        subst hPI
        refine wpAny_pyIter_list is1 (wpAny_bind (wpAny_runValue ?_))
        have lt : l < s.heap.objs.size := Heap.lt_size hol
        have hh3 : A.in1.in1.in1.handled = none := by simp [hh]
        have z1 : (s.heap.push (set0 w)).objs.size = s.heap.objs.size + 1 := Heap.size_push ..
        have ne : l ≠ (s.heap.push (set0 w)).objs.size := by
          rw [z1]
          exact Nat.ne_of_lt (Nat.lt_succ_of_lt lt)
        have out : s.heap.objs.size ∉ [(s.heap.push (set0 w)).objs.size, l] := by
          rw [z1]
          intro hm
          rcases List.mem_cons.mp hm with e | hm
          · exact absurd e (Nat.ne_of_lt (Nat.lt_succ_self _))
          · exact absurd (List.mem_singleton.mp hm) (Nat.ne_of_gt lt)
        refine setG_update ((Walks.list hh3 _ l ne items).toS) s.heap.objs.size out xs hn hb (fun i v hiv => hv i v hiv) (items.size - 0) 0 _ (by omega) (Nat.zero_le _)
          ⟨⟨_, Heap.get?_push_size _ rfl, rfl, rfl⟩, is1.push _⟩ ?hS0 ?hR
        case hS0 => exact setG_new (Heap.get?_push_of_some _ new)
        case hR =>
          intro s' mv hS'
          obtain ⟨h', g2, d', tk', os'⟩ := s'
          cases (show g2 = s.gens from mv.gens)
          cases (show d' = s.drawn from mv.drawn)
          cases (show os' = s.os from mv.os)
          show wpAny _ _ _ _ _ _
          refine wpAny_pure ?_
          show wpAny _ _ (ret Value.none) _ _ _
          refine wpAny_pure ⟨rfl, h', tk', rfl, hS', fun b o e => ?_⟩
          have b0 : b < s.heap.objs.size := Heap.lt_size e
          refine mv.heap b o (fun hm => ?_) (Heap.get?_push_of_some _ (Heap.get?_push_of_some _ e))
          rcases List.mem_cons.mp hm with q | hm
          · exact absurd q (Nat.ne_of_lt b0)
          · have q := List.mem_singleton.mp hm
            rw [q, z1] at b0
            exact absurd b0 (Nat.not_lt.mpr (Nat.le_succ _))
      · cases r₂ with
        | error e => exact hr₂
        | ok fl₂ =>
          cases fl₂ with
          | ret r =>
            obtain ⟨rfl, h', tk, rfl, hS', hk'⟩ := hr₂
            repeat (any_goals (first | assumption | wp_step))
            exact h _ _ hS' hk'
          | _ => exact hr₂.elim
    | _ => exact hr.elim
end
end Qs
namespace Qs
open PySem PySem.Spec PyProof.Rows L2
section
variable {P : Program} {w : World} {A : Around} {E : Value → Shared → Prop} {s : Shared} {a : Addr} {ks : List Key}
def keyN : Key → Int | .inl i => i | .inr _ => 0
def keyT : Key → Str | .inr x => x | .inl _ => ⟨#[]⟩
theorem keyN_of (e : Int × Value) : keyN (keyK e) = SrtO.iv e.2 := by
  obtain ⟨a, v⟩ := e
  cases v <;> rfl
theorem keyT_of (e : Int × Value) : keyT (keyK e) = strOf e.2 := by
  obtain ⟨a, v⟩ := e
  cases v <;> rfl
theorem perm_map {β : Type} {f : Key → β} {g : Value → β} (h : ∀ e : Int × Value, f (keyK e) = g e.2) {l : List (Int × Value)} {vs : List Value} (p : (l.map keyK).Perm ks) (pm : vs.Perm (l.map (·.2))) : (vs.map g).Perm (ks.map f) := by
  have e : (l.map (·.2)).map g = (l.map keyK).map f := by
    rw [List.map_map, List.map_map]
    exact List.map_congr_left fun x _ => (h x).symm
  have q := pm.map g
  rw [e] at q
  exact q.trans (p.map f)
theorem good_int {l : List (Int × Value)} (g : ∀ e ∈ l, GoodK w e) {ns : List Int} (p : (l.map keyK).Perm (ns.map Sum.inl)) {vs : List Value} (pm : vs.Perm (l.map (·.2))) : ∀ v ∈ vs, ∃ i t, v = Value.int i t := by
  intro v hv
  obtain ⟨e, he, rfl⟩ := List.mem_map.mp (pm.mem_iff.mp hv)
  obtain ⟨k, hk, _⟩ := g e he
  have m : k ∈ ns.map Sum.inl := p.mem_iff.mp (List.mem_map.mpr ⟨e, he, keyK_is hk⟩)
  obtain ⟨n, _, rfl⟩ := List.mem_map.mp m
  rcases keyIs_shape hk with ⟨i, t, _, e2⟩ | ⟨x, t, e1, _⟩
  · exact ⟨i, t, e2⟩
  · cases e1
theorem good_str {l : List (Int × Value)} (g : ∀ e ∈ l, GoodK w e) {ns : List Str} (p : (l.map keyK).Perm (ns.map Sum.inr)) {vs : List Value} (pm : vs.Perm (l.map (·.2))) : ∀ v ∈ vs, ∃ i t, v = Value.str i t := by
  intro v hv
  obtain ⟨e, he, rfl⟩ := List.mem_map.mp (pm.mem_iff.mp hv)
  obtain ⟨k, hk, _⟩ := g e he
  have m : k ∈ ns.map Sum.inr := p.mem_iff.mp (List.mem_map.mpr ⟨e, he, keyK_is hk⟩)
  obtain ⟨n, _, rfl⟩ := List.mem_map.mp m
  rcases keyIs_shape hk with ⟨i, t, e1, _⟩ | ⟨x, t, _, e2⟩
  · cases e1
  · exact ⟨x, t, e2⟩
theorem ofBound {n : Nat} (h : n < scanBound) : n ≤ sizeLine := fits_of_scanBound h
theorem sorted_setI {ns : List Int} {Q : Value → Shared → Prop} (R : SetG w s.heap a (ns.map Sum.inl)) (hh : A.handled = none)
    (hQ : ∀ s' p (out : Array Value) (c : Nat) (ns' : List Int), (∀ b o, s.heap.get? b = some o → s'.heap.get? b = some o) → s'.gens = s.gens → s'.os = s.os → s.heap.objs.size ≤ p →
      s'.heap.get? p = some (seqObj "list" out c) → IntsAre out.toList ns' → ns'.Perm ns → ns'.Pairwise (· ≤ ·) → Q (.ref p) s') :
    wpAny (model P w) A (call (.builtin "sorted") [.ref a]) Q E s := by
  obtain ⟨o, es, ep, t, ho, hex, hd, g, pk, nd, hb, hf, hr, hl⟩ := R
  refine Calls.call_function_entry kind_sorted plain_sorted entry_sorted (args_sorted1 _) ?_
  unfold Builtin.«sorted»
  refine wpAny_bind (m := checkCount "sorted" 1 1 _) (wpAny_pure (wpAny_bind (collect_set (A := A.in1) hh ⟨o, ho, hex.1, hd⟩ hf hb hr hl fun s1 vs k1 hz g1 o1 pm => ?_)))
  have lvs : vs.length ≤ sizeLine := by
    rw [pm.length_eq, List.length_map, Array.length_toList]
    exact ofBound hb
  have isI : IntsAre vs (vs.map SrtO.iv) := SrtO.ints_iv (good_int g pk pm)
  have pI : (vs.map SrtO.iv).Perm ns := by
    have q := perm_map keyN_of pk pm
    rw [List.map_map, show (keyN ∘ Sum.inl : Int → Int) = id from rfl, List.map_id] at q
    exact q
  refine wpAny_bind (wpAny_newList ?_ lvs)
  have hoL : (s1.heap.push (seqObj "list" vs.toArray 0)).get? s1.heap.objs.size = some (seqObj "list" vs.toArray 0) := Heap.get?_push_size _ rfl
  refine wpAny_bind (wpAny_holding (wpAny_call_entry slot_list_sort ⟨_, hoL, rfl⟩ entry_list_sort (list_sort_treeAny hoL isI lvs fun out ns' a1 a2 a3 => ⟨_, rfl, ?_⟩) (args_list_sort _)))
  obtain ⟨c, hc⟩ := sortedHeap_at (vs := vs) (out := out) hoL
  refine wpAny_pure ⟨_, rfl, hQ _ s1.heap.objs.size out c ns' (fun b u e => ?_) g1 o1 hz hc a1 (a2.trans pI) a3⟩
  have q := k1 b u e
  have lt := Heap.lt_size q
  show (sortedHeap (s1.heap.push (seqObj "list" vs.toArray 0)) s1.heap.objs.size vs out).get? b = some u
  rw [sortedHeap_old (Nat.ne_of_lt lt) (by rw [size_push']; exact Nat.lt_succ_of_lt lt)]
  exact Heap.get?_push_of_some _ q
theorem sorted_setS {ns : List Str} {Q : Value → Shared → Prop} (R : SetG w s.heap a (ns.map Sum.inr)) (hh : A.handled = none)
    (hQ : ∀ s' p (out : Array Value) (c : Nat) (ns' : List Str), (∀ b o, s.heap.get? b = some o → s'.heap.get? b = some o) → s'.gens = s.gens → s'.os = s.os → s.heap.objs.size ≤ p →
      s'.heap.get? p = some (seqObj "list" out c) → StrsAre out.toList ns' → ns'.Perm ns → sortedS ns' = true → Q (.ref p) s') :
    wpAny (model P w) A (call (.builtin "sorted") [.ref a]) Q E s := by
  obtain ⟨o, es, ep, t, ho, hex, hd, g, pk, nd, hb, hf, hr, hl⟩ := R
  refine Calls.call_function_entry kind_sorted plain_sorted entry_sorted (args_sorted1 _) ?_
  unfold Builtin.«sorted»
  refine wpAny_bind (m := checkCount "sorted" 1 1 _) (wpAny_pure (wpAny_bind (collect_set (A := A.in1) hh ⟨o, ho, hex.1, hd⟩ hf hb hr hl fun s1 vs k1 hz g1 o1 pm => ?_)))
  have lvs : vs.length ≤ sizeLine := by
    rw [pm.length_eq, List.length_map, Array.length_toList]
    exact ofBound hb
  have isS : StrsAre vs (vs.map strOf) := strsAre_map vs (good_str g pk pm)
  have pS : (vs.map strOf).Perm ns := by
    have q := perm_map keyT_of pk pm
    rw [List.map_map, show (keyT ∘ Sum.inr : Str → Str) = id from rfl, List.map_id] at q
    exact q
  refine wpAny_bind (wpAny_newList ?_ lvs)
  have hoL : (s1.heap.push (seqObj "list" vs.toArray 0)).get? s1.heap.objs.size = some (seqObj "list" vs.toArray 0) := Heap.get?_push_size _ rfl
  refine wpAny_bind (wpAny_holding (wpAny_call_entry slot_list_sort ⟨_, hoL, rfl⟩ entry_list_sort (list_sort_treeKAny strKind_oneLt hoL isS.keysOf (fun v₁ v₂ rest e => keyKind_strs (by rw [← e]; exact isS)) lvs fun st' hp hs => ?_) (args_list_sort _)))
  obtain ⟨ns', a1, a2, a3⟩ := sorted_out_str isS hp hs
  refine ⟨_, rfl, ?_⟩
  obtain ⟨c, hc⟩ := sortedHeap_at (vs := vs) (out := (arrOf st').map (·.2)) hoL
  refine wpAny_pure ⟨_, rfl, hQ _ s1.heap.objs.size _ c ns' (fun b u e => ?_) g1 o1 hz hc a1 (a2.trans pS) a3⟩
  have q := k1 b u e
  have lt := Heap.lt_size q
  show (sortedHeap (s1.heap.push (seqObj "list" vs.toArray 0)) s1.heap.objs.size vs _).get? b = some u
  rw [sortedHeap_old (Nat.ne_of_lt lt) (by rw [size_push']; exact Nat.lt_succ_of_lt lt)]
  exact Heap.get?_push_of_some _ q
end
/-! over the layer: the set at a -/
def SetV (w : World) (a : Addr) (ks : List Key) : HO := .ext fun h => SetG w h a ks
theorem setV_ok {w : World} {P : Program} {H : Hp} {h : Heap} {a : Addr} {ks : List Key} (R : SetG w h a ks) : ObjOk P w H h a (SetV w a ks) := by
  have at' := R
  obtain ⟨o, es, ep, t, ho, r⟩ := R
  exact ⟨at', ⟨o, ho⟩, fun h1 h2 (p : SetG w h1 a ks) k => p.at fun o e => k o e⟩
section
variable {X : Cx}
def rSetL (K : PySem.W.Frag) (w : World) : List V → Hp → VK → Prop := fun vs H Q => ∃ (a : Addr) (xs : List Key), vs = [.ref a] ∧ SqL K H a (xs.map kV) ∧ xs.length < 4000 ∧ ∀ p H', H p = none → H' = upd H p (SetV w p (foldK xs)) → Q (.ref p) H'
theorem keyIs_kV {k : Key} {v : Value} (r : RelV (kV k) v) : keyIs k v = true := by
  cases k with
  | inl i => obtain ⟨t, rfl⟩ := r; exact keyIs_int i t
  | inr x => obtain ⟨t, rfl⟩ := r; exact keyIs_str x t
theorem cr_setL (hc : X.calm = true) : CallR X (.type "set") (rSetL X.K X.w) := by
  intro pins s σ H vs us Q I r h
  obtain ⟨a, xs, rfl, hs, hb, q⟩ := h
  obtain ⟨its, rv, hl, hz⟩ := I.list hs
  rw [Vals.ref1 r]
  have ln := rv.length
  rw [List.length_map] at ln
  refine call_setG xs (I.ok.hd hc) hl.isList (by rw [List.size_toArray]; exact ln.symm) (fun i v hv => ?_) (by unfold scanBound; omega) fun h' tk R k => ?_
  · have hv' : its[i]? = some v := by simpa using hv
    cases e : xs[i]? with
    | none =>
      have q1 := List.getElem?_eq_none_iff.mp e
      have q2 := (List.getElem?_eq_some_iff.mp hv').1
      omega
    | some x =>
      obtain ⟨u, e2, ru⟩ := rv.get (i := i) (x := kV x) (by rw [List.getElem?_map, e]; rfl)
      rw [hv'] at e2
      cases e2
      exact ⟨x, rfl, keyIs_kV ru⟩
  · have fresh := I.hok.fresh (Nat.le_refl s.heap.objs.size)
    exact ⟨.ref _, _, I.laid (t' := tk) k (Nat.le_refl _) (setV_ok R), rfl, q _ _ fresh rfl⟩
def rSortSet (w : World) : List V → Hp → VK → Prop := fun vs H Q => ∃ (a : Addr), vs = [.ref a] ∧
  ((∃ ns : List Int, H a = some (SetV w a (ns.map Sum.inl)) ∧ ∀ (ns' : List Int) p, ns'.Perm ns → ns'.Pairwise (· ≤ ·) → H p = none → Q (.ref p) (upd H p (.lst (ns'.map V.int)))) ∨
   (∃ ns : List Str, H a = some (SetV w a (ns.map Sum.inr)) ∧ ∀ (ns' : List Str) p, ns'.Perm ns → sortedS ns' = true → H p = none → Q (.ref p) (upd H p (.lst (ns'.map V.str)))))
theorem new_at {pins : List (Addr × Obj)} {σ : L2.St} {H : Hp} {s s' : Shared} {p : Addr} {o : HO} {Q : VK} (I : Inv X pins σ H s) (hp : s.heap.objs.size ≤ p) (k : ∀ b u, s.heap.get? b = some u → s'.heap.get? b = some u) (g : s'.gens = s.gens) (os : s'.os = s.os)
    (ok : ObjOk X.prog X.w (upd H p o) s'.heap p o) (q : H p = none → Q (.ref p) (upd H p o)) : EP X pins σ Q (.ref p) s' := by
  have fr : H p = none := I.hok.fresh hp
  have J := I.call (g' := s'.gens) (t' := s'.toks) (d' := s'.drawn) (ch := []) (Un.laid k hp fr) (I.hok.laid k hp ok) (by rw [g]; exact I.bare) (fun _ z => nomatch z)
  have e : { s with heap := s'.heap, gens := s'.gens, drawn := s'.drawn, toks := s'.toks } = s' := by
    obtain ⟨h1, g1, d1, t1, o1⟩ := s'
    obtain ⟨h2, g2, d2, t2, o2⟩ := s
    cases (show o1 = o2 from os)
    rfl
  rw [e] at J
  exact ⟨.ref p, _, J, rfl, q fr⟩
theorem cr_sortSet (hc : X.calm = true) : CallR X (.builtin "sorted") (rSortSet X.w) := by
  intro pins s σ H vs us Q I r h
  obtain ⟨a, rfl, h⟩ := h
  rw [Vals.ref1 r]
  rcases h with ⟨ns, ha, q⟩ | ⟨ns, ha, q⟩
  · have R : SetG X.w s.heap a (ns.map Sum.inl) := (I.hok a _ ha).1
    refine sorted_setI R (I.ok.hd hc) fun s' p out c ns' k g o1 hp at' h1 h2 h3 => ?_
    have len : (ns'.map V.int).length ≤ sizeLine := by
      rw [List.length_map, h2.length_eq]
      obtain ⟨o, es, ep, t, _, _, _, _, pk, _, hb, _⟩ := R
      have e := pk.length_eq
      rw [List.length_map, List.length_map, Array.length_toList] at e
      rw [← e]
      exact ofBound hb
    exact new_at (o := .lst (ns'.map V.int)) I hp k g o1 ⟨len, out.toList, c, vals_of_ints h1, at'⟩ (q ns' p h2 h3)
  · have R : SetG X.w s.heap a (ns.map Sum.inr) := (I.hok a _ ha).1
    refine sorted_setS R (I.ok.hd hc) fun s' p out c ns' k g o1 hp at' h1 h2 h3 => ?_
    have len : (ns'.map V.str).length ≤ sizeLine := by
      rw [List.length_map, h2.length_eq]
      obtain ⟨o, es, ep, t, _, _, _, _, pk, _, hb, _⟩ := R
      have e := pk.length_eq
      rw [List.length_map, List.length_map, Array.length_toList] at e
      rw [← e]
      exact ofBound hb
    exact new_at (o := .lst (ns'.map V.str)) I hp k g o1 ⟨len, out.toList, c, vals_of_strs h1, at'⟩ (q ns' p h2 h3)
end
end Qs
namespace Qa
open PySem PySem.Spec PyProof.Rows L2
/-! sorted, of lists and sets of keys -/
def leS (a b : Str) : Prop := ltCps b.cps.toList a.cps.toList = false
theorem leS_iff {a b : Str} : leS a b ↔ ¬ b.cps.toList < a.cps.toList := by
  unfold leS
  rw [ltCps_eq, decide_eq_false_iff_not]
theorem leS_trans {a b c : Str} (h : leS a b) (h' : leS b c) : leS a c := by
  rw [leS_iff] at *
  exact List.not_lt.mpr (List.le_trans (List.not_lt.mp h) (List.not_lt.mp h'))
theorem leS_anti {a b : Str} (h : leS a b) (h' : leS b a) : a = b := by
  rw [leS_iff] at *
  have e : a.cps.toList = b.cps.toList := List.le_antisymm (List.not_lt.mp h) (List.not_lt.mp h')
  obtain ⟨x⟩ := a
  obtain ⟨y⟩ := b
  exact congrArg Str.mk (Array.toList_inj.mp e)
theorem pw_rising : ∀ (l : List Str) (p : Str), risingS p l = true → (p :: l).Pairwise leS
  | [], p, _ => by simp
  | x :: r, p, h => by
    have h' : leS p x ∧ risingS x r = true := by
      have : (!ltCps x.cps.toList p.cps.toList && risingS x r) = true := h
      simpa [leS] using this
    have ih := pw_rising r x h'.2
    refine List.pairwise_cons.mpr ⟨fun y hy => ?_, ih⟩
    rcases List.mem_cons.mp hy with rfl | hy
    · exact h'.1
    · exact leS_trans h'.1 ((List.pairwise_cons.mp ih).1 y hy)
theorem pw_sorted {l : List Str} (h : sortedS l = true) : l.Pairwise leS := by
  cases l with
  | nil => exact .nil
  | cons x r => exact pw_rising r x h
def srt (ks : List Key) : Prop := (∃ ns : List Int, ks = ns.map Sum.inl ∧ ns.Pairwise (· ≤ ·)) ∨ (∃ xs : List Str, ks = xs.map Sum.inr ∧ sortedS xs = true)
def hom (ks : List Key) : Prop := (∃ ns : List Int, ks = ns.map Sum.inl) ∨ (∃ xs : List Str, ks = xs.map Sum.inr)
theorem leK : ∀ {ks : List Key}, srt ks → ks.Pairwise (fun a b => match a, b with | .inl i, .inl j => i ≤ j | .inr x, .inr y => leS x y | _, _ => False) := by
  intro ks h
  rcases h with ⟨ns, rfl, h⟩ | ⟨xs, rfl, h⟩
  · exact List.pairwise_map.mpr h
  · exact List.pairwise_map.mpr (pw_sorted h)
theorem srt_uniq {ks ls : List Key} (p : ks.Perm ls) (a : srt ks) (b : srt ls) : ks = ls := by
  refine p.eq_of_pairwise (fun x y _ _ h h' => ?_) (leK a) (leK b)
  cases x with
  | inl i =>
    cases y with
    | inl j => exact congrArg Sum.inl (Int.le_antisymm h h')
    | inr y => exact h.elim
  | inr x =>
    cases y with
    | inl j => exact h.elim
    | inr y => exact congrArg Sum.inr (leS_anti h h')
def rSortedSA (K : PySem.W.Frag) : List V → Hp → VK → Prop := fun vs H Q => ∃ (a : Addr) (xs : List Str), vs = [V.ref a] ∧ SqL K H a (xs.map V.str) ∧
  ∀ (ys : List Str) (p : Addr), ys.Perm xs → sortedS ys = true → H p = none → Q (.ref p) (upd H p (.lst (ys.map V.str)))
section
variable {X : Cx}
theorem cr_sortedSA : CallR X (.builtin "sorted") (rSortedSA X.K) := by
  intro pins s σ H vs us Q I r h
  obtain ⟨a, xs, rfl, hs, q⟩ := h
  obtain ⟨its, rv, hl, hz⟩ := I.list hs
  rw [Vals.ref1 r]
  have hlen0 := rv.length
  have hz' : xs.length ≤ sizeLine := by rw [List.length_map] at hz; exact hz
  refine PyProof.Rows.sorted_strsAny hl.isList rv.strs (by rw [← hlen0]; exact hz) fun out ys h1 h2 h3 => ?_
  obtain ⟨ep, he'⟩ := PyProof.Rows.sortedAll_at s.heap its out
  have hlen : (ys.map V.str).length ≤ sizeLine := by rw [List.length_map, h2.length_eq]; exact hz'
  exact ⟨.ref _, upd H (s.heap.objs.size + 1) (.lst (ys.map V.str)), I.laid (t' := s.toks) (fun _ _ => PyProof.Rows.sortedAll_old) (Nat.le_succ _) ⟨hlen, out.toList, ep, vals_of_strs h1, he'⟩, rfl, q ys _ h2 h3 (I.hok.fresh (Nat.le_succ _))⟩
def rSortedX (K : PySem.W.Frag) (w : World) : List V → Hp → VK → Prop := fun vs H Q => (rSortedI K vs H Q ∨ rSortedSA K vs H Q) ∨ Qs.rSortSet w vs H Q
theorem cr_sortedA (hc : X.calm = true) : CallR X (.builtin "sorted") (rSortedX X.K X.w) := (cr_sortedI.or cr_sortedSA).or (Qs.cr_sortSet hc)
end
section
variable {K : PySem.W.Frag} {w : World} {H : Hp} {Q : VK} {a : Addr} {ks : List Key}
theorem rd_sortK (h : SqL K H a (ks.map kV)) (hm : hom ks) (q : ∀ ks' p H', ks'.Perm ks → srt ks' → H p = none → Ex H H' → H' p = some (.lst (ks'.map kV)) → Q (.ref p) H') : rSortedX K w [.ref a] H Q := by
  rcases hm with ⟨ns, rfl⟩ | ⟨xs, rfl⟩
  · rw [List.map_map] at h
    refine .inl (.inl ⟨a, ns, rfl, h, fun ns' p h1 h2 hp => q (ns'.map Sum.inl) p _ (h1.map _) (.inl ⟨ns', rfl, h2⟩) hp (Evl.Ex.new hp) ?_⟩)
    rw [upd_same, List.map_map]
    rfl
  · rw [List.map_map] at h
    refine .inl (.inr ⟨a, xs, rfl, h, fun ns' p h1 h2 hp => q (ns'.map Sum.inr) p _ (h1.map _) (.inr ⟨ns', rfl, h2⟩) hp (Evl.Ex.new hp) ?_⟩)
    rw [upd_same, List.map_map]
    rfl
theorem rd_sortSetK (h : H a = some (Qs.SetV w a ks)) (hm : hom ks) (q : ∀ ks' p H', ks'.Perm ks → srt ks' → H p = none → Ex H H' → H' p = some (.lst (ks'.map kV)) → Q (.ref p) H') : rSortedX K w [.ref a] H Q := by
  rcases hm with ⟨ns, rfl⟩ | ⟨xs, rfl⟩
  · refine .inr ⟨a, rfl, .inl ⟨ns, h, fun ns' p h1 h2 hp => q (ns'.map Sum.inl) p _ (h1.map _) (.inl ⟨ns', rfl, h2⟩) hp (Evl.Ex.new hp) ?_⟩⟩
    rw [upd_same, List.map_map]
    rfl
  · refine .inr ⟨a, rfl, .inr ⟨xs, h, fun ns' p h1 h2 hp => q (ns'.map Sum.inr) p _ (h1.map _) (.inr ⟨ns', rfl, h2⟩) hp (Evl.Ex.new hp) ?_⟩⟩
    rw [upd_same, List.map_map]
    rfl
/-- a key in a list of keys -/
def memK (k : Key) (ks : List Key) : Bool := ks.any fun j => decide (j = k)
theorem memK_iff {k : Key} {ks : List Key} : memK k ks = true ↔ k ∈ ks := Qs.any_mem
theorem inV_key (k : Key) : ∀ ks : List Key, inV (kV k) (ks.map kV) = memK k ks
  | [] => rfl
  | j :: ks => by
    have ih := inV_key k ks
    unfold inV at ih ⊢
    rw [List.map_cons, List.any_cons, ih]
    have e : eqV (kV j) (kV k) = decide (j = k) := by
      cases j with
      | inl a =>
        cases k with
        | inl b =>
          show (a == b) = _
          rw [Bool.eq_iff_iff]; simp
        | inr b => rfl
      | inr a =>
        cases k with
        | inl b => rfl
        | inr b =>
          show (a == b) = _
          rw [Bool.eq_iff_iff]; simp
    rw [e]
    rfl
theorem flat_keys (ks : List Key) : (ks.map kV).all flatV = true := by
  rw [List.all_eq_true]
  intro v hv
  obtain ⟨k, _, rfl⟩ := List.mem_map.mp hv
  cases k <;> rfl
theorem rd_outK {k : Key} (h : SqL K H a (ks.map kV)) (q : Q (.bl (!memK k ks)) H) : rIn K true (kV k) (.ref a) H Q := by
  refine rd_outL h (by cases k <;> rfl) (flat_keys ks) ?_
  rw [inV_key]
  exact q
theorem rd_setK {xs : List Key} (h : SqL K H a (xs.map kV)) (hl : xs.length < 4000) (q : ∀ p H', H p = none → Ex H H' → H' p = some (Qs.SetV w p (Qs.foldK xs)) → Q (.ref p) H') : Qs.rSetL K w [.ref a] H Q :=
  ⟨a, xs, rfl, h, hl, fun p H' hp e => q p H' hp (by rw [e]; exact Evl.Ex.new hp) (by rw [e]; exact upd_same)⟩
theorem rd_extend {l b : Addr} {xs zs : List V} (h : H l = some (.lst xs)) (h' : H b = some (.lst zs)) (hl : xs.length + zs.length ≤ 4000) (q : Q .non (upd H l (.lst (xs ++ zs)))) : rExtend (.ref l) [.ref b] H Q := ⟨l, b, xs, zs, rfl, rfl, h, h', by rw [sizeLine_eq]; omega, q⟩
end
end Qa
open PySem PySem.Spec PyProof.Rows L2 Qa
/-! rules: what is one, what it names; no program here -/
namespace Qr
section
variable {K : PySem.W.Frag} {H : Hp} {Q : VK}
def isWhole : T → Bool | .int _ => true | _ => false
def within (t : T) (lo hi : Int) : Bool := match t with | .int i => decide (lo ≤ i) && decide (i ≤ hi) | _ => false
def isNum (t : T) : Bool := within t (-1000000000) 1000000000
def isPct (t : T) : Bool := within t 0 100
def isPlace (t : T) (n : Int) : Bool := within t 0 (n - 1)
def letters : Str := "abcdefghijklmnopqrstuvwxyz"
def inLet (c : Nat) : Bool := decide (c ∈ letters.cps.toList)
def isWord : T → Bool
  | .str s => decide (1 ≤ s.length) && decide (s.length ≤ 8) && s.cps.toList.all inLet
  | _ => false
theorem isWord_str (s : Str) : isWord (.str s) = (decide (1 ≤ s.length) && decide (s.length ≤ 8) && s.cps.toList.all inLet) := rfl
def tPARTS : List (Str × List Str) := [("number", ["number"]), ("paper", ["word"]), ("line", ["line"]), ("earlier", ["line"]), ("add", ["rule", "rule"]), ("take", ["rule", "rule"]), ("least", ["rule", "rule"]), ("most", ["rule", "rule"]), ("part", ["rule", "percent"]), ("table", ["table", "rule"]), ("where", ["rule", "rule", "rule"]), ("choose", ["choice", "rule", "rule"])]
def kindsOf (x : Str) : Option (List Str) := tPARTS.lookup x
def hasForm : T → Bool
  | .tup (.str x :: ts) => match kindsOf x with | some ks => decide (ts.length = ks.length) | none => false
  | _ => false
theorem hasForm_str (x : Str) (ts : List T) : hasForm (.tup (.str x :: ts)) = match kindsOf x with | some ks => decide (ts.length = ks.length) | none => false := rfl
structure Sz where
  l : Int
  tb : Int
  ch : Int
def sizeOf' (s : Sz) (k : Str) : Int := if k = "line" then s.l else if k = "table" then s.tb else s.ch
def partOk (rec : T → Bool) (s : Sz) (k : Str) (t : T) : Bool :=
  if k = "rule" then rec t else if k = "number" then isNum t else if k = "percent" then isPct t else if k = "word" then isWord t else isPlace t (sizeOf' s k)
def zipOk (f : Str → T → Bool) : List T → List Str → Bool
  | t :: ts, k :: ks => f k t && zipOk f ts ks
  | _, _ => true
def isRule (s : Sz) : Nat → T → Bool
  | 0, _ => false
  | n + 1, t => hasForm t && match t with
    | .tup (.str x :: ts) => (match kindsOf x with | some ks => zipOk (partOk (isRule s n) s) ts ks | none => false)
    | _ => false
def kinds : List Str := ["number", "word", "line", "rule", "percent", "table", "choice"]
theorem zipOk_drop (f : Str → T → Bool) : ∀ (ts : List T) (ks : List Str) (i : Nat) (t : T) (k : Str), ts[i]? = some t → ks[i]? = some k → zipOk f (ts.drop i) (ks.drop i) = (f k t && zipOk f (ts.drop (i + 1)) (ks.drop (i + 1)))
  | [], _, i, _, _, h, _ => by simp at h
  | _ :: _, [], i, _, _, _, h => by simp at h
  | _ :: _, _ :: _, 0, _, _, h, h2 => by cases (Option.some.inj h); cases (Option.some.inj h2); rfl
  | _ :: ts, _ :: ks, i + 1, t, k, h, h2 => zipOk_drop f ts ks i t k h h2
theorem zipOk_end (f : Str → T → Bool) (ts : List T) (ks : List Str) (i : Nat) (h : min ts.length ks.length ≤ i) : zipOk f (ts.drop i) (ks.drop i) = true := by
  by_cases h1 : ts.length ≤ i
  · rw [List.drop_eq_nil_of_le h1]
    cases ks.drop i <;> rfl
  · rw [List.drop_eq_nil_of_le (show ks.length ≤ i by omega)]
    cases ts.drop i <;> rfl
theorem kinds_of {x : Str} {ks : List Str} (h : kindsOf x = some ks) : ∀ k ∈ ks, k ∈ kinds := by
  have all : ∀ p ∈ tPARTS, ∀ k ∈ p.2, k ∈ kinds := by decide +kernel
  have := List.lookup_eq_some_iff.mp (show tPARTS.lookup x = some ks from h)
  obtain ⟨l1, l2, e, _⟩ := this
  exact all (x, ks) (by rw [e]; simp)
theorem isRule_form (s : Sz) (n : Nat) {x : Str} {ts : List T} {ks : List Str} (e : kindsOf x = some ks) (h : ts.length = ks.length) : isRule s (n + 1) (.tup (.str x :: ts)) = zipOk (partOk (isRule s n) s) ts ks := by
  show (hasForm (.tup (.str x :: ts)) && match kindsOf x with | some ks => zipOk (partOk (isRule s n) s) ts ks | none => false) = _
  rw [hasForm_str, e]
  show (decide (ts.length = ks.length) && _) = _
  rw [decide_eq_true h, Bool.true_and]
theorem isRule_noform (s : Sz) (n : Nat) {t : T} (h : hasForm t = false) : isRule s (n + 1) t = false := by
  show (hasForm t && _) = false
  rw [h, Bool.false_and]
theorem form_of {t : T} (h : hasForm t = true) : ∃ x ts ks, t = .tup (.str x :: ts) ∧ kindsOf x = some ks ∧ ts.length = ks.length := by
  cases t with
  | tup ts =>
    cases ts with
    | nil => cases h
    | cons t0 ts =>
      cases t0 with
      | str x =>
        rw [hasForm_str] at h
        cases e : kindsOf x with
        | none => rw [e] at h; cases h
        | some ks => rw [e] at h; exact ⟨x, ts, ks, rfl, e, of_decide_eq_true h⟩
      | _ => cases h
  | _ => cases h
theorem isRule_at (s : Sz) (n : Nat) {x : Str} {ts : List T} {ks : List Str} (e : kindsOf x = some ks) : isRule s (n + 1) (.tup (.str x :: ts)) = (decide (ts.length = ks.length) && zipOk (partOk (isRule s n) s) ts ks) := by
  show (hasForm (.tup (.str x :: ts)) && match kindsOf x with | some ks => zipOk (partOk (isRule s n) s) ts ks | none => false) = _
  rw [hasForm_str, e]
theorem isRule_len (s : Sz) (n : Nat) {x : Str} {ts : List T} {ks : List Str} (e : kindsOf x = some ks) (h : ts.length ≠ ks.length) : isRule s (n + 1) (.tup (.str x :: ts)) = false := by
  rw [isRule_at s n e, decide_eq_false h, Bool.false_and]
theorem isRule_none (s : Sz) (n : Nat) {x : Str} {ts : List T} (e : kindsOf x = none) : isRule s (n + 1) (.tup (.str x :: ts)) = false := by
  apply isRule_noform
  rw [hasForm_str, e]
theorem kinds_len {x : Str} {ks : List Str} (h : kindsOf x = some ks) : 1 ≤ ks.length ∧ ks.length ≤ 3 := by
  have all : ∀ p ∈ tPARTS, 1 ≤ p.2.length ∧ p.2.length ≤ 3 := by decide +kernel
  obtain ⟨l1, l2, e, _⟩ := List.lookup_eq_some_iff.mp (show tPARTS.lookup x = some ks from h)
  exact all (x, ks) (by rw [e]; simp)
def words : List Str := ["number", "paper", "line", "earlier", "add", "take", "least", "most", "part", "table", "where", "choose"]
theorem words_map : tPARTS.map (·.1) = words := rfl
theorem kinds_none {x : Str} (h : x ∉ words) : kindsOf x = none := by
  show tPARTS.lookup x = none
  rw [List.lookup_eq_none_iff]
  intro p hp
  rw [bne_iff_ne]
  rintro rfl
  exact h (words_map ▸ List.mem_map.mpr ⟨p, hp, rfl⟩)
section
variable (s : Sz) (n : Nat) (a b c : T)
theorem R_number : isRule s (n + 1) (.tup [.str "number", a]) = isNum a := by
  rw [isRule_at s n (ks := ["number"]) rfl]
  show (true && (isNum a && true)) = _
  simp
theorem R_paper : isRule s (n + 1) (.tup [.str "paper", a]) = isWord a := by
  rw [isRule_at s n (ks := ["word"]) rfl]
  show (true && (isWord a && true)) = _
  simp
theorem R_line : isRule s (n + 1) (.tup [.str "line", a]) = isPlace a s.l := by
  rw [isRule_at s n (ks := ["line"]) rfl]
  show (true && (isPlace a s.l && true)) = _
  simp
theorem R_earlier : isRule s (n + 1) (.tup [.str "earlier", a]) = isPlace a s.l := by
  rw [isRule_at s n (ks := ["line"]) rfl]
  show (true && (isPlace a s.l && true)) = _
  simp
theorem R_part : isRule s (n + 1) (.tup [.str "part", a, b]) = (isRule s n a && isPct b) := by
  rw [isRule_at s n (ks := ["rule", "percent"]) rfl]
  show (true && (isRule s n a && (isPct b && true))) = _
  simp
theorem R_table : isRule s (n + 1) (.tup [.str "table", a, b]) = (isPlace a s.tb && isRule s n b) := by
  rw [isRule_at s n (ks := ["table", "rule"]) rfl]
  show (true && (isPlace a s.tb && (isRule s n b && true))) = _
  simp
theorem R_choose : isRule s (n + 1) (.tup [.str "choose", a, b, c]) = (isPlace a s.ch && (isRule s n b && isRule s n c)) := by
  rw [isRule_at s n (ks := ["choice", "rule", "rule"]) rfl]
  show (true && (isPlace a s.ch && (isRule s n b && (isRule s n c && true)))) = _
  simp
theorem R_where : isRule s (n + 1) (.tup [.str "where", a, b, c]) = [a, b, c].all (isRule s n) := by
  rw [isRule_at s n (ks := ["rule", "rule", "rule"]) rfl]
  show (true && _) = _
  rw [Bool.true_and]
  rfl
theorem R_two {x : Str} (h : x ∈ (["add", "take", "least", "most"] : List Str)) : kindsOf x = some (["rule", "rule"] : List Str) ∧ isRule s (n + 1) (.tup [.str x, a, b]) = [a, b].all (isRule s n) := by
  have e : kindsOf x = some (["rule", "rule"] : List Str) := by
    simp only [List.mem_cons, List.not_mem_nil, or_false] at h
    rcases h with rfl | rfl | rfl | rfl <;> rfl
  refine ⟨e, ?_⟩
  rw [isRule_at s n e]
  show (true && _) = _
  rw [Bool.true_and]
  rfl
end
def keyT : T → List Key
  | .int i => [.inl i]
  | .str x => [.inr x]
  | _ => []
def headK : List T → List Key
  | t :: _ => keyT t
  | [] => []
def behs (f : T → List Key) : List T → List Str → List Key
  | t :: ts, k :: ks => (if k = "rule" then f t else []) ++ behs f ts ks
  | _, _ => []
def kindsD (x : Str) : List Str := match kindsOf x with | some ks => ks | none => []
def beh (wd : Str) : Nat → T → List Key
  | 0, _ => []
  | n + 1, .tup (.str x :: ts) => (if x = wd then headK ts else []) ++ behs (beh wd n) ts (kindsD x)
  | _ + 1, _ => []
theorem beh_at (wd : Str) (n : Nat) (x : Str) (ts : List T) : beh wd (n + 1) (.tup (.str x :: ts)) = (if x = wd then headK ts else []) ++ behs (beh wd n) ts (kindsD x) := rfl
def B : Nat → Nat
  | 0 => 0
  | n + 1 => 1 + 3 * B n
theorem B_mono : ∀ {m n : Nat}, m ≤ n → B m ≤ B n
  | 0, n, _ => Nat.zero_le _
  | m + 1, 0, h => by omega
  | m + 1, n + 1, h => by
    have := B_mono (m := m) (n := n) (by omega)
    show 1 + 3 * B m ≤ 1 + 3 * B n
    omega
theorem headK_len (ts : List T) : (headK ts).length ≤ 1 := by
  cases ts with
  | nil => exact Nat.zero_le _
  | cons t _ => cases t <;> simp [headK, keyT]
theorem behs_len {f : T → List Key} {M : Nat} (h : ∀ t, (f t).length ≤ M) : ∀ (ts : List T) (ks : List Str), (behs f ts ks).length ≤ ks.length * M
  | [], ks => by show 0 ≤ _; exact Nat.zero_le _
  | _ :: _, [] => by show 0 ≤ _; exact Nat.zero_le _
  | t :: ts, k :: ks => by
    have ih := behs_len h ts ks
    have h1 : (if k = "rule" then f t else []).length ≤ M := by
      split
      · exact h t
      · exact Nat.zero_le _
    show ((if k = "rule" then f t else []) ++ behs f ts ks).length ≤ (ks.length + 1) * M
    rw [List.length_append, Nat.add_mul, Nat.one_mul]
    omega
theorem kindsD_len (x : Str) : (kindsD x).length ≤ 3 := by
  unfold kindsD
  cases e : kindsOf x with
  | none => exact Nat.zero_le _
  | some ks => exact (kinds_len e).2
theorem beh_len (wd : Str) : ∀ (n : Nat) (t : T), (beh wd n t).length ≤ B n
  | 0, _ => Nat.le_refl _
  | n + 1, t => by
    match t with
    | .tup (.str x :: ts) =>
      rw [beh_at, List.length_append]
      have h1 : (if x = wd then headK ts else []).length ≤ 1 := by
        split
        · exact headK_len ts
        · exact Nat.zero_le _
      have h2 := behs_len (beh_len wd n) ts (kindsD x)
      have h3 : (kindsD x).length * B n ≤ 3 * B n := Nat.mul_le_mul_right _ (kindsD_len x)
      show _ ≤ 1 + 3 * B n
      omega
    | .non => exact Nat.zero_le _
    | .bl _ => exact Nat.zero_le _
    | .int _ => exact Nat.zero_le _
    | .str _ => exact Nat.zero_le _
    | .lst => exact Nat.zero_le _
    | .tup [] => exact Nat.zero_le _
    | .tup (.non :: _) => exact Nat.zero_le _
    | .tup (.bl _ :: _) => exact Nat.zero_le _
    | .tup (.int _ :: _) => exact Nat.zero_le _
    | .tup (.tup _ :: _) => exact Nat.zero_le _
    | .tup (.lst :: _) => exact Nat.zero_le _
def five : List Str := ["line", "earlier", "paper", "table", "choose"]
def kd (wd : Str) : Key → Prop
  | .inl _ => wd ≠ "paper"
  | .inr x => wd = "paper" ∧ PySem.PyData.strOk x = true
theorem isWord_ok {x : Str} (h : isWord (.str x) = true) : PySem.PyData.strOk x = true := by
  rw [isWord_str, Bool.and_eq_true] at h
  have h2 := List.all_eq_true.mp h.2
  have big : ∀ c ∈ letters.cps.toList, c < 0x110000 := by decide +kernel
  unfold PySem.PyData.strOk
  rw [← Array.all_toList, List.all_eq_true]
  intro c hc
  exact decide_eq_true (big c (of_decide_eq_true (h2 c hc)))
theorem place_int {t : T} {n : Int} (h : isPlace t n = true) : ∃ i, t = .int i := by
  cases t with
  | int i => exact ⟨i, rfl⟩
  | _ => cases h
theorem word_str {t : T} (h : isWord t = true) : ∃ x, t = .str x := by
  cases t with
  | str x => exact ⟨x, rfl⟩
  | _ => cases h
theorem head_key {sz : Sz} {n : Nat} {x : Str} {ts : List T} {ks : List Str} (hx : x ∈ five) (e : kindsOf x = some ks) (hl : ts.length = ks.length) (hz : zipOk (partOk (isRule sz n) sz) ts ks = true) : ∃ t r k, ts = t :: r ∧ keyT t = [k] ∧ kd x k := by
  have e' : kindsD x = ks := by unfold kindsD; rw [e]
  simp only [five, List.mem_cons, List.not_mem_nil, or_false] at hx
  cases ts with
  | nil =>
    have := (kinds_len e).1
    rw [List.length_nil] at hl
    omega
  | cons t r =>
    rcases hx with rfl | rfl | rfl | rfl | rfl
    · cases e
      have h : (isPlace t sz.l && _) = true := hz
      obtain ⟨i, rfl⟩ := place_int (Bool.and_eq_true_iff.mp h).1
      exact ⟨_, _, _, rfl, rfl, (fun z => by cases z)⟩
    · cases e
      have h : (isPlace t sz.l && _) = true := hz
      obtain ⟨i, rfl⟩ := place_int (Bool.and_eq_true_iff.mp h).1
      exact ⟨_, _, _, rfl, rfl, (fun z => by cases z)⟩
    · cases e
      have h : (isWord t && _) = true := hz
      obtain ⟨i, rfl⟩ := word_str (Bool.and_eq_true_iff.mp h).1
      exact ⟨_, _, _, rfl, rfl, rfl, isWord_ok (Bool.and_eq_true_iff.mp h).1⟩
    · cases e
      have h : (isPlace t sz.tb && _) = true := hz
      obtain ⟨i, rfl⟩ := place_int (Bool.and_eq_true_iff.mp h).1
      exact ⟨_, _, _, rfl, rfl, (fun z => by cases z)⟩
    · cases e
      have h : (isPlace t sz.ch && _) = true := hz
      obtain ⟨i, rfl⟩ := place_int (Bool.and_eq_true_iff.mp h).1
      exact ⟨_, _, _, rfl, rfl, (fun z => by cases z)⟩
theorem rule_of {sz : Sz} {n : Nat} {t : T} (h : isRule sz (n + 1) t = true) : ∃ x ts ks, t = .tup (.str x :: ts) ∧ kindsOf x = some ks ∧ ts.length = ks.length ∧ zipOk (partOk (isRule sz n) sz) ts ks = true := by
  have hf : hasForm t = true := by
    cases e : hasForm t with
    | true => rfl
    | false => rw [isRule_noform sz n e] at h; cases h
  obtain ⟨x, ts, ks, rfl, e, hl⟩ := form_of hf
  rw [isRule_form sz n e hl] at h
  exact ⟨x, ts, ks, rfl, e, hl, h⟩
theorem zipOk_at {f : Str → T → Bool} : ∀ {ts : List T} {ks : List Str} {i : Nat} {t : T} {k : Str}, zipOk f ts ks = true → ts[i]? = some t → ks[i]? = some k → f k t = true
  | [], _, i, _, _, _, h, _ => by simp at h
  | _ :: _, [], i, _, _, _, _, h => by simp at h
  | _ :: _, _ :: _, 0, _, _, hz, h, h2 => by cases (Option.some.inj h); cases (Option.some.inj h2); exact (Bool.and_eq_true_iff.mp hz).1
  | _ :: ts, _ :: ks, i + 1, t, k, hz, h, h2 => zipOk_at (i := i) (Bool.and_eq_true_iff.mp hz).2 h h2
theorem behs_kd {sz : Sz} {n : Nat} {wd : Str} {f : T → List Key} (ih : ∀ t, isRule sz n t = true → ∀ k ∈ f t, kd wd k) : ∀ (ts : List T) (ks : List Str), zipOk (partOk (isRule sz n) sz) ts ks = true → ∀ k ∈ behs f ts ks, kd wd k
  | [], _, _, _, h => by cases h
  | _ :: _, [], _, _, h => by cases h
  | t :: ts, k :: ks, hz, j, h => by
    have hz' : (partOk (isRule sz n) sz k t && zipOk (partOk (isRule sz n) sz) ts ks) = true := hz
    rw [Bool.and_eq_true] at hz'
    have h' : j ∈ (if k = "rule" then f t else []) ++ behs f ts ks := h
    rcases List.mem_append.mp h' with h2 | h2
    · by_cases e : k = "rule"
      · rw [if_pos e] at h2
        subst e
        exact ih t hz'.1 j h2
      · rw [if_neg e] at h2
        cases h2
    · exact behs_kd ih ts ks hz'.2 j h2
theorem beh_kd {sz : Sz} {wd : Str} (hw : wd ∈ five) : ∀ (n : Nat) (t : T), isRule sz n t = true → ∀ k ∈ beh wd n t, kd wd k
  | 0, _, _, _, h => by cases h
  | n + 1, t, ht, k, h => by
    obtain ⟨x, ts, ks, rfl, e, hl, hz⟩ := rule_of ht
    rw [beh_at] at h
    rcases List.mem_append.mp h with h2 | h2
    · by_cases e2 : x = wd
      · rw [if_pos e2] at h2
        subst e2
        obtain ⟨t, r, j, rfl, ej, hj⟩ := head_key hw e hl hz
        have h3 : k ∈ keyT t := h2
        rw [ej, List.mem_singleton] at h3
        subst h3
        exact hj
      · rw [if_neg e2] at h2
        cases h2
    · rw [show kindsD x = ks by unfold kindsD; rw [e]] at h2
      exact behs_kd (beh_kd hw n) ts ks hz k h2
theorem hom_kd {wd : Str} : ∀ {ks : List Key}, (∀ k ∈ ks, kd wd k) → hom ks := by
  intro ks h
  by_cases e : wd = "paper"
  · refine .inr ?_
    induction ks with
    | nil => exact ⟨[], rfl⟩
    | cons k ks ih =>
      obtain ⟨xs, rfl⟩ := ih fun k hk => h k (List.mem_cons_of_mem _ hk)
      cases k with
      | inl i => exact absurd e (h _ List.mem_cons_self)
      | inr x => exact ⟨x :: xs, rfl⟩
  · refine .inl ?_
    induction ks with
    | nil => exact ⟨[], rfl⟩
    | cons k ks ih =>
      obtain ⟨xs, rfl⟩ := ih fun k hk => h k (List.mem_cons_of_mem _ hk)
      cases k with
      | inl i => exact ⟨i :: xs, rfl⟩
      | inr x => exact absurd (h _ List.mem_cons_self).1 e
theorem ok_kd {wd : Str} {ks : List Key} (h : ∀ k ∈ ks, kd wd k) : ∀ k ∈ ks, okK k = true := by
  intro k hk
  have := h k hk
  cases k with
  | inl i => rfl
  | inr x => exact this.2
theorem behs_drop (f : T → List Key) : ∀ (ts : List T) (ks : List Str) (i : Nat) (t : T) (k : Str), ts[i]? = some t → ks[i]? = some k → behs f (ts.drop i) (ks.drop i) = (if k = "rule" then f t else []) ++ behs f (ts.drop (i + 1)) (ks.drop (i + 1))
  | [], _, i, _, _, h, _ => by simp at h
  | _ :: _, [], i, _, _, _, h => by simp at h
  | _ :: _, _ :: _, 0, _, _, h, h2 => by cases (Option.some.inj h); cases (Option.some.inj h2); rfl
  | _ :: ts, _ :: ks, i + 1, t, k, h, h2 => behs_drop f ts ks i t k h h2
theorem behs_end (f : T → List Key) (ts : List T) (ks : List Str) (i : Nat) (h : ts.length ≤ i) : behs f (ts.drop i) (ks.drop i) = [] := by
  rw [List.drop_eq_nil_of_le h]
  cases ks.drop i <;> rfl
theorem keyT_tv {v : V} {t : T} {k : Key} (h : Tv K H v t) (e : keyT t = [k]) : v = kV k := by
  cases h with
  | int i => cases e; rfl
  | str x _ => cases e; rfl
  | _ => cases e
def keysOf (ks : List Key) (ls : List Key) : Prop := srt ls ∧ ls.Nodup ∧ ∀ k, k ∈ ls ↔ k ∈ ks
theorem keysOf_uniq {ks ls ms : List Key} (a : keysOf ks ls) (b : keysOf ks ms) : ls = ms := by
  refine srt_uniq ((List.perm_ext_iff_of_nodup a.2.1 b.2.1).mpr fun k => (a.2.2 k).trans (b.2.2 k).symm) a.1 b.1
theorem addK_nodup {ks : List Key} (k : Key) (h : ks.Nodup) : (Qs.addK ks k).Nodup := by
  unfold Qs.addK
  split
  · exact h
  · next e => exact List.nodup_cons.mpr ⟨fun z => e (Qs.any_mem.mpr z), h⟩
theorem foldl_nodup : ∀ (xs ks : List Key), ks.Nodup → (xs.foldl Qs.addK ks).Nodup
  | [], _, h => h
  | x :: xs, ks, h => foldl_nodup xs (Qs.addK ks x) (addK_nodup x h)
theorem part_tup {sz : Sz} {n : Nat} {k : Str} {t : T} (hk : k ∈ kinds) (h : partOk (isRule sz n) sz k t = true) : isTup t = decide (k = "rule") := by
  have tup : isRule sz n t = true → isTup t = true := by
    intro z
    cases n with
    | zero => cases z
    | succ n =>
      obtain ⟨x, ts, ks, rfl, _⟩ := rule_of z
      rfl
  have int : ∀ {c : Int}, isPlace t c = true → isTup t = false := by
    intro c z
    obtain ⟨i, rfl⟩ := place_int z
    rfl
  simp only [kinds, List.mem_cons, List.not_mem_nil, or_false] at hk
  rcases hk with rfl | rfl | rfl | rfl | rfl | rfl | rfl
  · have h' : isNum t = true := h
    cases t with
    | tup _ => cases h'
    | _ => rfl
  · have h' : isWord t = true := h
    obtain ⟨x, rfl⟩ := word_str h'
    rfl
  · exact int (c := sz.l) h
  · exact tup h
  · have h' : isPct t = true := h
    cases t with
    | tup _ => cases h'
    | _ => rfl
  · exact int (c := sz.tb) h
  · exact int (c := sz.ch) h
theorem rd_addLb {a b : Addr} {xs ys : List V} (ha : H a = some (.lst xs)) (hb : H b = some (.lst ys)) (hl : xs.length + ys.length ≤ 4000) (q : ∀ p H', H p = none → Ex H H' → H' p = some (.lst (xs ++ ys)) → Q (.ref p) H') : rAddA K (.ref a) (.ref b) H Q :=
  .inr (.inr ⟨a, b, xs, ys, rfl, rfl, ha, hb, by rw [sizeLine_eq]; omega, fun p hp => q p _ hp (Evl.Ex.new hp) upd_same⟩)
theorem inV_str (x : Str) : ∀ (ws : List Str), inV (.str x) (ws.map V.str) = decide (x ∈ ws)
  | [] => rfl
  | y :: ws => by
    have ih := inV_str x ws
    unfold inV at ih ⊢
    rw [List.map_cons, List.any_cons, ih]
    show ((y == x) || decide (x ∈ ws)) = _
    by_cases h : y = x
    · subst h
      simp
    · rw [beq_eq_false_iff_ne.mpr h, Bool.false_or, decide_eq_decide, List.mem_cons]
      exact ⟨.inr, fun z => z.resolve_left (Ne.symm h)⟩
theorem flat_strs (ws : List Str) : (ws.map V.str).all flatV = true := by
  rw [List.all_eq_true]
  intro v hv
  obtain ⟨z, _, rfl⟩ := List.mem_map.mp hv
  rfl
theorem rd_inSs {x : Str} {a : Addr} (ws : List Str) (h : SqL K H a (ws.map V.str)) (q : Q (.bl (decide (x ∈ ws))) H) : rIn K false (.str x) (.ref a) H Q := by
  refine rd_inL h rfl (flat_strs ws) ?_
  rw [inV_str]
  exact q
theorem rd_outSs {x : Str} {a : Addr} (ws : List Str) (h : SqL K H a (ws.map V.str)) (q : Q (.bl (!decide (x ∈ ws))) H) : rIn K true (.str x) (.ref a) H Q := by
  refine rd_outL h rfl (flat_strs ws) ?_
  rw [inV_str]
  exact q
theorem rd_ixSm {z : Str} {i : Int} (h : z.length ≤ 1000) (h0 : 0 ≤ i) (h1 : i < z.length) (q : ∀ y : Str, y.length = 1 → Q (.str y) H) : rIx K (.str z) (.int i) H Q := by
  have hk : i.toNat < z.cps.toList.length := by
    show i.toNat < z.length
    omega
  have e : ((i.toNat : Nat) : Int) = i := by omega
  have e1 : atI z.cps.toList i = some z.cps.toList[i.toNat] := by
    have := atI_nat (List.getElem?_eq_getElem hk)
    rw [e] at this
    exact this
  exact rd_ixS h e1 (q _ rfl)
theorem rd_slSm {z : Str} {lo hi : Option Int} (h : z.length ≤ 1000) (q : ∀ y : Str, y.length ≤ z.length → Q (.str y) H) : rSlX K (.str z) lo hi H Q := rd_slS h (q _ (cutS_length z lo hi))
theorem rd_addSm {x y : Str} (h : x.length + y.length ≤ 1000) (q : ∀ z : Str, z.length = x.length + y.length → Q (.str z) H) : rAddA K (.str x) (.str y) H Q := rd_addS h (q _ (by show (x.cps ++ y.cps).size = _; rw [Array.size_append]; rfl))
theorem cutV_map {α : Type} (f : α → V) (xs : List α) (lo hi : Option Int) : ∃ k m, cutV (xs.map f) lo hi = ((xs.drop k).take m).map f := ⟨_, _, by unfold cutV; rw [List.map_take, List.map_drop]⟩
theorem rgV_ints (n : Int) : ∃ ns : List Int, rgV 0 n = ns.map V.int ∧ ns.length = n.toNat :=
  ⟨(List.range (n - 0).toNat).map fun i => 0 + ((i : Nat) : Int), by unfold rgV; rw [List.map_map]; rfl, by rw [List.length_map, List.length_range]; omega⟩
theorem rd_lstRg {σ : L2.St} {te : L2.St → Hp → (Int → Int → Hp → Prop) → Prop} (q : te σ H fun a b H1 => RgOk a b ∧ ∀ q, H1 q = none → Q (.ref q) (upd H1 q (.lst (rgV a b)))) : tLstRg te σ H Q := q
theorem rd_rg1 {σ : L2.St} {ta : TE} {R : Int → Int → Hp → Prop} (q : ta σ H fun x H1 => ∃ n, x = .int n ∧ R 0 n H1) : tRg1 ta σ H R := q
theorem rd_rg1I {n : Int} {R : Int → Prop} (q : R n) : ∃ m, V.int n = .int m ∧ R m := ⟨n, rfl, q⟩
theorem rd_disp {σ : L2.St} {trs : List (TE × TE)} (q : ∀ p, H p = none → tPairs trs σ (upd H p (.dK [])) fun ps H2 => H2 p = some (.dK []) ∧ ∃ kvs : List (Key × V), ps = kvs.map (fun kv => (kV kv.1, kv.2)) ∧ kvs.length ≤ 15 ∧ Q (.ref p) (upd H2 p (.dK (mergeK [] kvs)))) : tDisp trs σ H Q := q
theorem rd_pcons {σ : L2.St} {tk tv : TE} {r : List (TE × TE)} {R : List (V × V) → Hp → Prop} (q : tk σ H fun x H1 => tv σ H1 fun y H2 => tPairs r σ H2 fun ps H3 => R ((x, y) :: ps) H3) : tPairs ((tk, tv) :: r) σ H R := q
theorem rd_pnil {σ : L2.St} {R : List (V × V) → Hp → Prop} (q : R [] H) : tPairs [] σ H R := q
theorem zipOk_mono {f g : Str → T → Bool} (h : ∀ k t, f k t = true → g k t = true) : ∀ {ts : List T} {ks : List Str}, zipOk f ts ks = true → zipOk g ts ks = true
  | [], _, _ => rfl
  | _ :: _, [], _ => rfl
  | t :: ts, k :: ks, hz => by
    have hz : (f k t && zipOk f ts ks) = true := hz
    rw [Bool.and_eq_true] at hz
    show (g k t && zipOk g ts ks) = true
    rw [h k t hz.1, zipOk_mono h hz.2]
    rfl
theorem partOk_mono {s : Sz} {f g : T → Bool} (h : ∀ t, f t = true → g t = true) (k : Str) (t : T) (hp : partOk f s k t = true) : partOk g s k t = true := by
  unfold partOk at hp ⊢
  split
  · rename_i e
    rw [if_pos e] at hp
    exact h t hp
  · rename_i e
    rw [if_neg e] at hp
    exact hp
theorem isRule_succ {s : Sz} : ∀ {n : Nat} {t : T}, isRule s n t = true → isRule s (n + 1) t = true
  | 0, _, h => by cases h
  | n + 1, t, h => by
    obtain ⟨x, ts, ks, rfl, e, hl, hz⟩ := rule_of h
    rw [isRule_form s (n + 1) e hl]
    exact zipOk_mono (partOk_mono fun t => isRule_succ) hz
theorem isRule_mono {s : Sz} {n m : Nat} {t : T} (h : isRule s n t = true) (hm : n ≤ m) : isRule s m t = true := by
  induction hm with
  | refl => exact h
  | step _ ih => exact isRule_succ ih
/-- lines that are named are lines that there are -/
theorem head_line {sz : Sz} {n : Nat} {ts : List T} {ks : List Str} (e : kindsOf "line" = some ks) (hl : ts.length = ks.length) (hz : zipOk (partOk (isRule sz n) sz) ts ks = true) : ∃ t r i, ts = t :: r ∧ keyT t = [.inl i] ∧ 0 ≤ i ∧ i < sz.l := by
  cases e
  cases ts with
  | nil => cases hl
  | cons t r =>
    have h : (isPlace t sz.l && _) = true := hz
    have h1 := (Bool.and_eq_true_iff.mp h).1
    obtain ⟨i, rfl⟩ := place_int h1
    have h2 : (decide (0 ≤ i) && decide (i ≤ sz.l - 1)) = true := h1
    rw [Bool.and_eq_true, decide_eq_true_iff, decide_eq_true_iff] at h2
    exact ⟨_, _, i, rfl, rfl, h2.1, by omega⟩
theorem behs_all {sz : Sz} {n : Nat} {f : T → List Key} {P : Key → Prop} (ih : ∀ t, isRule sz n t = true → ∀ k ∈ f t, P k) : ∀ (ts : List T) (ks : List Str), zipOk (partOk (isRule sz n) sz) ts ks = true → ∀ k ∈ behs f ts ks, P k
  | [], _, _, _, h => by cases h
  | _ :: _, [], _, _, h => by cases h
  | t :: ts, k :: ks, hz, j, h => by
    have hz' : (partOk (isRule sz n) sz k t && zipOk (partOk (isRule sz n) sz) ts ks) = true := hz
    rw [Bool.and_eq_true] at hz'
    have h' : j ∈ (if k = "rule" then f t else []) ++ behs f ts ks := h
    rcases List.mem_append.mp h' with h2 | h2
    · by_cases e : k = "rule"
      · rw [if_pos e] at h2
        subst e
        exact ih t hz'.1 j h2
      · rw [if_neg e] at h2
        cases h2
    · exact behs_all ih ts ks hz'.2 j h2
theorem beh_place {sz : Sz} : ∀ (n : Nat) (t : T), isRule sz n t = true → ∀ k ∈ beh "line" n t, ∃ i : Int, k = .inl i ∧ 0 ≤ i ∧ i < sz.l
  | 0, _, _, _, h => by cases h
  | n + 1, t, ht, k, h => by
    obtain ⟨x, ts, ks, rfl, e, hl, hz⟩ := rule_of ht
    rw [beh_at] at h
    rcases List.mem_append.mp h with h2 | h2
    · by_cases e2 : x = "line"
      · rw [if_pos e2] at h2
        subst e2
        obtain ⟨t, r, i, rfl, ej, hj⟩ := head_line e hl hz
        have h3 : k ∈ keyT t := h2
        rw [ej, List.mem_singleton] at h3
        exact ⟨i, h3, hj⟩
      · rw [if_neg e2] at h2
        cases h2
    · rw [show kindsD x = ks by unfold kindsD; rw [e]] at h2
      exact behs_all (P := fun k => ∃ i : Int, k = .inl i ∧ 0 ≤ i ∧ i < sz.l) (beh_place n) ts ks hz k h2
theorem behs_eq {sz : Sz} {n : Nat} {f g : T → List Key} (h : ∀ t, isRule sz n t = true → f t = g t) : ∀ (ts : List T) (ks : List Str), zipOk (partOk (isRule sz n) sz) ts ks = true → behs f ts ks = behs g ts ks
  | [], _, _ => rfl
  | _ :: _, [], _ => rfl
  | t :: ts, k :: ks, hz => by
    have hz' : (partOk (isRule sz n) sz k t && zipOk (partOk (isRule sz n) sz) ts ks) = true := hz
    rw [Bool.and_eq_true] at hz'
    show (if k = "rule" then f t else []) ++ behs f ts ks = (if k = "rule" then g t else []) ++ behs g ts ks
    rw [behs_eq h ts ks hz'.2]
    by_cases e : k = "rule"
    · subst e
      rw [if_pos rfl, if_pos rfl, h t hz'.1]
    · rw [if_neg e, if_neg e]
theorem beh_succ {sz : Sz} {wd : Str} : ∀ {n : Nat} {t : T}, isRule sz n t = true → beh wd n t = beh wd (n + 1) t
  | 0, _, h => by cases h
  | n + 1, t, h => by
    obtain ⟨x, ts, ks, rfl, e, hl, hz⟩ := rule_of h
    rw [beh_at, beh_at, show kindsD x = ks by unfold kindsD; rw [e], behs_eq (f := beh wd n) (g := beh wd (n + 1)) (fun t => beh_succ) ts ks hz]
theorem beh_mono {sz : Sz} {wd : Str} {n m : Nat} {t : T} (h : isRule sz n t = true) (hm : n ≤ m) : beh wd m t = beh wd n t := by
  induction hm with
  | refl => rfl
  | step hm ih => rw [← ih, beh_succ (isRule_mono h hm)]
/-- a rule, so deep at most, that names lines of these alone -/
structure RB (sz : Sz) (n : Nat) (S : Key → Prop) (t : T) : Prop where
  ru : isRule sz n t = true
  nm : ∀ k ∈ beh "line" n t, S k
section
variable {sz : Sz} {n m : Nat} {S : Key → Prop} {a b c : T}
theorem RB.mono (h : RB sz n S a) (hm : n ≤ m) : RB sz m S a := ⟨isRule_mono h.ru hm, fun k hk => h.nm k (by rw [beh_mono h.ru hm] at hk; exact hk)⟩
theorem RB.weak {S' : Key → Prop} (h : RB sz n S a) (w : ∀ k, S k → S' k) : RB sz n S' a := ⟨h.ru, fun k hk => w k (h.nm k hk)⟩
theorem RB.number {i : Int} (h : isNum (.int i) = true) : RB sz (n + 1) S (.tup [.str "number", .int i]) := ⟨by rw [R_number]; exact h, fun k hk => by cases hk⟩
theorem RB.paper {z : Str} (h : isWord (.str z) = true) : RB sz (n + 1) S (.tup [.str "paper", .str z]) := ⟨by rw [R_paper]; exact h, fun k hk => by cases hk⟩
theorem RB.line {i : Int} (h : isPlace (.int i) sz.l = true) (hs : S (.inl i)) : RB sz (n + 1) S (.tup [.str "line", .int i]) := ⟨by rw [R_line]; exact h, fun k hk => by
  have hk : k ∈ [Sum.inl i] := hk
  rw [List.mem_singleton] at hk
  subst hk
  exact hs⟩
theorem RB.earlier {i : Int} (h : isPlace (.int i) sz.l = true) : RB sz (n + 1) S (.tup [.str "earlier", .int i]) := ⟨by rw [R_earlier]; exact h, fun k hk => by cases hk⟩
theorem RB.two {x : Str} (hx : x ∈ (["add", "take", "least", "most"] : List Str)) (h : RB sz n S a) (h' : RB sz n S b) : RB sz (n + 1) S (.tup [.str x, a, b]) := by
  obtain ⟨e, r⟩ := R_two sz n a b hx
  refine ⟨by rw [r]; simp [h.ru, h'.ru], fun k hk => ?_⟩
  rw [beh_at, show kindsD x = (["rule", "rule"] : List Str) by unfold kindsD; rw [e]] at hk
  rw [if_neg (by simp only [List.mem_cons, List.not_mem_nil, or_false] at hx; rcases hx with rfl | rfl | rfl | rfl <;> decide)] at hk
  have hk : k ∈ ([] : List Key) ++ (beh "line" n a ++ (beh "line" n b ++ [])) := hk
  rw [List.nil_append, List.append_nil] at hk
  rcases List.mem_append.mp hk with hk | hk
  · exact h.nm k hk
  · exact h'.nm k hk
theorem RB.part {i : Int} (h : RB sz n S a) (hp : isPct (.int i) = true) : RB sz (n + 1) S (.tup [.str "part", a, .int i]) := ⟨by rw [R_part, h.ru, hp]; rfl, fun k hk => by
  have hk : k ∈ ([] : List Key) ++ (beh "line" n a ++ ([] ++ [])) := hk
  simp only [List.nil_append, List.append_nil] at hk
  exact h.nm k hk⟩
theorem RB.table {i : Int} (hp : isPlace (.int i) sz.tb = true) (h : RB sz n S a) : RB sz (n + 1) S (.tup [.str "table", .int i, a]) := ⟨by rw [R_table, h.ru, hp]; rfl, fun k hk => by
  have hk : k ∈ ([] : List Key) ++ ([] ++ (beh "line" n a ++ [])) := hk
  simp only [List.nil_append, List.append_nil] at hk
  exact h.nm k hk⟩
theorem RB.choose {i : Int} (hp : isPlace (.int i) sz.ch = true) (h : RB sz n S a) (h' : RB sz n S b) : RB sz (n + 1) S (.tup [.str "choose", .int i, a, b]) := ⟨by rw [R_choose, h.ru, h'.ru, hp]; rfl, fun k hk => by
  have hk : k ∈ ([] : List Key) ++ ([] ++ (beh "line" n a ++ (beh "line" n b ++ []))) := hk
  simp only [List.nil_append, List.append_nil] at hk
  rcases List.mem_append.mp hk with hk | hk
  · exact h.nm k hk
  · exact h'.nm k hk⟩
theorem RB.where_ (h : RB sz n S a) (h' : RB sz n S b) (h'' : RB sz n S c) : RB sz (n + 1) S (.tup [.str "where", a, b, c]) := ⟨by rw [R_where]; simp [h.ru, h'.ru, h''.ru], fun k hk => by
  have hk : k ∈ ([] : List Key) ++ (beh "line" n a ++ (beh "line" n b ++ (beh "line" n c ++ []))) := hk
  simp only [List.nil_append, List.append_nil] at hk
  rcases List.mem_append.mp hk with hk | hk
  · exact h.nm k hk
  · rcases List.mem_append.mp hk with hk | hk
    · exact h'.nm k hk
    · exact h''.nm k hk⟩
end
/-! letters -/
def lets (z : Str) : Prop := ∀ c ∈ z.cps.toList, inLet c = true
theorem word_of {z : Str} (h1 : 1 ≤ z.length) (h8 : z.length ≤ 8) (h : lets z) : isWord (.str z) = true := by
  rw [isWord_str, decide_eq_true h1, decide_eq_true h8, List.all_eq_true.mpr h]
  rfl
theorem lets_letters : lets letters := fun c hc => decide_eq_true hc
theorem lets_cut {z : Str} (h : lets z) (lo hi : Option Int) : lets (cutS z lo hi) := fun c hc => by
  have hc : c ∈ (z.cps.toList.drop (HT.sIx z.length 0 lo)).take (HT.sIx z.length z.length hi - HT.sIx z.length 0 lo) := hc
  exact h c (List.mem_of_mem_drop (List.mem_of_mem_take hc))
theorem lets_app {x y : Str} (h : lets x) (h' : lets y) : lets (x ++ y) := fun c hc => by
  have hc : c ∈ (x.cps ++ y.cps).toList := hc
  rw [Array.toList_append] at hc
  rcases List.mem_append.mp hc with hc | hc
  · exact h c hc
  · exact h' c hc
theorem cut_len (z : Str) (lo hi : Option Int) : (cutS z lo hi).length = min (HT.sIx z.length z.length hi - HT.sIx z.length 0 lo) (z.length - HT.sIx z.length 0 lo) := by
  show (((z.cps.toList.drop (HT.sIx z.length 0 lo)).take (HT.sIx z.length z.length hi - HT.sIx z.length 0 lo)).toArray).size = _
  rw [List.size_toArray, List.length_take, List.length_drop, Array.length_toList]
  rfl
theorem str_app_len (x y : Str) : (x ++ y).length = x.length + y.length := by
  show (x.cps ++ y.cps).size = _
  rw [Array.size_append]
  rfl
theorem cut_to (z : Str) (n : Int) (h : 0 ≤ n) : (cutS z none (some n)).length = min n.toNat z.length := by
  rw [cut_len]
  have e : ((n.toNat : Nat) : Int) = n := by omega
  generalize n.toNat = m at e ⊢
  subst e
  rw [HT.sIx_nat, HT.sIx_none]
  omega
theorem cut_from_le (z : Str) (n : Int) (hi : Option Int) (h : 0 ≤ n) : (cutS z (some n) hi).length ≤ z.length - n.toNat := by
  rw [cut_len]
  have e : ((n.toNat : Nat) : Int) = n := by omega
  generalize n.toNat = m at e ⊢
  subst e
  rw [HT.sIx_nat]
  omega
theorem rd_ixLet {z : Str} {i : Int} (h : z.length ≤ 1000) (hl : lets z) (h0 : 0 ≤ i) (h1 : i < z.length) (q : ∀ y : Str, y.length = 1 → lets y → Q (.str y) H) : rIx K (.str z) (.int i) H Q := by
  have hk : i.toNat < z.cps.toList.length := by
    have : z.length = z.cps.toList.length := rfl
    omega
  have e : ((i.toNat : Nat) : Int) = i := by omega
  have hg := atI_nat (List.getElem?_eq_getElem hk)
  have hm := List.getElem_mem hk
  generalize z.cps.toList[i.toNat] = d at hg hm
  rw [e] at hg
  refine rd_ixS (c := d) h hg (q _ rfl fun c hc => ?_)
  have hc : c ∈ [d] := hc
  rw [List.mem_singleton] at hc
  subst hc
  exact hl _ hm
end
end Qr
namespace Qa
open PySem PySem.Spec PyProof.Rows L2
/-! a comprehension in a comprehension -/
theorem blkOk_in {N : List Str} {sc scope : Scope} {own : List (Str × Nat)} {env : Env} (h : blkC N sc scope own = true) : BlkOk N (relabel sc env) scope own := by
  have b := blkOk_by h
  refine ⟨b.kind, b.uniq, b.ix, fun y hy e => ?_, b.own⟩
  have key : ∀ (l : List (Str × NameKind)) (x : Str), l.lookup x = some .cell ∨ l.lookup x = some .free →
      (l.map fun (n, k) => if (k == NameKind.free && env.scope.kind == .function && env.kindOf n == some .cell) then (n, NameKind.cell) else (n, k)).lookup x = some .cell ∨
      (l.map fun (n, k) => if (k == NameKind.free && env.scope.kind == .function && env.kindOf n == some .cell) then (n, NameKind.cell) else (n, k)).lookup x = some .free := by
    intro l x
    induction l with
    | nil => intro h; rcases h with h | h <;> cases h
    | cons p l ih =>
      obtain ⟨n, k⟩ := p
      intro h
      rw [List.map_cons]
      by_cases hx : x == n
      · rw [List.lookup_cons, hx] at h
        have hk : k = .cell ∨ k = .free := h.imp (fun z => Option.some.inj z) (fun z => Option.some.inj z)
        dsimp only
        split
        · rw [List.lookup_cons, hx]; exact .inl rfl
        · rw [List.lookup_cons, hx]; exact hk.imp (fun z => by rw [z]) (fun z => by rw [z])
      · have hx' : (x == n) = false := by simpa using hx
        rw [List.lookup_cons, hx'] at h
        have := ih h
        dsimp only
        split
        · rw [List.lookup_cons, hx']; exact this
        · rw [List.lookup_cons, hx']; exact this
  exact key _ _ (b.free y hy e)
section
variable {K : PySem.W.Frag} {σ : L2.St} {H : Hp} {Q : VK} {ta tb tc te td ty tx tv : TE} {tt : TT} {D : Ends} {b : TS}
theorem eqK {X : Cx} {k : Nat} (hK : X.K = K) (hr : Room k X.A) : OpR X (compareOp .Eq) (rEqA K) := by subst hK; exact op_eqA hr
theorem neK {X : Cx} {k : Nat} (hK : X.K = K) (hr : Room k X.A) : OpR X (compareOp .NotEq) (rNeA K) := by subst hK; exact op_neA hr
theorem pi_seqK {X : Cx} {tg e : Expr} {te : TE} (hK : X.K = K) (he : PE X e te) : PI X tg e (iSeq K te) := by subst hK; exact pi_seq he
theorem rd_ifB {s1 s2 : TS} (b : Bool) (ht : ∀ R : Bool → Hp → Prop, R b H → tt σ H R) (q : if b = true then s1 D σ H else s2 D σ H) : tIfS tt s1 s2 D σ H := ht _ q
theorem rd_rep {l : Addr} {xs : List V} {k : Int} (h : H l = some (.lst xs)) (h0 : 0 ≤ k) (h1 : k ≤ 1000) (hx : xs.length ≤ 100) (q : ∀ p H', H p = none → Ex H H' → H' p = some (.lst (List.replicate k.toNat xs).flatten) → Q (.ref p) H') : rRep (.ref l) (.int k) H Q :=
  ⟨l, k, xs, rfl, rfl, h, by omega, by omega, by
    have : xs.length * k.toNat ≤ 100 * 1000 := Nat.mul_le_mul hx (by omega)
    rw [sizeLine_eq]; omega, fun p hp => q p _ hp (Evl.Ex.new hp) upd_same⟩
theorem flat_one (n : Nat) (x : V) : (List.replicate n [x]).flatten = List.replicate n x := by
  induction n with
  | zero => rfl
  | succ n ih => rw [List.replicate_succ, List.replicate_succ, List.flatten_cons, ih]; rfl
theorem rd_dnew (q : ∀ p H', H p = none → Ex H H' → H' p = some (.dK []) → Q (.ref p) H') : tDNewK σ H Q := fun p hp => q p _ hp (Evl.Ex.new hp) upd_same
theorem rd_while {tb : TS} (Pv : Nat → L2.St → Hp → Prop) {m0 : Nat} (h0 : Pv m0 σ H) (hs : ∀ m σ H, Pv m σ H → tt σ H fun b H1 => if b = true then ∃ N : L2.St → Hp → Prop, (∀ σ' H', N σ' H' → ∃ m', m' < m ∧ Pv m' σ' H') ∧ tb { D with nx := N, ct := N, bk := D.nx } σ H1 else D.nx σ H1) : tWhile tt tb D σ H := ⟨Pv, ⟨m0, h0⟩, hs⟩
theorem rd_wN {tb : TS} {σ : L2.St} {m : Nat} {Pv : Nat → L2.St → Hp → Prop} (q : tb { D with nx := fun σ' H' => ∃ m', m' < m ∧ Pv m' σ' H', ct := fun σ' H' => ∃ m', m' < m ∧ Pv m' σ' H', bk := D.nx } σ H) : ∃ N : L2.St → Hp → Prop, (∀ σ' H', N σ' H' → ∃ m', m' < m ∧ Pv m' σ' H') ∧ tb { D with nx := N, ct := N, bk := D.nx } σ H := ⟨_, fun _ _ h => h, q⟩
theorem rd_din (q : ty σ H fun y H1 => td σ H1 fun x H2 => ∃ a o, x = .ref a ∧ DGet H2 a y o ∧ Q (.bl o.isSome) H2) : tDIn ty td σ H Q := q
theorem rd_dnotin (q : ty σ H fun y H1 => td σ H1 fun x H2 => ∃ a o, x = .ref a ∧ DGet H2 a y o ∧ Q (.bl (!o.isSome)) H2) : tDNotIn ty td σ H Q := q
theorem rd_dinI {d : Addr} {kvs : List (Key × V)} {n : Int} {R : Option V → Prop} (h : H d = some (.dK kvs)) (q : R (valV kvs (.inl n))) : ∃ a o, V.ref d = .ref a ∧ DGet H a (.int n) o ∧ R o := ⟨d, _, rfl, DGet.k (k := .inl n) h, q⟩
theorem rd_dinS {d : Addr} {kvs : List (Key × V)} {n : Str} {R : Option V → Prop} (h : H d = some (.dK kvs)) (q : R (valV kvs (.inr n))) : ∃ a o, V.ref d = .ref a ∧ DGet H a (.str n) o ∧ R o := ⟨d, _, rfl, DGet.k (k := .inr n) h, q⟩
theorem rd_dput (q : tv σ H fun v H1 => td σ H1 fun x H2 => ty σ H2 fun y H3 => ∃ a H4, x = .ref a ∧ DPut H3 a y v H4 ∧ D.nx σ H4) : sDPut td ty tv D σ H := q
theorem rd_dputI {d : Addr} {kvs : List (Key × V)} {n : Int} {v : V} {R : Hp → Prop} (h : H d = some (.dK kvs)) (hl : kvs.length < 4000) (q : R (upd H d (.dK (putK kvs (.inl n) v)))) : ∃ a H4, V.ref d = .ref a ∧ DPut H a (.int n) v H4 ∧ R H4 := ⟨d, _, rfl, DPut.k (k := .inl n) h (by rw [sizeLine_eq]; omega), q⟩
theorem rd_dputS {d : Addr} {kvs : List (Key × V)} {n : Str} {v : V} {R : Hp → Prop} (h : H d = some (.dK kvs)) (hl : kvs.length < 4000) (q : R (upd H d (.dK (putK kvs (.inr n) v)))) : ∃ a H4, V.ref d = .ref a ∧ DPut H a (.str n) v H4 ∧ R H4 := ⟨d, _, rfl, DPut.k (k := .inr n) h (by rw [sizeLine_eq]; omega), q⟩
theorem rd_dget2 (q : td σ H fun x H1 => ∃ a, x = .ref a ∧ IsD H1 a ∧ ty σ H1 fun y H2 => tx σ H2 fun z H3 => ∃ o, DGet H3 a y o ∧ Q (o.getD z) H3) : tDGet2 td ty tx σ H Q := q
theorem rd_dget2D {d : Addr} {kvs : List (Key × V)} {R : Addr → Prop} (h : H d = some (.dK kvs)) (q : R d) : ∃ a, V.ref d = .ref a ∧ IsD H a ∧ R a := ⟨d, rfl, .inl ⟨kvs, .inl h⟩, q⟩
theorem rd_dgetOI {d : Addr} {kvs : List (Key × V)} {n : Int} {R : Option V → Prop} (h : H d = some (.dK kvs)) (q : R (valV kvs (.inl n))) : ∃ o, DGet H d (.int n) o ∧ R o := ⟨_, DGet.k (k := .inl n) h, q⟩
theorem rd_dgetOS {d : Addr} {kvs : List (Key × V)} {n : Str} {R : Option V → Prop} (h : H d = some (.dK kvs)) (q : R (valV kvs (.inr n))) : ∃ o, DGet H d (.str n) o ∧ R o := ⟨_, DGet.k (k := .inr n) h, q⟩
theorem rd_pop0 {l : Addr} {y : V} {ys : List V} (h : H l = some (.lst (y :: ys))) (q : Q y (upd H l (.lst ys))) : rPopAt (.ref l) [.int 0] H Q := ⟨l, y :: ys, 0, 0, y, rfl, rfl, h, by decide, by decide, by unfold seqIndex?; simp, rfl, q⟩
theorem rd_popN {l : Addr} {xs : List V} {i : Int} {n : Nat} {y : V} (h : H l = some (.lst xs)) (hi : i = (n : Nat)) (hn : n < 2000) (e : xs[n]? = some y) (q : Q y (upd H l (.lst (xs.eraseIdx n)))) : rPopAt (.ref l) [.int i] H Q := by
  have hl : n < xs.length := (List.getElem?_eq_some_iff.mp e).1
  subst hi
  refine ⟨l, xs, _, n, y, rfl, rfl, h, by omega, by omega, ?_, e, q⟩
  unfold seqIndex?
  simp
  omega
theorem rd_any {a : Addr} {bs : List Bool} (h : SqL K H a (bs.map V.bl)) (q : Q (.bl (bs.any id)) H) : rAny K [.ref a] H Q := ⟨a, bs, rfl, h, q⟩
theorem rd_all {a : Addr} {bs : List Bool} (h : SqL K H a (bs.map V.bl)) (q : Q (.bl (bs.all id)) H) : rAll K [.ref a] H Q := ⟨a, bs, rfl, h, q⟩
theorem rd_minL {a : Addr} {ns : List Int} (h : SqL K H a (ns.map V.int)) (hn : 0 < ns.length) (q : ∀ m, m ∈ ns → (∀ y, y ∈ ns → m ≤ y) → Q (.int m) H) : rMin K [.ref a] H Q := ⟨a, ns, rfl, h, hn, q⟩
theorem rd_forR3 {ta : TA} {g : TG} {tb : TS} (q : ta σ H fun vs H1 => ∃ (i j c : Int) (n : Nat), vs = [.int i, .int j, .int c] ∧ RgC i j c n ∧ ForW (Itc i c n) g tb D σ H1) : tFor (iRng3 ta) g tb D σ H := q
theorem rd_fr3d {i j : Int} {R : Int → Int → Nat → Prop} (h : -1000 ≤ i ∧ i ≤ 1000 ∧ -1000 ≤ j ∧ j ≤ 1000) (q : R i (-1) (i - j).toNat) : ∃ (a b c : Int) (n : Nat), [V.int i, V.int j, V.int (-1)] = [.int a, .int b, .int c] ∧ RgC a b c n ∧ R a c n := ⟨i, j, -1, _, rfl, RgC.neg (by omega) (by omega) (by omega) (by omega), q⟩
theorem forW_C {lo c : Int} {n : Nat} {g : TG} {tb : TS} (Pv : Nat → L2.St → Hp → Prop) (h0 : Pv 0 σ H)
    (hs : ∀ i σ H, i < n → Pv i σ H → g (.int (lo + (i : Nat) * c)) σ H fun σ2 H2 => tb { D with nx := Pv (i + 1), ct := Pv (i + 1), bk := D.nx } σ2 H2) (hd : ∀ σ H, Pv n σ H → D.nx σ H) : ForW (Itc lo c n) g tb D σ H := for_rangeC Pv h0 hs hd
end
def rIsNn : R2 := fun x y H Q => y = .non ∧ Q (.bl (decide (x = .non))) H
def rNotNn : R2 := fun x y H Q => y = .non ∧ Q (.bl (!decide (x = .non))) H
theorem op_isNn {X : Cx} : OpR X (compareOp .Is) rIsNn := op_isN
theorem op_notNn {X : Cx} : OpR X (compareOp .IsNot) rNotNn := op_notN
section
variable {K : PySem.W.Frag} {H : Hp} {Q : VK}
theorem rd_isN0 {v : V} {b : Bool} (e : decide (v = .non) = b) (q : Q (.bl b) H) : rIsNn v .non H Q := ⟨rfl, by rw [e]; exact q⟩
theorem rd_notN0 {v : V} {b : Bool} (e : decide (v = .non) = b) (q : Q (.bl (!b)) H) : rNotNn v .non H Q := ⟨rfl, by rw [e]; exact q⟩
end
end Qa
namespace Qa
open PySem PySem.Spec PyProof.Rows L2
/-! enumerate; comprehensions over any walk -/
section
variable {K : PySem.W.Frag} {σ : L2.St} {H : Hp} {Q : VK} {g : TG} {tb : TS} {D : Ends} {tt : TT} {te tl : TE} {ta : TA} {vs : List Nat} {J : It}
theorem pg_tupK {X : Cx} {es : List Expr} {k : Nat} {t : TGs} {n : Nat} {pos : Pos} (hK : X.K = K) (hc : X.calm = true) (h : PGs X es t)
    (hn : (assignEach es X.env).length = n := by rfl) (hst : (assignEach es X.env).findIdx? (·.1) = none := by rfl) : PG X (.Tuple es k pos) (gTup K n t) := by
  subst hK
  exact pg_tup hc h hn hst
theorem rd_forE (q : ta σ H fun vs H1 => ∃ a xs, vs = [.ref a] ∧ SqL K H1 a xs ∧ ForW (Ite K a) g tb D σ H1) : tFor (iEnum K ta) g tb D σ H := q
theorem rd_lcE (q : ta σ H fun us H1 => ∃ a xs, us = [.ref a] ∧ SqL K H1 a xs ∧ LcW (Ite K a) g tt te vs σ H1 Q) : tLc (iEnum K ta) g tt te vs σ H Q := q
theorem rd_enA {a : Addr} {xs : List V} {R : Addr → Prop} (h : SqL K H a xs) (q : R a) : ∃ b ys, [V.ref a] = [.ref b] ∧ SqL K H b ys ∧ R b := ⟨a, xs, rfl, h, q⟩
theorem forW_E {a : Addr} (xs : List V) (Pv : Nat → L2.St → Hp → Prop) (h0 : Pv 0 σ H) (hl : ∀ i σ H, i ≤ xs.length → Pv i σ H → SqL K H a xs)
    (hs : ∀ i x T σ H H', xs[i]? = some x → Pv i σ H → H T = none → Ex H H' → H' T = some (.tup [.int (i : Nat), x]) → g (.ref T) σ H' fun σ2 H2 => tb { D with nx := Pv (i + 1), ct := Pv (i + 1), bk := D.nx } σ2 H2) (hd : ∀ σ H, Pv xs.length σ H → D.nx σ H) : ForW (Ite K a) g tb D σ H :=
  forW_it walk_enum Pv h0 hl (fun i x σ H H' hi hp y => by
    obtain ⟨T, x, z, rfl, hT, rfl, h4, h5⟩ := y
    cases h4
    exact hs i z T σ H _ h5 hp hT (Evl.Ex.new hT) upd_same) hd
theorem lcW_it {n : Nat} {G : Hp → Prop} {Y : Nat → Hp → V → Hp → Prop} (w : Walk J n G Y) (Pv : Addr → Nat → Hp → Prop) (h0 : ∀ D H', H D = none → Ex H H' → H' D = some (.lst []) → Pv D 0 H') (hG : ∀ D i H', H D = none → i ≤ n → Pv D i H' → G H')
    (hs : ∀ D i x H1 H', H D = none → i < n → Pv D i H1 → Y i H1 x H' → g x (wipe σ vs) H' fun σ2 H2 => wipe σ2 vs = wipe σ vs ∧ tt σ2 H2 fun b H3 =>
      if b = true then te σ2 H3 fun y H4 => ∃ acc, H4 D = some (.lst acc) ∧ acc.length < sizeLine ∧ Pv D (i + 1) (upd H4 D (.lst (acc ++ [y]))) else Pv D (i + 1) H3)
    (hd : ∀ D H', H D = none → Pv D n H' → Q (.ref D) H') : LcW J g tt te vs σ H Q := by
  intro D hD
  refine ⟨fun i m H => m = n - i ∧ i ≤ n ∧ Pv D i H, ⟨n, by simp, Nat.zero_le _, h0 D _ hD (Evl.Ex.new hD) upd_same⟩, ?_⟩
  rintro i m H1 ⟨rfl, hi, p⟩
  have q := hG D i H1 hD hi p
  by_cases hlt : i < n
  · refine .inr ⟨w.goes i H1 hlt q, Pv D (i + 1), fun H' p' => ⟨n - (i + 1), by omega, rfl, hlt, p'⟩, fun x H' y => ?_⟩
    exact hs D i x H1 H' hD hlt p (w.yields i H1 x H' hlt q y)
  · have e : i = n := by omega
    subst e
    exact .inl ⟨w.stops H1 q, hd D H1 hD p⟩
theorem lcW_E {a : Addr} (xs : List V) (Pv : Addr → Nat → Hp → Prop) (h0 : ∀ D H', H D = none → Ex H H' → H' D = some (.lst []) → Pv D 0 H') (hl : ∀ D i H', H D = none → i ≤ xs.length → Pv D i H' → SqL K H' a xs)
    (hs : ∀ D i x T H1 H', H D = none → xs[i]? = some x → Pv D i H1 → H1 T = none → Ex H1 H' → H' T = some (.tup [.int (i : Nat), x]) → g (.ref T) (wipe σ vs) H' fun σ2 H2 => wipe σ2 vs = wipe σ vs ∧ tt σ2 H2 fun b H3 =>
      if b = true then te σ2 H3 fun y H4 => ∃ acc, H4 D = some (.lst acc) ∧ acc.length < sizeLine ∧ Pv D (i + 1) (upd H4 D (.lst (acc ++ [y]))) else Pv D (i + 1) H3)
    (hd : ∀ D H', H D = none → Pv D xs.length H' → Q (.ref D) H') : LcW (Ite K a) g tt te vs σ H Q :=
  lcW_it walk_enum Pv h0 hl (fun D i x H1 H' hD hi hp y => by
    obtain ⟨T, x, z, rfl, hT, rfl, h4, h5⟩ := y
    cases h4
    exact hs D i z T H1 _ hD h5 hp hT (Evl.Ex.new hT) upd_same) hd
theorem rd_remI {l : Addr} {ns : List Int} {k : Int} {j : Nat} (h : H l = some (.lst (ns.map V.int))) (e : ns[j]? = some k) (no : ∀ m, m < j → ns[m]? ≠ some k) (q : Q .non (upd H l (.lst ((ns.eraseIdx j).map V.int)))) : rRemI (.ref l) [.int k] H Q := ⟨l, ns, k, j, rfl, rfl, h, e, no, q⟩
end
end Qa
namespace Hq
open PySem PySem.Spec PyProof.Rows L2
theorem plain_sift : plainId "_heapq.heapify.sift" = true := by decide +kernel
theorem entry_sift : entryFor table "_heapq.heapify.sift" = some Builtin.«_heapq.heapify.sift» := entryFor_of_fast (by kernel_rfl)
theorem plain_push : plainId "_heapq.heappush" = true := by decide +kernel
theorem entry_push : entryFor table "_heapq.heappush" = some Builtin.«_heapq.heappush» := entryFor_of_fast (by kernel_rfl)
theorem plain_pop : plainId "_heapq.heappop" = true := by decide +kernel
theorem entry_pop : entryFor table "_heapq.heappop" = some Builtin.«_heapq.heappop» := entryFor_of_fast (by kernel_rfl)
theorem kind_push : builtinKind "_heapq.heappush" = none := by decide +kernel
theorem kind_pop : builtinKind "_heapq.heappop" = none := by decide +kernel
theorem args_push (a b : Value) : argsOk "_heapq.heappush" ⟨[a, b], []⟩ := by rfl
theorem args_pop (a : Value) : argsOk "_heapq.heappop" ⟨[a], []⟩ := by rfl
abbrev LstO (its : Array Value) (n : Nat) : Obj := { cls := .type "list", dict := none, data := .seq its n, slots := #[] }
def av (xs : Array Value) (i : Nat) : Int := match xs[i]? with | some (.int k _) => k | _ => 0
def Ints (xs : Array Value) : Prop := ∀ i, i < xs.size → ∃ k t, xs[i]? = some (.int k t)
theorem Ints.at {xs : Array Value} (h : Ints xs) {i : Nat} (hi : i < xs.size) : ∃ t, xs[i]? = some (.int (av xs i) t) := by
  obtain ⟨k, t, e⟩ := h i hi
  exact ⟨t, by unfold av; rw [e]⟩
def sw (xs : Array Value) (i j : Nat) (x y : Value) : Array Value := (xs.setIfInBounds i y).setIfInBounds j x
section
variable {xs : Array Value} {i j : Nat} {x y : Value}
theorem sw_size : (sw xs i j x y).size = xs.size := by simp [sw]
theorem sw_get (hi : xs[i]? = some x) (hj : xs[j]? = some y) (k : Nat) : (sw xs i j x y)[k]? = if k = j then some x else if k = i then some y else xs[k]? := by
  have li := (Array.getElem?_eq_some_iff.mp hi).1
  have lj := (Array.getElem?_eq_some_iff.mp hj).1
  unfold sw
  rw [Array.getElem?_setIfInBounds, Array.getElem?_setIfInBounds]
  simp only [Array.size_setIfInBounds]
  by_cases h1 : j = k
  · subst h1
    simp [lj]
  · rw [if_neg h1, if_neg (Ne.symm h1)]
    by_cases h2 : i = k
    · subst h2
      simp [li]
    · rw [if_neg h2, if_neg (Ne.symm h2)]
theorem sw_ints (h : Ints xs) (hi : xs[i]? = some x) (hj : xs[j]? = some y) : Ints (sw xs i j x y) := by
  intro k hk
  rw [sw_size] at hk
  rw [sw_get hi hj]
  have li := (Array.getElem?_eq_some_iff.mp hi).1
  have lj := (Array.getElem?_eq_some_iff.mp hj).1
  split
  · obtain ⟨a, t, e⟩ := h i li
    exact ⟨a, t, by rw [← hi, e]⟩
  · split
    · obtain ⟨a, t, e⟩ := h j lj
      exact ⟨a, t, by rw [← hj, e]⟩
    · exact h k hk
theorem sw_av (hi : xs[i]? = some x) (hj : xs[j]? = some y) (k : Nat) : av (sw xs i j x y) k = if k = j then av xs i else if k = i then av xs j else av xs k := by
  have e := sw_get hi hj k
  by_cases h1 : k = j
  · rw [if_pos h1] at e ⊢
    unfold av
    rw [e, hi]
  · rw [if_neg h1] at e ⊢
    by_cases h2 : k = i
    · rw [if_pos h2] at e ⊢
      unfold av
      rw [e, hj]
    · rw [if_neg h2] at e ⊢
      unfold av
      rw [e]
theorem sw_perm (hi : xs[i]? = some x) (hj : xs[j]? = some y) : (sw xs i j x y).toList.Perm xs.toList := by
  obtain ⟨li, ei⟩ := Array.getElem?_eq_some_iff.mp hi
  obtain ⟨lj, ej⟩ := Array.getElem?_eq_some_iff.mp hj
  have e : sw xs i j x y = xs.swap i j li lj := by
    unfold sw
    rw [Array.swap_def, ← ei, ← ej]
    simp [Array.setIfInBounds, li, lj]
  rw [e]
  exact (Array.swap_perm li lj).toList
end
/-- in order at all places -/
def HP (xs : Array Value) : Prop := ∀ i, 0 < i → i < xs.size → av xs ((i - 1) / 2) ≤ av xs i
/-- but for one place, which may stand too low -/
structure UH (xs : Array Value) (p : Nat) : Prop where
  ot : ∀ i, 0 < i → i < xs.size → i ≠ p → av xs ((i - 1) / 2) ≤ av xs i
  gr : 0 < p → ∀ c, 0 < c → c < xs.size → (c - 1) / 2 = p → av xs ((p - 1) / 2) ≤ av xs c
/-- but for one place, which may stand anywhere -/
structure DH (xs : Array Value) (p : Nat) : Prop where
  ot : ∀ i, 0 < i → i < xs.size → i ≠ p → (i - 1) / 2 ≠ p → av xs ((i - 1) / 2) ≤ av xs i
  gr : 0 < p → ∀ c, 0 < c → c < xs.size → (c - 1) / 2 = p → av xs ((p - 1) / 2) ≤ av xs c
section
variable {xs : Array Value} {p : Nat}
theorem UH.done (h : UH xs p) (e : p = 0 ∨ ¬ av xs p < av xs ((p - 1) / 2)) : HP xs := by
  intro i h0 h1
  by_cases hi : i = p
  · subst hi
    rcases e with e | e
    · omega
    · omega
  · exact h.ot i h0 h1 hi
theorem UH.up {x y : Value} (h : UH xs p) (h0 : 0 < p) (hi : xs[(p - 1) / 2]? = some x) (hj : xs[p]? = some y) (lt : av xs p < av xs ((p - 1) / 2)) : UH (sw xs ((p - 1) / 2) p x y) ((p - 1) / 2) := by
  have lp := (Array.getElem?_eq_some_iff.mp hj).1
  refine ⟨fun i i0 i1 ni => ?_, fun q0 c c0 c1 ec => ?_⟩
  · rw [sw_size] at i1
    rw [sw_av hi hj, sw_av hi hj]
    by_cases e1 : i = p
    · subst e1
      rw [if_neg (by omega), if_pos rfl, if_pos rfl]
      omega
    · rw [if_neg e1, if_neg ni]
      by_cases e2 : (i - 1) / 2 = p
      · rw [if_pos e2]
        exact h.gr h0 i i0 i1 e2
      · rw [if_neg e2]
        by_cases e3 : (i - 1) / 2 = (p - 1) / 2
        · rw [if_pos e3]
          have := h.ot i i0 i1 e1
          rw [e3] at this
          omega
        · rw [if_neg e3]
          exact h.ot i i0 i1 e1
  · rw [sw_size] at c1
    rw [sw_av hi hj, sw_av hi hj]
    have hg := h.ot ((p - 1) / 2) q0 (by omega) (by omega)
    rw [if_neg (by omega), if_neg (by omega)]
    by_cases e1 : c = p
    · rw [if_pos e1]
      exact hg
    · rw [if_neg e1, if_neg (by omega)]
      have := h.ot c c0 c1 e1
      rw [ec] at this
      omega
theorem DH.leaf (h : DH xs p) (hp : xs.size ≤ 2 * p + 1) : UH xs p :=
  ⟨fun i i0 i1 ni => h.ot i i0 i1 ni (by omega), h.gr⟩
theorem DH.down {c : Nat} {x y : Value} (h : DH xs p) (c1 : c < xs.size) (ec : (c - 1) / 2 = p) (c0 : 0 < c) (hi : xs[c]? = some x) (hj : xs[p]? = some y) (le : ∀ i, 0 < i → i < xs.size → (i - 1) / 2 = p → av xs c ≤ av xs i) : DH (sw xs c p x y) c := by
  refine ⟨fun i i0 i1 ni nc => ?_, fun _ d d0 d1 ed => ?_⟩
  · rw [sw_size] at i1
    rw [sw_av hi hj, sw_av hi hj]
    by_cases e1 : i = p
    · subst e1
      rw [if_neg (by omega), if_neg nc, if_pos rfl]
      exact h.gr i0 c c0 c1 ec
    · rw [if_neg e1, if_neg ni]
      by_cases e2 : (i - 1) / 2 = p
      · rw [if_pos e2]
        exact le i i0 i1 e2
      · rw [if_neg e2, if_neg nc]
        exact h.ot i i0 i1 e1 e2
  · rw [sw_size] at d1
    rw [sw_av hi hj, sw_av hi hj]
    rw [if_pos ec, if_neg (by omega), if_neg (by omega)]
    have := h.ot d d0 d1 (by omega) (by omega)
    rw [ed] at this
    exact this
theorem HP.min (h : HP xs) : ∀ i, i < xs.size → av xs 0 ≤ av xs i := by
  intro i
  induction i using Nat.strongRecOn with
  | _ i ih =>
    intro hi
    by_cases e : i = 0
    · subst e
      exact Int.le_refl _
    · have h1 := ih ((i - 1) / 2) (by omega) (by omega)
      have h2 := h i (by omega) hi
      omega
end
theorem lt_i {prog : Program} {w : World} {A : Around} {E : Value → Shared → Prop} {s : Shared} {x y : Int} {t u : Tok} {Q : Value → Shared → Prop} (h : Q (.bool (decide (x < y))) s) : wpAny (model prog w) A (richCompare .Lt (.int x t) (.int y u)) Q E s :=
  (PyProof.Rows.lt_int h : wpAny (model prog w) A (compareOp .Lt (.int x t) (.int y u)) Q E s)
theorem rawInt_eq (i : Int) : ∃ t, rawInt i = .int i t := ⟨_, rfl⟩
def Ends (a : Addr) (its : Array Value) (result : Value) (R : Result → Shared → Prop) (s : Shared) : Prop :=
  ∀ (its' : Array Value) (h' : Heap) (n' : Nat), its'.toList.Perm its.toList → HP its' → Ints its' → Heap.SameBut a s.heap h' → h'.get? a = some (LstO its' n') → R (.ok (.ret result)) { s with heap := h' }
theorem sift_up (a : Addr) (result : Value) : ∀ (p : Nat) (its : Array Value) (n : Nat), its.size ≤ 200 → p < its.size → Ints its → UH its p →
    Meets (Builtin.«_heapq.heapify.sift» ⟨[.ref a, .bool false, .bool false, rawInt p, rawInt 0, result, rawInt (-1)], []⟩)
      (fun _ R s => s.heap.get? a = some (LstO its n) ∧ Ends a its result R s) := by
  intro p
  induction p using Nat.strongRecOn with
  | _ p ih =>
  intro its n hz hp hI hU prog w A R s h
  obtain ⟨hh, g, d, tk, os⟩ := s; obtain ⟨hl, h⟩ := h
  obtain ⟨t, hx⟩ := hI.at hp
  obtain ⟨t', hx'⟩ := hI.at (show (p - 1) / 2 < its.size by omega)
  by_cases e : p = 0
  · subst e
    wp_walk using wpAny_loadPart' hl
    exact h its hh n (.refl _) (hU.done (.inl rfl)) hI (.refl _ _) hl
  · wp_walk using wpAny_loadPart' hl
    rw [Int.toNat_natCast, if_pos (show p > Int.toNat 0 by show p > 0; omega)]
    wp_walk
    rw [hx]
    wp_walk
    rw [hx']
    wp_walk using lt_i, wpAny_loadPart' hl
    by_cases lt : av its p < av its ((p - 1) / 2)
    · rw [if_pos (decide_eq_true lt)]
      have hs1 : its.size ≤ sizeLine := by rw [sizeLine_eq]; omega
      have hs2 : (sw its ((p - 1) / 2) p (.int (av its ((p - 1) / 2)) t') (.int (av its p) t)).size ≤ sizeLine + 1 := by rw [sw_size]; omega
      wp_walk using wpAny_loadPart' hl
      rw [hx']
      wp_walk using wpAny_loadPart' hl
      rw [hx]
      wp_walk using (wpAny_updateSeq hl rfl (hz := hs1) (_hz' := hs2))
      have hl' : (hh.update a (Obj.mapSeq fun xs => (xs.setIfInBounds ((p - 1) / 2) (Value.int (av its p) t)).setIfInBounds p (Value.int (av its ((p - 1) / 2)) t'))).get? a = some (LstO (sw its ((p - 1) / 2) p (.int (av its ((p - 1) / 2)) t') (.int (av its p) t)) _) := Heap.get?_update_self (h := hh) _ hl rfl
      refine ⟨plainId_quiet plain_sift _, codeAny_builtin entry_sift ?_⟩
      rw [Around.under_plainId plain_sift _]
      refine ih ((p - 1) / 2) (by omega) _ _ (by rw [sw_size]; exact hz) (by rw [sw_size]; omega) (sw_ints hI hx' hx) (hU.up (by omega) hx' hx lt) prog w A R _ ⟨hl', ?_⟩
      intro its' h' n' pm hp' hi' sb hg
      exact h its' h' n' (pm.trans (sw_perm hx' hx)) hp' hi' ((Heap.SameBut.update _ _ _).trans sb) hg
    · rw [if_neg (by rw [decide_eq_false lt]; exact Bool.false_ne_true)]
      wp_walk
      exact h its hh n (.refl _) (hU.done (.inr lt)) hI (.refl _ _) hl
theorem sift_down (a : Addr) (result : Value) : ∀ (m p : Nat) (its : Array Value) (n : Nat), its.size - p ≤ m → its.size ≤ 200 → p < its.size → Ints its → DH its p →
    Meets (Builtin.«_heapq.heapify.sift» ⟨[.ref a, .bool false, .bool true, rawInt p, rawInt 0, result, rawInt (-1)], []⟩)
      (fun _ R s => s.heap.get? a = some (LstO its n) ∧ Ends a its result R s) := by
  intro m
  induction m with
  | zero => intro p its n h1 _ h2; omega
  | succ m ih =>
  intro p its n hm hz hp hI hD prog w A R s h
  obtain ⟨hh, g, d, tk, os⟩ := s; obtain ⟨hl, h⟩ := h
  obtain ⟨t, hx⟩ := hI.at hp
  wp_walk using wpAny_loadPart' hl
  rw [Int.toNat_natCast]
  by_cases e : p < its.size / 2
  · rw [if_pos e]
    wp_walk
    have hs1 : its.size ≤ sizeLine := by rw [sizeLine_eq]; omega
    have go : ∀ (c : Nat) (u : Tok), c < its.size → (c - 1) / 2 = p → 0 < c → its[c]? = some (.int (av its c) u) → (∀ i, 0 < i → i < its.size → (i - 1) / 2 = p → av its c ≤ av its i) → ∀ f : Array Value → Array Value, f = (fun xs => sw xs c p (.int (av its c) u) (.int (av its p) t)) →
        codeAny (model prog w) A (.builtin "_heapq.heapify.sift" ⟨[.ref a, .bool false, .bool true, rawInt c, rawInt 0, result, rawInt (-1)], []⟩) R { heap := hh.update a (Obj.mapSeq f), gens := g, drawn := d, toks := tk, os := os } := by
      intro c u hc ec c0 hcu le f ef
      subst ef
      have hl' : (hh.update a (Obj.mapSeq fun xs => sw xs c p (.int (av its c) u) (.int (av its p) t))).get? a = some (LstO (sw its c p (.int (av its c) u) (.int (av its p) t)) _) := Heap.get?_update_self (h := hh) _ hl rfl
      refine codeAny_builtin entry_sift ?_
      rw [Around.under_plainId plain_sift _]
      refine ih c _ _ (by rw [sw_size]; omega) (by rw [sw_size]; exact hz) (by rw [sw_size]; omega) (sw_ints hI hcu hx) (hD.down hc ec c0 hcu hx le) prog w A R _ ⟨hl', ?_⟩
      intro its' h' n' pm hp' hi' sb hg
      exact h its' h' n' (pm.trans (sw_perm hcu hx)) hp' hi' ((Heap.SameBut.update _ _ _).trans sb) hg
    have hs2 : ∀ c x y, (sw its c p x y).size ≤ sizeLine + 1 := fun c x y => by rw [sw_size]; omega
    obtain ⟨t1, h1⟩ := hI.at (show 2 * p + 1 < its.size by omega)
    by_cases e2 : 2 * p + 1 + 1 < its.size
    · rw [if_pos e2]
      obtain ⟨t2, h2⟩ := hI.at e2
      wp_walk using wpAny_loadPart' hl
      rw [h1]
      wp_walk using wpAny_loadPart' hl
      rw [h2]
      wp_walk using lt_i, wpAny_loadPart' hl
      by_cases lt : av its (2 * p + 1) < av its (2 * p + 1 + 1)
      · rw [if_neg (by rw [decide_eq_true lt]; decide)]
        wp_walk using wpAny_loadPart' hl
        rw [h1]
        wp_walk using wpAny_loadPart' hl
        rw [hx]
        wp_walk using (wpAny_updateSeq hl rfl (hz := hs1) (_hz' := hs2 _ _ _))
        refine ⟨plainId_quiet plain_sift _, go (2 * p + 1) t1 (by omega) (by omega) (by omega) h1 (fun i i0 i1 i2 => ?_) _ rfl⟩
        by_cases ei : i = 2 * p + 1
        · rw [ei]; exact Int.le_refl _
        · rw [show i = 2 * p + 1 + 1 by omega]; omega
      · rw [if_pos (by rw [decide_eq_false lt]; decide)]
        wp_walk using wpAny_loadPart' hl
        rw [h2]
        wp_walk using wpAny_loadPart' hl
        rw [hx]
        wp_walk using (wpAny_updateSeq hl rfl (hz := hs1) (_hz' := hs2 _ _ _))
        refine ⟨plainId_quiet plain_sift _, go (2 * p + 1 + 1) t2 (by omega) (by omega) (by omega) h2 (fun i i0 i1 i2 => ?_) _ rfl⟩
        by_cases ei : i = 2 * p + 1 + 1
        · rw [ei]; exact Int.le_refl _
        · rw [show i = 2 * p + 1 by omega]; omega
    · rw [if_neg e2]
      wp_walk using wpAny_loadPart' hl
      rw [h1]
      wp_walk using wpAny_loadPart' hl
      rw [hx]
      wp_walk using (wpAny_updateSeq hl rfl (hz := hs1) (_hz' := hs2 _ _ _))
      refine ⟨plainId_quiet plain_sift _, go (2 * p + 1) t1 (by omega) (by omega) (by omega) h1 (fun i i0 i1 i2 => ?_) _ rfl⟩
      rw [show i = 2 * p + 1 by omega]
      exact Int.le_refl _
  · rw [if_neg e]
    wp_walk
    refine ⟨plainId_quiet plain_sift _, codeAny_builtin entry_sift ?_⟩
    rw [Around.under_plainId plain_sift _]
    exact sift_up a result p its n hz hp hI (hD.leaf (by omega)) prog w A R _ ⟨hl, h⟩
/-! the two functions -/
theorem sub_ll : isSubtype (.type "list") (.type "list") = pure true := by rw [isSubtype_type]; kernel_rfl
theorem av_push {its : Array Value} {v : Value} {i : Nat} (h : i < its.size) : av (its.push v) i = av its i := by
  unfold av
  rw [Array.getElem?_push_lt h, Array.getElem?_eq_getElem h]
theorem av_eq {xs ys : Array Value} {i j : Nat} (h : xs[i]? = ys[j]?) : av xs i = av ys j := by
  unfold av
  rw [h]
theorem push_meets (a : Addr) (its : Array Value) (n : Nat) (k : Int) (u : Tok) (hz : its.size ≤ 100) (hI : Ints its) (hH : HP its) :
    Meets (Builtin.«_heapq.heappush» ⟨[.ref a, .int k u], []⟩)
      (fun _ R s => s.heap.get? a = some (LstO its n) ∧ Ends a (its.push (.int k u)) .none R s) := by
  intro prog w A R s h
  obtain ⟨hh, g, d, tk, os⟩ := s; obtain ⟨hl, h⟩ := h
  have hsub := sub_ll
  have hs1 : its.size ≤ sizeLine := by rw [sizeLine_eq]; omega
  have hs2 : (its.push (.int k u)).size ≤ sizeLine + 1 := by rw [Array.size_push]; omega
  have hT : Shared.TypeIs { heap := hh, gens := g, drawn := d, toks := tk, os := os } (.ref a) "list" := ⟨_, hl, rfl⟩
  have hl' : (hh.update a (Obj.mapSeq fun xs => xs.push (.int k u))).get? a = some (LstO (its.push (.int k u)) _) := Heap.get?_update_self (h := hh) _ hl rfl
  wp_walk using (wpAny_updateSeq hl rfl (hz := hs1) (_hz' := hs2)), wpAny_loadPart' hl'
  refine ⟨plainId_quiet plain_sift _, codeAny_builtin entry_sift ?_⟩
  rw [Around.under_plainId plain_sift _]
  have hp : (its.push (.int k u)).size - 1 < (its.push (.int k u)).size := by rw [Array.size_push]; omega
  have hI' : Ints (its.push (.int k u)) := by
    intro i hi
    rw [Array.size_push] at hi
    by_cases e : i = its.size
    · subst e
      exact ⟨k, u, by simp⟩
    · rw [Array.getElem?_push_lt (show i < its.size by omega)]
      obtain ⟨k', t', e'⟩ := hI i (by omega)
      rw [Array.getElem?_eq_getElem (by omega)] at e'
      exact ⟨k', t', e'⟩
  refine sift_up a .none _ _ _ (by rw [Array.size_push]; omega) hp hI' ⟨fun i i0 i1 ni => ?_, fun _ c c0 c1 ec => ?_⟩ prog w A R _ ⟨hl', ?_⟩
  · rw [Array.size_push] at i1 ni
    rw [av_push (by omega), av_push (by omega)]
    exact hH i i0 (by omega)
  · rw [Array.size_push] at c1 ec
    omega
  · intro its' h' n' pm hp' hi' sb hg
    exact h its' h' n' pm hp' hi' ((Heap.SameBut.update _ _ _).trans sb) hg
theorem pop_meets (a : Addr) (its : Array Value) (n : Nat) (hz : its.size ≤ 100) (h0 : 0 < its.size) (hI : Ints its) (hH : HP its) :
    Meets (Builtin.«_heapq.heappop» ⟨[.ref a], []⟩)
      (fun _ R s => s.heap.get? a = some (LstO its n) ∧ ∀ (its' : Array Value) (t : Tok) (h' : Heap) (n' : Nat), its[0]? = some (.int (av its 0) t) → (.int (av its 0) t :: its'.toList).Perm its.toList → HP its' → Ints its' → Heap.SameBut a s.heap h' → h'.get? a = some (LstO its' n') → R (.ok (.ret (.int (av its 0) t))) { s with heap := h' }) := by
  intro prog w A R s h
  obtain ⟨hh, g, d, tk, os⟩ := s; obtain ⟨hl, h⟩ := h
  have hsub := sub_ll
  have hT : Shared.TypeIs { heap := hh, gens := g, drawn := d, toks := tk, os := os } (.ref a) "list" := ⟨_, hl, rfl⟩
  have hs1 : its.size ≤ sizeLine := by rw [sizeLine_eq]; omega
  have hs2 : its.pop.size ≤ sizeLine + 1 := by rw [Array.size_pop]; omega
  obtain ⟨t0, e0⟩ := hI.at h0
  obtain ⟨tl, el⟩ := hI.at (show its.size - 1 < its.size by omega)
  have hb : its.back? = some (.int (av its (its.size - 1)) tl) := by rw [Array.back?_eq_getElem?]; exact el
  have hl' : (hh.update a (Obj.mapSeq fun xs => xs.pop)).get? a = some (LstO its.pop _) := Heap.get?_update_self (h := hh) _ hl rfl
  wp_walk using wpAny_loadPart' hl
  rw [hb]
  wp_walk using (wpAny_updateSeq hl rfl (hz := hs1) (_hz' := hs2)), wpAny_loadPart' hl'
  obtain ⟨l, hl0⟩ : ∃ l : List Value, its.toList = .int (av its 0) t0 :: l := by
    cases e : its.toList with
    | nil =>
      have : its.size = 0 := by rw [← Array.length_toList, e]; rfl
      omega
    | cons v l =>
      have : its.toList[0]? = some (.int (av its 0) t0) := by rw [Array.getElem?_toList]; exact e0
      rw [e] at this
      exact ⟨l, by rw [show v = _ from Option.some.inj this]⟩
  by_cases e1 : its.size = 1
  · rw [if_pos (by rw [e1]; rfl)]
    wp_walk
    have el0 : its[0]? = some (.int (av its 0) tl) := by rw [show (0 : Nat) = its.size - 1 by omega]; exact el
    rw [show its.size - 1 = 0 by omega]
    refine h its.pop tl _ _ el0 ?_ (fun i i0 i1 => by rw [Array.size_pop] at i1; omega) (fun i i1 => by rw [Array.size_pop] at i1; omega) (.update _ _ _) hl'
    have hn : l = [] := by
      have : its.toList.length = 1 := by rw [Array.length_toList]; exact e1
      rw [hl0] at this
      exact List.length_eq_zero_iff.mp (Nat.succ.inj this)
    have et : t0 = tl := by
      rw [e0] at el0
      cases el0
      rfl
    rw [Array.toList_pop, hl0, hn, et]
    exact .refl _
  · rw [if_neg (by simp [e1])]
    wp_walk
    rw [e0]
    have hps : its.pop.size ≤ sizeLine := by rw [Array.size_pop]; omega
    have hps2 : (its.pop.setIfInBounds 0 (.int (av its (its.size - 1)) tl)).size ≤ sizeLine + 1 := by rw [Array.size_setIfInBounds, Array.size_pop]; omega
    have hl2 : ((hh.update a (Obj.mapSeq fun xs => xs.pop)).update a (Obj.mapSeq fun xs => xs.setIfInBounds 0 (.int (av its (its.size - 1)) tl))).get? a = some (LstO (its.pop.setIfInBounds 0 (.int (av its (its.size - 1)) tl)) _) := Heap.get?_update_self (h := hh.update a (Obj.mapSeq fun xs => xs.pop)) _ hl' rfl
    wp_walk using (wpAny_updateSeq hl' rfl (hz := hps) (_hz' := hps2))
    refine ⟨plainId_quiet plain_sift _, codeAny_builtin entry_sift ?_⟩
    rw [Around.under_plainId plain_sift _]
    generalize hv : (Value.int (av its (its.size - 1)) tl) = v at hl2 el hb ⊢
    have hsz : (its.pop.setIfInBounds 0 v).size = its.size - 1 := by rw [Array.size_setIfInBounds, Array.size_pop]
    have hget : ∀ i, 0 < i → i < its.size - 1 → (its.pop.setIfInBounds 0 v)[i]? = its[i]? := fun i i0 i1 => by
      rw [Array.getElem?_setIfInBounds, if_neg (by omega), Array.getElem?_pop, if_pos (by omega)]
    have hI' : Ints (its.pop.setIfInBounds 0 v) := by
      intro i hi
      rw [hsz] at hi
      by_cases ei : i = 0
      · subst ei
        rw [Array.getElem?_setIfInBounds, if_pos rfl, if_pos (by rw [Array.size_pop]; omega)]
        exact ⟨_, _, by rw [← hv]⟩
      · rw [hget i (by omega) hi]
        exact hI i (by omega)
    refine sift_down a (.int (av its 0) t0) _ 0 _ _ (Nat.le_refl _) (by rw [hsz]; omega) (by rw [hsz]; omega) hI' ⟨fun i i0 i1 _ ni => ?_, fun z => absurd z (Nat.lt_irrefl _)⟩ prog w A R _ ⟨hl2, ?_⟩
    · rw [hsz] at i1
      rw [av_eq (hget i i0 i1), av_eq (hget ((i - 1) / 2) (by omega) (by omega))]
      exact hH i i0 (by omega)
    · intro its' h' n' pm hp' hi' sb hg
      refine h its' t0 h' n' e0 ?_ hp' hi' (((Heap.SameBut.update _ _ _).trans (Heap.SameBut.update _ _ _)).trans sb) hg
      refine (pm.cons _).trans ?_
      have hl1 : l ≠ [] := by
        intro z
        have := Array.length_toList (xs := its)
        rw [hl0, z] at this
        exact e1 this.symm
      have hlast : l.getLast hl1 = v := by
        have h1 : its.toList[its.size - 1]? = some v := by rw [Array.getElem?_toList]; exact el
        have h2 : its.toList.length = its.size := Array.length_toList
        rw [hl0] at h1 h2
        have h3 : its.size - 1 = l.length - 1 + 1 := by
          have : 0 < l.length := List.length_pos_iff.mpr hl1
          have : l.length + 1 = its.size := h2
          omega
        rw [h3, List.getElem?_cons_succ, ← List.getLast?_eq_getElem?, List.getLast?_eq_some_getLast hl1] at h1
        exact Option.some.inj h1
      have e2 : (its.pop.setIfInBounds 0 v).toList = v :: l.dropLast := by
        rw [Array.toList_setIfInBounds, Array.toList_pop, hl0, List.dropLast_cons_of_ne_nil hl1]
        rfl
      rw [e2, hl0]
      refine List.Perm.cons _ ?_
      have := List.dropLast_concat_getLast hl1
      rw [hlast] at this
      rw [← this]
      simpa using (List.perm_append_comm (l₁ := [v]) (l₂ := l.dropLast))
end Hq
namespace Qa
open PySem PySem.Spec PyProof.Rows L2
/-- a list in heap order -/
def hpL (ns : List Int) : Prop := ∀ i, 0 < i → i < ns.length → ns.getD ((i - 1) / 2) 0 ≤ ns.getD i 0
def ivl : Value → Int
  | .int k _ => k
  | _ => 0
theorem vals_ivl : ∀ {ns : List Int} {its : List Value}, Vals (ns.map V.int) its → its.map ivl = ns ∧ ∀ v ∈ its, ∃ k t, v = Value.int k t
  | [], its, r => by
    cases its with
    | nil => exact ⟨rfl, by simp⟩
    | cons _ _ => cases r
  | n :: ns, its, r => by
    cases r with
    | cons h t =>
      obtain ⟨tk, rfl⟩ := h
      obtain ⟨h1, h2⟩ := vals_ivl t
      refine ⟨by rw [List.map_cons, h1]; rfl, fun v hv => ?_⟩
      rcases List.mem_cons.mp hv with rfl | hv
      · exact ⟨_, _, rfl⟩
      · exact h2 v hv
theorem ivl_vals : ∀ {its : List Value}, (∀ v ∈ its, ∃ k t, v = Value.int k t) → Vals ((its.map ivl).map V.int) its
  | [], _ => .nil
  | v :: its, h => by
    obtain ⟨k, t, rfl⟩ := h v List.mem_cons_self
    exact .cons ⟨t, rfl⟩ (ivl_vals fun v hv => h v (List.mem_cons_of_mem _ hv))
theorem av_list (xs : Array Value) (i : Nat) : Hq.av xs i = (xs.toList.map ivl).getD i 0 := by
  unfold Hq.av
  rw [← Array.getElem?_toList, List.getD_eq_getElem?_getD, List.getElem?_map]
  cases e : xs.toList[i]? with
  | none => rfl
  | some v => cases v <;> rfl
theorem hp_list {xs : Array Value} : Hq.HP xs ↔ hpL (xs.toList.map ivl) := by
  unfold Hq.HP hpL
  rw [List.length_map, Array.length_toList]
  constructor
  · intro h i h0 h1
    have := h i h0 h1
    rw [av_list, av_list] at this
    exact this
  · intro h i h0 h1
    rw [av_list, av_list]
    exact h i h0 h1
theorem ints_list {xs : Array Value} : Hq.Ints xs ↔ ∀ v ∈ xs.toList, ∃ k t, v = Value.int k t := by
  constructor
  · intro h v hv
    obtain ⟨i, hi⟩ := List.getElem?_of_mem hv
    have hl : i < xs.size := by
      have := (List.getElem?_eq_some_iff.mp hi).1
      rw [Array.length_toList] at this
      exact this
    obtain ⟨k, t, e⟩ := h i hl
    rw [Array.getElem?_toList] at hi
    rw [e] at hi
    exact ⟨k, t, (Option.some.inj hi).symm⟩
  · intro h i hi
    have e : xs[i]? = some xs[i] := Array.getElem?_eq_getElem hi
    obtain ⟨k, t, e2⟩ := h xs[i] (by simp)
    exact ⟨k, t, by rw [e, e2]⟩
def rPush : List V → Hp → VK → Prop := fun vs H Q => ∃ (l : Addr) (ns : List Int) (k : Int), vs = [.ref l, .int k] ∧ H l = some (.lst (ns.map V.int)) ∧ ns.length ≤ 100 ∧ hpL ns ∧ ∀ ns' : List Int, ns'.Perm (ns ++ [k]) → hpL ns' → Q .non (upd H l (.lst (ns'.map V.int)))
def rPop : List V → Hp → VK → Prop := fun vs H Q => ∃ (l : Addr) (ns : List Int), vs = [.ref l] ∧ H l = some (.lst (ns.map V.int)) ∧ 0 < ns.length ∧ ns.length ≤ 100 ∧ hpL ns ∧ ∀ (m : Int) (ns' : List Int), (m :: ns').Perm ns → (∀ x, x ∈ ns → m ≤ x) → hpL ns' → Q (.int m) (upd H l (.lst (ns'.map V.int)))
section
variable {X : Cx}
theorem cr_push : CallR X (.builtin "_heapq.heappush") rPush := by
  intro pins s σ H vs us Q I r h
  obtain ⟨l, ns, k, rfl, hl, hn, hh, q⟩ := h
  obtain ⟨u1, u2, rfl, r1, ⟨t, rfl⟩⟩ := vals2 r
  cases r1
  obtain ⟨hz, its, n, rv, hob⟩ := I.hok l _ hl
  obtain ⟨ei, ai⟩ := vals_ivl rv
  have hsz : its.toArray.size = ns.length := by rw [List.size_toArray, ← ei, List.length_map]
  have hI : Hq.Ints its.toArray := ints_list.mpr ai
  have hH : Hq.HP its.toArray := hp_list.mpr (by show hpL (its.map ivl); rw [ei]; exact hh)
  refine call_function_meets Hq.kind_push Hq.plain_push Hq.entry_push (Hq.args_push _ _) (Hq.push_meets l its.toArray n k t (by omega) hI hH) ⟨hob, ?_⟩
  intro its' h' n' pm hp' hi' sb hg
  have ai' := ints_list.mp hi'
  have pm' : (its'.toList.map ivl).Perm (ns ++ [k]) := by
    have := pm.map ivl
    rw [Array.toList_push, List.map_append] at this
    rw [← ei]
    exact this
  have hlen : ((its'.toList.map ivl).map V.int).length ≤ sizeLine := by
    rw [List.length_map, pm'.length_eq, List.length_append, sizeLine_eq]
    show _ + 1 ≤ _
    omega
  refine ⟨.non, upd H l (.lst ((its'.toList.map ivl).map V.int)), I.write (e := l) (t' := s.toks) (by rw [hl]; trivial) (.inl rfl) (fun b u hb hu => by rw [sb.2 b hb]; exact hu) ⟨_, hg⟩ ⟨hlen, its'.toList, n', ivl_vals ai', hg⟩, rfl, q _ pm' (hp_list.mp hp')⟩
theorem hp_min {ns : List Int} (h : hpL ns) : ∀ i, i < ns.length → ns.getD 0 0 ≤ ns.getD i 0 := by
  intro i
  induction i using Nat.strongRecOn with
  | _ i ih =>
    intro hi
    by_cases e : i = 0
    · subst e
      exact Int.le_refl _
    · have h1 := ih ((i - 1) / 2) (by omega) (by omega)
      have h2 := h i (by omega) hi
      omega
theorem cr_pop : CallR X (.builtin "_heapq.heappop") rPop := by
  intro pins s σ H vs us Q I r h
  obtain ⟨l, ns, rfl, hl, h0, hn, hh, q⟩ := h
  obtain ⟨u1, rfl, r1⟩ := vals1 r
  cases r1
  obtain ⟨hz, its, n, rv, hob⟩ := I.hok l _ hl
  obtain ⟨ei, ai⟩ := vals_ivl rv
  have hsz : its.toArray.size = ns.length := by rw [List.size_toArray, ← ei, List.length_map]
  have hI : Hq.Ints its.toArray := ints_list.mpr ai
  have hH : Hq.HP its.toArray := hp_list.mpr (by show hpL (its.map ivl); rw [ei]; exact hh)
  refine call_function_meets Hq.kind_pop Hq.plain_pop Hq.entry_pop (Hq.args_pop _) (Hq.pop_meets l its.toArray n (by omega) (by omega) hI hH) ⟨hob, ?_⟩
  intro its' t h' n' e0 pm hp' hi' sb hg
  have ai' := ints_list.mp hi'
  have pm' : (Hq.av its.toArray 0 :: its'.toList.map ivl).Perm ns := by
    have := pm.map ivl
    rw [List.map_cons] at this
    have e : (its.toArray.toList).map ivl = ns := ei
    rw [e] at this
    exact this
  have hlen : ((its'.toList.map ivl).map V.int).length ≤ sizeLine := by
    have := pm'.length_eq
    rw [List.length_cons] at this
    rw [List.length_map, sizeLine_eq]
    omega
  have ea : Hq.av its.toArray 0 = ns.getD 0 0 := by rw [av_list]; show ((its.map ivl).getD 0 0) = _; rw [ei]
  refine ⟨.int (Hq.av its.toArray 0), upd H l (.lst ((its'.toList.map ivl).map V.int)), I.write (e := l) (t' := s.toks) (by rw [hl]; trivial) (.inl rfl) (fun b u hb hu => by rw [sb.2 b hb]; exact hu) ⟨_, hg⟩ ⟨hlen, its'.toList, n', ivl_vals ai', hg⟩, ⟨_, rfl⟩, q _ _ pm' (fun x hx => ?_) (hp_list.mp hp')⟩
  obtain ⟨i, hi⟩ := List.getElem?_of_mem hx
  have := hp_min hh i (List.getElem?_eq_some_iff.mp hi).1
  have e9 : ns.getD i 0 = x := by rw [List.getD_eq_getElem?_getD, hi]; rfl
  rw [ea]
  rw [e9] at this
  exact this
def gIxL (K : PySem.W.Frag) : V → V → Hp → VK → Prop := fun x y H Q => ∃ p xs j v, x = .ref p ∧ y = .int ((j : Nat) : Int) ∧ SqL K H p xs ∧ xs[j]? = some v ∧ Q v H
theorem get_list : PGet X (gIxL X.K) := by
  intro pins s σ H x y v u Q I rx ry h
  obtain ⟨p, xs, j, z, rfl, rfl, hq, he, q⟩ := h
  cases rx
  obtain ⟨t, rfl⟩ := ry
  obtain ⟨its, r, pl, hz⟩ := I.list hq
  obtain ⟨w, ew, rw'⟩ := r.get he
  have hl := r.length
  have hn := line63
  have hlt : j < xs.length := (List.getElem?_eq_some_iff.mp he).1
  have fin : EP X pins σ Q w s := ⟨z, H, I, rw', q⟩
  exact wpAny_getItem_list (x := w) pl.isList (by omega) (by omega) (by rw [Int.toNat_natCast]; simpa using ew) fin
/-- f(e, ..), f a module's name of a built-in function -/
theorem pe_callG {id : String} {r : List V → Hp → VK → Prop} {x : Str} {e : Expr} {es : List Expr} {t : TA} {p pos : Pos} (hc : CallR X (.builtin id) r) (hg : Gl X x) (hm : X.mg x = some (.builtin id)) (ha : PA X (e :: es) t) (hdb : (x == ("__debug__" : Str)) = false := by decide)
    (he : starEach (e :: es) X.env = (false, eval e X.env) :: starEach es X.env := by rfl) (hpl : (backTo pos (starEach es X.env)).any (·.1) = false := by rfl) : PE X (.Call (.Name x p) (e :: es) [] pos) (tCB r t) := by
  refine ⟨fun pins s σ H Q I h => ?_⟩
  refine wpAny_Call_Name_kw (ld_glob I hg hm ?_ hdb)
  exact PyProof.Rows.callWith_builtin1 (thn (ha.run pos pins s σ H _ I h) fun us s1 ⟨vs, H1, I1, r1, q1⟩ => hc pins s1 σ H1 vs us Q I1 r1 q1) he hpl
end
section
variable {H : Hp} {Q : VK} {l : Addr} {ns : List Int}
theorem ixN_k {n j : Nat} (h : j < n) : ixN n (j : Int) = some j := by
  unfold ixN
  simp
  omega
theorem rd_augS {σ : L2.St} {D : Ends} {to ti te : TE} {tget : V → V → Hp → VK → Prop} {tip : TIp} {tset : TSet} (q : to σ H fun o H1 => ti σ H1 fun i H2 => tget o i H2 fun x H3 => te σ H3 fun y H4 => tip x y H4 fun z H5 => tset o i z H5 fun H6 => D.nx σ H6) : tAugS to ti te tget tip tset D σ H := q
theorem rd_gIxL {K : PySem.W.Frag} {p : Addr} {xs : List V} {j : Nat} {v : V} (h : SqL K H p xs) (e : xs[j]? = some v) (q : Q v H) : gIxL K (.ref p) (.int (j : Int)) H Q := ⟨p, xs, j, v, rfl, rfl, h, e, q⟩
theorem rd_ipI {f : Int → Int → Int} {i j : Int} (q : Q (.int (f i j)) H) : ipI f (.int i) (.int j) H Q := ⟨i, j, rfl, rfl, q⟩
theorem rd_push {k : Int} (h : H l = some (.lst (ns.map V.int))) (hn : ns.length ≤ 100) (hh : hpL ns) (q : ∀ ns' : List Int, ns'.Perm (ns ++ [k]) → hpL ns' → Q .non (upd H l (.lst (ns'.map V.int)))) : rPush [.ref l, .int k] H Q := ⟨l, ns, k, rfl, h, hn, hh, q⟩
theorem rd_hpop (h : H l = some (.lst (ns.map V.int))) (h0 : 0 < ns.length) (hn : ns.length ≤ 100) (hh : hpL ns) (q : ∀ (m : Int) (ns' : List Int), (m :: ns').Perm ns → (∀ x, x ∈ ns → m ≤ x) → hpL ns' → Q (.int m) (upd H l (.lst (ns'.map V.int)))) : rPop [.ref l] H Q := ⟨l, ns, rfl, h, h0, hn, hh, q⟩
end
end Qa
open PySem PySem.Spec PyProof.Rows L2 Qa Qr
/-! tables; no program here -/
namespace Qr
section
variable {K : PySem.W.Frag} {H : Hp} {Q : VK}
def isRow : T → Bool
  | .tup [a, b, c] => isNum a && (isNum b && isPct c)
  | _ => false
theorem row3 {ts : List T} (h : ts.length = 3) : ∃ a b c, ts = [a, b, c] := by
  match ts, h with
  | [a, b, c], _ => exact ⟨a, b, c, rfl⟩
theorem notRow {ts : List T} (h : ts.length ≠ 3) : isRow (.tup ts) = false := by
  unfold isRow
  split
  · rename_i e
    cases e
    exact absurd rfl h
  · rfl
def startOf : T → Int
  | .tup (.int s :: _) => s
  | _ => 0
def rise : List T → Bool
  | x :: y :: r => decide (startOf x < startOf y) && rise (y :: r)
  | _ => true
theorem rise_drop : ∀ (ts : List T) (i : Nat) (x y : T), ts[i]? = some x → ts[i + 1]? = some y → rise (ts.drop i) = (decide (startOf x < startOf y) && rise (ts.drop (i + 1)))
  | [], i, x, y, h, _ => by simp at h
  | [a], 0, x, y, h, h2 => by simp at h2
  | [a], i + 1, x, y, h, h2 => by simp at h
  | a :: b :: r, 0, x, y, h, h2 => by
    cases (Option.some.inj h); cases (Option.some.inj h2); rfl
  | a :: b :: r, i + 1, x, y, h, h2 => by
    have ih := rise_drop (b :: r) i x y h h2
    exact ih
theorem rise_end (ts : List T) (i : Nat) (h : ts.length ≤ i + 1) : rise (ts.drop i) = true := by
  have hl : (ts.drop i).length ≤ 1 := by rw [List.length_drop]; omega
  match ts.drop i, hl with
  | [], _ => rfl
  | [a], _ => rfl
theorem row_start {K : PySem.W.Frag} {H : Hp} {v : V} {t : T} (h : Tv K H v t) (r : isRow t = true) : ∃ a y z, v = .ref a ∧ SqT K H a [.int (startOf t), y, z] := by
  cases t with
  | tup ts =>
    by_cases hl : ts.length = 3
    · obtain ⟨ta, tb, tc, rfl⟩ := row3 hl
      obtain ⟨p, xs, rfl, hs, ha⟩ := h.tupE
      obtain ⟨x, xs, rfl, hx, ha⟩ := ha.consE
      obtain ⟨y, xs, rfl, hy, ha⟩ := ha.consE
      obtain ⟨z, xs, rfl, hz, ha⟩ := ha.consE
      cases ha.nilE
      have e : isNum ta = true := by
        simp only [isRow, Bool.and_eq_true] at r
        exact r.1
      cases ta with
      | int i => cases hx; exact ⟨p, y, z, rfl, hs⟩
      | _ => cases e
    · rw [notRow hl] at r; cases r
  | _ => cases r
def isTable : T → Bool
  | .tup ts => decide (1 ≤ ts.length) && decide (ts.length ≤ 20) && (ts.all isRow && rise ts)
  | _ => false
theorem isTable_tup (ts : List T) : isTable (.tup ts) = (decide (1 ≤ ts.length) && decide (ts.length ≤ 20) && (ts.all isRow && rise ts)) := rfl
theorem all_take {p : T → Bool} {ts : List T} {i : Nat} {t : T} (h : ts[i]? = some t) : (ts.take (i + 1)).all p = ((ts.take i).all p && p t) := by
  rw [List.take_add_one, h, List.all_append]
  simp
structure Row where
  s : Int
  p : Int
  c : Int
def rowT (r : Row) : T := .tup [.int r.s, .int r.p, .int r.c]
def atN (rows : List Row) (n : Int) : Int := rows.foldl (fun told r => if r.s ≤ n then r.p + (n - r.s) * r.c / 100 else told) 0
def pcts (rows : List Row) : Prop := ∀ r ∈ rows, 0 ≤ r.c ∧ r.c ≤ 100
theorem tv_row {K : PySem.W.Frag} {H : Hp} {v : V} {r : Row} (h : Tv K H v (rowT r)) : ∃ a, v = .ref a ∧ SqT K H a [.int r.s, .int r.p, .int r.c] := by
  obtain ⟨p, xs, rfl, hs, ha⟩ := Tv.tupE h
  obtain ⟨x, xs, rfl, hx, ha⟩ := ha.consE
  obtain ⟨y, xs, rfl, hy, ha⟩ := ha.consE
  obtain ⟨z, xs, rfl, hz, ha⟩ := ha.consE
  cases ha.nilE
  cases hx; cases hy; cases hz
  exact ⟨p, rfl, hs⟩
theorem tva_rows {K : PySem.W.Frag} {H : Hp} {xs : List V} {rows : List Row} {i : Nat} {x : V} (h : TvA K H xs (rows.map rowT)) (hx : xs[i]? = some x) : ∃ r a, rows[i]? = some r ∧ x = .ref a ∧ SqT K H a [.int r.s, .int r.p, .int r.c] := by
  obtain ⟨t, ht, hv⟩ := h.getV hx
  rw [List.getElem?_map] at ht
  cases e : rows[i]? with
  | none => rw [e] at ht; cases ht
  | some r =>
    rw [e] at ht
    cases (Option.some.inj ht)
    obtain ⟨a, rfl, hs⟩ := tv_row hv
    exact ⟨r, a, rfl, rfl, hs⟩
theorem atN_take {rows : List Row} {i : Nat} {r : Row} {n : Int} (h : rows[i]? = some r) : atN (rows.take (i + 1)) n = if r.s ≤ n then r.p + (n - r.s) * r.c / 100 else atN (rows.take i) n := by
  unfold atN
  rw [List.take_add_one, h]
  simp
structure GoodRow (r : Row) : Prop where
  s0 : -1000000000 ≤ r.s
  s1 : r.s ≤ 1000000000
  p0 : -1000000000 ≤ r.p
  p1 : r.p ≤ 1000000000
  c0 : 0 ≤ r.c
  c1 : r.c ≤ 100
def riseR : List Row → Prop
  | x :: y :: r => x.s < y.s ∧ riseR (y :: r)
  | _ => True
structure GoodTab (rows : List Row) : Prop where
  len : 1 ≤ rows.length ∧ rows.length ≤ 20
  row : ∀ r ∈ rows, GoodRow r
  rise : riseR rows
theorem riseR_snoc : ∀ (rows : List Row) (x : Row), riseR rows → (∀ r ∈ rows, r.s < x.s) → riseR (rows ++ [x])
  | [], x, _, _ => trivial
  | [a], x, _, h => ⟨h a List.mem_cons_self, trivial⟩
  | a :: b :: r, x, hr, h => ⟨hr.1, riseR_snoc (b :: r) x hr.2 fun y hy => h y (List.mem_cons_of_mem _ hy)⟩
structure Drawn (K : PySem.W.Frag) (H' : Hp) (o : Addr) (rows : List Row) (i : Nat) (st z : Int) : Prop where
  at_ : ∃ vs, H' o = some (.lst vs) ∧ TvA K H' vs (rows.map rowT)
  len : rows.length = i
  good : ∀ r ∈ rows, GoodRow r
  rise : riseR rows
  low : ∀ r ∈ rows, r.s < st
  s0 : -1000000000 ≤ st
  s1 : st ≤ z + 20000 * i
theorem isRow_good {r : Row} (g : GoodRow r) : isRow (rowT r) = true := by
  have := g.s0; have := g.s1; have := g.p0; have := g.p1; have := g.c0; have := g.c1
  simp [rowT, isRow, isNum, isPct, within]
  omega
theorem rise_good : ∀ (rows : List Row), riseR rows → rise (rows.map rowT) = true
  | [], _ => rfl
  | [_], _ => rfl
  | a :: b :: r, h => by
    show (decide (startOf (rowT a) < startOf (rowT b)) && rise ((b :: r).map rowT)) = true
    rw [rise_good (b :: r) h.2, Bool.and_true]
    exact decide_eq_true h.1
theorem good_table {rows : List Row} (g : GoodTab rows) : isTable (.tup (rows.map rowT)) = true := by
  rw [isTable_tup, rise_good rows g.rise]
  have e : (rows.map rowT).all isRow = true := by
    rw [List.all_eq_true]
    intro t ht
    obtain ⟨r, hr, rfl⟩ := List.mem_map.mp ht
    exact isRow_good (g.row r hr)
  have := g.len
  rw [e, List.length_map, decide_eq_true this.1, decide_eq_true this.2]
  rfl
end
end Qr
namespace Qa
open PySem PySem.Spec PyProof.Rows L2 Qr
/-! nested data, compared -/
mutual
def py : T → PyData
  | .non => .none | .bl b => .bool b | .int i => .int i | .str s => .str s | .lst => .none
  | .tup ts => .tuple (pyL ts)
def pyL : List T → List PyData
  | [] => []
  | t :: ts => py t :: pyL ts
end
mutual
/-- can be compared, so deep at most -/
def okT : Nat → T → Bool
  | _, .str s => PyData.strOk s
  | _, .lst => false
  | 0, .tup _ => false
  | n + 1, .tup ts => okL n ts
  | _, _ => true
def okL : Nat → List T → Bool
  | _, [] => true
  | n, t :: ts => okT n t && okL n ts
end
mutual
theorem okT_lay : ∀ {n : Nat} {t : T}, okT n t = true → (py t).canLay0 = true ∧ (py t).depth ≤ n
  | _, .non, _ => ⟨by simp [py, PyData.canLay0], by simp [py, PyData.depth]⟩
  | _, .bl _, _ => ⟨by simp [py, PyData.canLay0], by simp [py, PyData.depth]⟩
  | _, .int _, _ => ⟨by simp [py, PyData.canLay0], by simp [py, PyData.depth]⟩
  | _, .str s, h => ⟨by simpa [py, PyData.canLay0, okT] using h, by simp [py, PyData.depth]⟩
  | _, .lst, h => by simp [okT] at h
  | 0, .tup _, h => by simp [okT] at h
  | n + 1, .tup ts, h => by
    have := okL_lay (n := n) (ts := ts) (by simpa [okT] using h)
    exact ⟨by simpa [py, PyData.canLay0] using this.1, by simp only [py, PyData.depth]; omega⟩
theorem okL_lay : ∀ {n : Nat} {ts : List T}, okL n ts = true → PyData.canLayAll0 (pyL ts) = true ∧ PyData.depthAll (pyL ts) ≤ n
  | _, [], _ => ⟨by simp [pyL, PyData.canLayAll0], by simp [pyL, PyData.depthAll]⟩
  | n, t :: ts, h => by
    have h : (okT n t && okL n ts) = true := by simpa [okL] using h
    rw [Bool.and_eq_true] at h
    have h1 := okT_lay h.1
    have h2 := okL_lay h.2
    exact ⟨by simp [pyL, PyData.canLayAll0, h1.1, h2.1], by simp only [pyL, PyData.depthAll]; omega⟩
end
section
variable {K : PySem.W.Frag} {H : Hp} {Q : VK}
mutual
theorem tv_dp : ∀ {v : V} {t : T} {n : Nat}, Tv K H v t → okT n t = true → Dp K H v (py t)
  | _, _, _, .non, _ => by rw [py]; exact .non
  | _, _, _, .bl b, _ => by rw [py]; exact .bl b
  | _, _, _, .int i, _ => by rw [py]; exact .int i
  | _, _, _, .str s h, _ => by rw [py]; exact .str s
  | _, .tup _, 0, .tup h a, o => by simp [okT] at o
  | _, .tup ts, n + 1, .tup h a, o => by rw [py]; exact .tup h (tva_dp (n := n) a (by simpa [okT] using o))
  | _, _, _, .lst h, o => by simp [okT] at o
theorem tva_dp : ∀ {vs : List V} {ts : List T} {n : Nat}, TvA K H vs ts → okL n ts = true → DpAll K H vs (pyL ts)
  | _, _, _, .nil, _ => by rw [pyL]; exact .nil
  | _, t :: ts, n, .cons h a, o => by
    have o : (okT n t && okL n ts) = true := by simpa [okL] using o
    rw [Bool.and_eq_true] at o
    rw [pyL]
    exact .cons (tv_dp h o.1) (tva_dp a o.2)
end
theorem okL_all {n : Nat} : ∀ {ts : List T}, (∀ t ∈ ts, okT n t = true) → okL n ts = true
  | [], _ => by simp [okL]
  | t :: ts, h => by
    have h1 := h t List.mem_cons_self
    have h2 := okL_all (n := n) (ts := ts) fun x hx => h x (List.mem_cons_of_mem _ hx)
    simp [okL, h1, h2]
theorem shaped_of {d : PyData} (h : d.canLay0 = true) (hd : d.depth ≤ 64) : SeqAt.shaped d = true := by
  unfold SeqAt.shaped
  rw [h, decide_eq_true hd]
  rfl
/-- two tuples of the same data -/
theorem eqv_tup {ts : List T} {n : Nat} (o : okL n ts = true) (hn : n < 64) : SeqAt.shaped (.tuple (pyL ts)) = true ∧ PyData.eqv (.tuple (pyL ts)) (.tuple (pyL ts)) = true := by
  have h := okL_lay o
  have h1 : (PyData.tuple (pyL ts)).canLay0 = true := by simpa [PyData.canLay0] using h.1
  have h2 : (PyData.tuple (pyL ts)).depth ≤ 64 := by simp only [PyData.depth]; omega
  exact ⟨shaped_of h1 h2, SeqAt.eqv_refl _ h1⟩
theorem rd_eqTups {a b : Addr} {xs ys : List V} {ts : List T} {n : Nat} (o : okL n ts = true) (hn : n < 64) (ha : SqT K H a xs) (ta : TvA K H xs ts) (hb : SqT K H b ys) (tb : TvA K H ys ts) (q : Q (.bl true) H) : rEqA K (.ref a) (.ref b) H Q := by
  obtain ⟨h1, h2⟩ := eqv_tup o hn
  refine .inr ⟨_, _, .tup ha (tva_dp ta o), .tup hb (tva_dp tb o), h1, h1, ?_⟩
  rw [h2]
  exact q
theorem rd_neTups {a b : Addr} {xs ys : List V} {ts : List T} {n : Nat} (o : okL n ts = true) (hn : n < 64) (ha : SqT K H a xs) (ta : TvA K H xs ts) (hb : SqT K H b ys) (tb : TvA K H ys ts) (q : Q (.bl false) H) : rNeA K (.ref a) (.ref b) H Q := by
  obtain ⟨h1, h2⟩ := eqv_tup o hn
  refine .inr ⟨_, _, .tup ha (tva_dp ta o), .tup hb (tva_dp tb o), h1, h1, ?_⟩
  rw [h2]
  exact q
theorem eqv_lst {ts : List T} {n : Nat} (o : okL n ts = true) (hn : n < 64) : SeqAt.shaped (.list (pyL ts)) = true ∧ PyData.eqv (.list (pyL ts)) (.list (pyL ts)) = true := by
  have h := okL_lay o
  have h1 : (PyData.list (pyL ts)).canLay0 = true := by simpa [PyData.canLay0] using h.1
  have h2 : (PyData.list (pyL ts)).depth ≤ 64 := by simp only [PyData.depth]; omega
  exact ⟨shaped_of h1 h2, SeqAt.eqv_refl _ h1⟩
theorem rd_eqLsts {a b : Addr} {xs ys : List V} {ts : List T} {n : Nat} (o : okL n ts = true) (hn : n < 64) (ha : SqL K H a xs) (ta : TvA K H xs ts) (hb : SqL K H b ys) (tb : TvA K H ys ts) (q : Q (.bl true) H) : rEqA K (.ref a) (.ref b) H Q := by
  obtain ⟨h1, h2⟩ := eqv_lst o hn
  refine .inr ⟨_, _, .lst ha (tva_dp ta o), .lst hb (tva_dp tb o), h1, h1, ?_⟩
  rw [h2]
  exact q
theorem rd_neLsts {a b : Addr} {xs ys : List V} {ts : List T} {n : Nat} (o : okL n ts = true) (hn : n < 64) (ha : SqL K H a xs) (ta : TvA K H xs ts) (hb : SqL K H b ys) (tb : TvA K H ys ts) (q : Q (.bl false) H) : rNeA K (.ref a) (.ref b) H Q := by
  obtain ⟨h1, h2⟩ := eqv_lst o hn
  refine .inr ⟨_, _, .lst ha (tva_dp ta o), .lst hb (tva_dp tb o), h1, h1, ?_⟩
  rw [h2]
  exact q
theorem rd_neNil {a b : Addr} {ns : List Key} (ok : ∀ k ∈ ns, okK k = true) (ha : SqL K H a (ns.map kV)) (hb : SqL K H b []) (q : Q (.bl (!ns.isEmpty)) H) : rNeA K (.ref a) (.ref b) H Q := by
  refine .inr ⟨_, _, .lst ha (dp_keys ns), .lst hb .nil, shaped_flat _ (flat_kD ns ok), shaped_flat [] (by simp), ?_⟩
  cases ns with
  | nil => exact q
  | cons n ns => exact q
end
/-- a rule can be compared -/
theorem words_ok : ∀ x ∈ words, PyData.strOk x = true := by decide +kernel
theorem rule_ok {sz : Sz} : ∀ {n : Nat} {t : T}, isRule sz n t = true → okT n t = true
  | 0, _, h => by cases h
  | n + 1, t, h => by
    obtain ⟨x, ts, ks, rfl, e, hl, hz⟩ := rule_of h
    have hx : x ∈ words := by
      by_cases hm : x ∈ words
      · exact hm
      · rw [kinds_none hm] at e
        cases e
    have hk := kinds_of e
    clear e
    have parts : ∀ (ts : List T) (ks : List Str), ts.length ≤ ks.length → zipOk (partOk (isRule sz n) sz) ts ks = true → okL n ts = true := by
      intro ts
      induction ts with
      | nil => intro ks _ _; simp [okL]
      | cons t ts ih =>
        intro ks hlen hz
        cases ks with
        | nil => exact absurd hlen (by simp)
        | cons k ks =>
          have hz : (partOk (isRule sz n) sz k t && zipOk (partOk (isRule sz n) sz) ts ks) = true := hz
          rw [Bool.and_eq_true] at hz
          have h2 := ih ks (by simpa using hlen) hz.2
          have h1 : okT n t = true := by
            have hp := hz.1
            unfold partOk at hp
            split at hp
            · exact rule_ok hp
            · split at hp
              · cases t with
                | int i => cases n <;> simp [okT]
                | _ => cases hp
              · split at hp
                · cases t with
                  | int i => cases n <;> simp [okT]
                  | _ => cases hp
                · split at hp
                  · obtain ⟨z, rfl⟩ := word_str hp
                    have := isWord_ok hp
                    cases n <;> simpa [okT] using this
                  · obtain ⟨i, rfl⟩ := place_int hp
                    cases n <;> simp [okT]
          simp [okL, h1, h2]
    have h1 : okT n (.str x) = true := by
      have := words_ok x hx
      cases n <;> simpa [okT] using this
    have h2 := parts ts ks (by omega) hz
    show okT (n + 1) (.tup (.str x :: ts)) = true
    have h0 := words_ok x hx
    simp [okT, okL, h0, h2]
end Qa
namespace RT
open PySem PySem.Spec PyProof.Rows L2
section
variable {prog : Program} {w : World} {A : Around} {E : Value → Shared → Prop} {s : Shared}
theorem ext_rev {R : Result → Shared → Prop} {it l : Addr} {items : Array Value} (hh : A.handled = none) (hit : s.heap.IsRevIter it l ((items.size : Int) - 1)) (hl : s.heap.IsList l items) (hne : l ≠ it) (hn : items.size ≤ sizeLine)
    (S : Addr) (res : Value) (c₀ : Nat) (hS : s.heap.get? S = some { cls := .type "list", data := .seq #[] c₀ }) (hSi : S ≠ it) (hSl : S ≠ l)
    (hR : ∀ h' tk acc' c', (∀ b o, b ≠ S → b ≠ it → s.heap.get? b = some o → h'.get? b = some o) → h'.get? S = some { cls := .type "list", dict := none, data := .seq acc' c', slots := #[] } →
      ItemsOf (fun i v => items[items.size - 1 - i]? = some v) acc' items.size → R (.ok (.ret res)) { s with heap := h', toks := tk }) :
    wpAny (model prog w) A.in1 (Builtin.List.listExtendWith (.ref S) (.ref it) res)
      (fun fin s' => match fin with | .done f => R (.ok f) s' | .again c' => c'.quiet = true ∧ codeAny (model prog w) A c' R s') (fun e s' => R (.error e) s') s := by
  have W := (Walks.listRev (prog := prog) (w := w) (A := A.in1) hh it l hne items).toS
  have hSf : S ∉ [it, l] := by simp only [List.mem_cons, List.not_mem_nil, or_false, not_or]; exact ⟨hSi, hSl⟩
  have hT : s.TypeIs (.ref it) "list_reverseiterator" := hit.typeIs
  have h1 : Builtin.List.listSameRef (.ref S) (.ref it) = false := by simp [Builtin.List.listSameRef, hSi]
  unfold Builtin.List.listExtendWith
  refine wpAny_bind (wpAny_typeOf hT ?_)
  rw [if_neg (by rw [h1]; decide)]
  refine wpAny_bind (wpAny_pyIter_revIter hit ?_)
  refine wpAny_bind (wpAny_holding ?_)
  unfold Builtin.List.listLengthHint
  refine wpAny_bind (wpAny_specialOf hT nolen_lri ?_)
  show wpAny _ A.in1 (specialOf (Value.ref it) (Str.ofString "__length_hint__") >>= _) _ _ _
  refine wpAny_bind (wpAny_specialOf hT hint_lri ?_)
  generalize hid : ("list_reverseiterator.__length_hint__" : String) = id0
  wp_delta
  rw [show splitId id0 = some ("list_reverseiterator", "__length_hint__") from by subst hid; decide +kernel]
  subst hid
  refine wpAny_bind (wpAny_isInstance (b := true) hT (by rw [isSubtype_type]; kernel_rfl) ?_)
  refine wpAny_pure ?_
  rw [if_neg (by decide)]
  have e0 : ((items.size : Nat) : Int) - 1 - ((0 : Nat) : Int) = (items.size : Int) - 1 := by omega
  refine wpAny_pure ⟨plainId_quiet F.plain_extend_loop _, codeAny_extend_loopS W hn _ hSf _ items.size 0 _ _ _ rfl (Nat.zero_le _) ⟨Nat.zero_le _, by rw [e0]; exact hit, hl⟩ hS (ItemsOf.nil _) fun s' acc' c' hm hS' hacc => ?_⟩
  rw [Moved.eq_with hm]
  refine hR s'.heap s'.toks acc' c' (fun b o hb hb2 e => hm.heap b o (fun hmem => ?_) e) hS' hacc
  rcases List.mem_cons.mp hmem with e' | hmem
  · exact hb e'
  · exact hb2 (List.mem_singleton.mp hmem)
theorem init_rev {R : Result → Shared → Prop} {it l : Addr} {items : Array Value} (hh : A.handled = none) (hit : s.heap.IsRevIter it l ((items.size : Int) - 1)) (hl : s.heap.IsList l items) (hne : l ≠ it) (hn : items.size ≤ sizeLine)
    (S : Addr) (hS : s.heap.get? S = some { cls := .type "list", data := .seq #[] }) (hSi : S ≠ it) (hSl : S ≠ l)
    (hR : ∀ h' tk acc' c', (∀ b o, b ≠ S → b ≠ it → s.heap.get? b = some o → h'.get? b = some o) → h'.get? S = some { cls := .type "list", dict := none, data := .seq acc' c', slots := #[] } →
      ItemsOf (fun i v => items[items.size - 1 - i]? = some v) acc' items.size → R (.ok (.ret .none)) { s with heap := h', toks := tk }) :
    wpAny (model prog w) A.in1 (Builtin.«list.__init__» ⟨[.ref S, .ref it], []⟩)
      (fun fin s' => match fin with | .done f => R (.ok f) s' | .again c' => c'.quiet = true ∧ codeAny (model prog w) A c' R s') (fun e s' => R (.error e) s') s := by
  show wpAny _ _ (do let old ← Builtin.List.listItems (.ref S); Builtin.List.listUpdate (.ref S) (fun _ => #[]); letGo old.toList.reverse; Builtin.List.listExtendWith (.ref S) (.ref it) .none) _ _ s
  refine wpAny_bind ?_
  unfold Builtin.List.listItems
  refine wpAny_bind (wpAny_seqItems hS rfl (wpAny_pure ?_))
  show wpAny _ _ (updateSeq S (fun _ => #[]) >>= fun _ => letGo (#[] : Array Value).toList.reverse >>= fun _ => Builtin.List.listExtendWith (.ref S) (.ref it) .none) _ _ s
  refine wpAny_bind (wpAny_updateSeq hS rfl ?_)
  have hS₂ := Heap.get?_update_self (Obj.mapSeq (fun _ => (#[] : Array Value))) hS rfl
  have oth : ∀ b o, b ≠ S → s.heap.get? b = some o → (s.heap.update S (Obj.mapSeq (fun _ => (#[] : Array Value)))).get? b = some o :=
    fun b o hb e => (Heap.get?_update_other _ _ (Ne.symm hb)).trans e
  refine wpAny_bind (wpAny_letGo ?_)
  have hl2 : (s.heap.update S (Obj.mapSeq (fun _ => (#[] : Array Value)))).IsList l items := by
    obtain ⟨o, ho, hc, r⟩ := hl
    exact ⟨o, oth l o hSl.symm ho, hc, r⟩
  refine ext_rev (s := { s with heap := s.heap.update S (Obj.mapSeq (fun _ => (#[] : Array Value))) }) hh (hit.at fun o e => oth it o hSi.symm e) hl2 hne hn S .none _ hS₂ hSi hSl fun h' tk acc' c' hk hS' hacc => ?_
  exact hR h' tk acc' c' (fun b o hb hb2 e => hk b o hb hb2 (oth b o hb e)) hS' hacc
theorem call_list_rev {Q : Value → Shared → Prop} {it l : Addr} {items : Array Value} (hh : A.handled = none) (hit : s.heap.IsRevIter it l ((items.size : Int) - 1)) (hl : s.heap.IsList l items) (hne : l ≠ it) (hn : items.size ≤ sizeLine)
    (hQ : ∀ h' tk acc' c', (∀ b o, b ≠ it → s.heap.get? b = some o → h'.get? b = some o) → h'.get? s.heap.objs.size = some { cls := .type "list", dict := none, data := .seq acc' c', slots := #[] } →
      ItemsOf (fun i v => items[items.size - 1 - i]? = some v) acc' items.size → Q (.ref s.heap.objs.size) { s with heap := h', toks := tk }) :
    wpAny (model prog w) A (call (.type "list") [.ref it]) Q E s := by
  obtain ⟨oi, hoi, _⟩ := id hit
  obtain ⟨ol, hol, _⟩ := id hl
  have hSi : s.heap.objs.size ≠ it := Nat.ne_of_gt (Heap.lt_size hoi)
  have hSl : s.heap.objs.size ≠ l := Nat.ne_of_gt (Heap.lt_size hol)
  refine callType_codes (Q₁ := fun obj s₁ => obj = .ref s.heap.objs.size ∧ s₁ = { s with heap := s.heap.push { cls := .type "list", data := .seq #[] } }) F.called_list (F.typeCall_list_1 _) F.entry_list_init
    (code_list_new _ ⟨rfl, rfl⟩) fun obj s₁ h₁ => ?_
  obtain ⟨rfl, rfl⟩ := h₁
  have hS : (s.heap.push { cls := .type "list", data := .seq #[] }).get? s.heap.objs.size = some { cls := .type "list", data := .seq #[] } := Heap.get?_push_size _ rfl
  refine ⟨⟨_, hS, rfl⟩, F.args_list_init_2 _ _, init_rev (A := A.in1) hh (hit.at fun o e => Heap.get?_push_of_some _ e) (hl.push _) hne hn _ hS hSi hSl fun h' tk acc' c' hk hS' hacc => ?_⟩
  exact ⟨rfl, hQ h' tk acc' c' (fun b o hb e => hk b o (Nat.ne_of_lt (Heap.lt_size e)) hb (Heap.get?_push_of_some _ e)) hS' hacc⟩
end
/-- list(reversed(x)), x a list: a new list -/
def tLstRev (K : PySem.W.Frag) (te : TE) : TE := fun σ H Q => te σ H fun v H1 => ∃ (a : Addr) (xs : List V), v = .ref a ∧ SqL K H1 a xs ∧ ∀ q, H1 q = none → Q (.ref q) (upd H1 q (.lst xs.reverse))
section
variable {X : Cx}
theorem pe_lstRev {e : Expr} {te : TE} {p p2 pos pos2 : Pos} (hc : X.calm = true) (hg : Gl X "list") (hm : X.mg "list" = none) (hg2 : Gl X "reversed") (hm2 : X.mg "reversed" = none) (he : PE X e te)
    (hs : starEach [e] X.env = (false, eval e X.env) :: starEach [] X.env := by rfl)
    (hs2 : starEach [.Call (.Name "reversed" p2) [e] [] pos2] X.env = (false, eval (.Call (.Name "reversed" p2) [e] [] pos2) X.env) :: starEach [] X.env := by rfl) :
    PE X (.Call (.Name "list" p) [.Call (.Name "reversed" p2) [e] [] pos2] [] pos) (tLstRev X.K te) := by
  refine ⟨fun pins s σ H Q I h => ?_⟩
  refine Call_ (ld_blt I hg hm boot_list (PyProof.Rows.callWith_type1 (args_cons (Call_ (ld_blt I hg2 hm2 PyProof.Rows.boot_reversed (PyProof.Rows.callWith_type1 (args_cons (thn (he.run pins s σ H _ I h) fun u s1 ⟨v, H1, I1, r1, q1⟩ => args_nil ?_) hs) hs rfl))) hs2) hs2 rfl))
  obtain ⟨a, xs, ev, hq, q⟩ := q1
  subst ev
  obtain rfl : u = Value.ref a := r1
  obtain ⟨its, rv, p', hz⟩ := I1.list hq
  refine call_reversed_list p'.isList (args_nil ?_)
  have k0 : ∀ b o, s1.heap.get? b = some o → (s1.heap.push (revObj a ((its.toArray.size : Int) - 1))).get? b = some o := fun b o e => Heap.get?_push_of_some _ e
  have I2 : Inv X pins σ H1 { s1 with heap := s1.heap.push (revObj a ((its.toArray.size : Int) - 1)) } := I1.kept (t' := s1.toks) k0
  obtain ⟨f0, f1, f2, f3, f4, f5⟩ := I1.fpOk (H' := H1) (b := s1.heap.objs.size) (Nat.le_refl _) (I1.hok.fresh (Nat.le_refl _))
  have hl := p'.isList
  obtain ⟨ol, hol, _⟩ := id hl
  have hne : a ≠ s1.heap.objs.size := Nat.ne_of_lt (Heap.lt_size hol)
  have hn : its.toArray.size ≤ sizeLine := by rw [List.size_toArray, ← rv.length]; exact hz
  refine call_list_rev (s := { s1 with heap := s1.heap.push (revObj a ((its.toArray.size : Int) - 1)) }) (I1.ok.hd hc) ⟨_, Heap.get?_push_size _ rfl, rfl, rfl⟩ (hl.push _) hne hn fun h' tk acc c' hk hS hi => ?_
  have esz : (s1.heap.push (revObj a ((its.toArray.size : Int) - 1))).objs.size = s1.heap.objs.size + 1 := Heap.size_push ..
  have hS : h'.get? (s1.heap.push (revObj a ((its.toArray.size : Int) - 1))).objs.size = some { cls := .type "list", dict := none, data := .seq acc c', slots := #[] } := hS
  show EP X pins σ Q (Value.ref (s1.heap.push (revObj a ((its.toArray.size : Int) - 1))).objs.size) _
  rw [esz] at hS ⊢
  refine ⟨.ref (s1.heap.objs.size + 1), upd H1 (s1.heap.objs.size + 1) (.lst xs.reverse), I1.laid (t' := tk) (fun b o e => hk b o (Nat.ne_of_lt (Heap.lt_size e)) (k0 b o e)) (Nat.le_succ _) (show ObjOk X.prog X.w _ _ _ (.lst xs.reverse) from ⟨by rw [List.length_reverse]; exact hz, acc.toList, c', vals_rev rv hi, by rw [Array.toArray_toList]; exact hS⟩), rfl, q _ (I1.hok.fresh (Nat.le_succ _))⟩
end
theorem rd_lstRev {K : PySem.W.Frag} {σ : L2.St} {H : Hp} {Q : VK} {te : TE} (q : te σ H fun v H1 => ∃ (a : Addr) (xs : List V), v = .ref a ∧ SqL K H1 a xs ∧ ∀ q, H1 q = none → Q (.ref q) (upd H1 q (.lst xs.reverse))) : tLstRev K te σ H Q := q
theorem rd_lstRevL {K : PySem.W.Frag} {H : Hp} {Q : VK} {a : Addr} {xs : List V} (h : SqL K H a xs) (q : ∀ p H', H p = none → Qa.Ex H H' → H' p = some (.lst xs.reverse) → Q (.ref p) H') : ∃ (b : Addr) (ys : List V), V.ref a = .ref b ∧ SqL K H b ys ∧ ∀ q, H q = none → Q (.ref q) (upd H q (.lst ys.reverse)) := ⟨a, xs, rfl, h, fun p hp => q p _ hp (Evl.Ex.new hp) upd_same⟩
end RT
namespace Qa
open PySem PySem.Spec PyProof.Rows L2
theorem rd_bm0 {K : PySem.W.Frag} {σ : L2.St} {H : Hp} {Q : VK} {T' : String} {r : V → List V → Hp → VK → Prop} {to : TE} (q : to σ H fun x H1 => tyV K T' x H1 ∧ r x [] H1 Q) : tBM0 K T' r to σ H Q := q
theorem rd_rev {H : Hp} {Q : VK} {l : Addr} {xs : List V} (h : H l = some (.lst xs)) (q : Q .non (upd H l (.lst xs.reverse))) : rReverse (.ref l) [] H Q := ⟨l, xs, rfl, rfl, h, q⟩
theorem rd_clear {H : Hp} {Q : VK} {l : Addr} {xs : List V} (h : H l = some (.lst xs)) (q : Q .non (upd H l (.lst []))) : rClear (.ref l) [] H Q := ⟨l, xs, rfl, rfl, h, q⟩
end Qa
/-! rings: the first that is found is the least; no program here -/
namespace Qg
def row (nm : List (List Nat)) (x : Nat) : List Nat := (nm[x]?).getD []
inductive Walk (nm : List (List Nat)) (f : Nat) : List Nat → Nat → Prop
  | one : Walk nm f [f] f
  | snoc {w : List Nat} {x y : Nat} : Walk nm f w x → y ∈ row nm x → Walk nm f (w ++ [y]) y
def Ring (nm : List (List Nat)) (f : Nat) (w : List Nat) : Prop := ∃ x, Walk nm f w x ∧ f ∈ row nm x
def lexLt : List Nat → List Nat → Prop
  | [], _ => False
  | _ :: _, [] => False
  | a :: as, b :: bs => a < b ∨ (a = b ∧ lexLt as bs)
def sl (p q : List Nat) : Prop := p.length < q.length ∨ (p.length = q.length ∧ lexLt p q)
def sle (p q : List Nat) : Prop := p = q ∨ sl p q
theorem lex_snoc : ∀ {p q : List Nat} (x y : Nat), p.length = q.length → lexLt p q → lexLt (p ++ [x]) (q ++ [y])
  | [], _, _, _, _, h => h.elim
  | _ :: _, [], _, _, e, _ => by cases e
  | a :: p, b :: q, x, y, e, h => by
    rcases h with h | ⟨h, h'⟩
    · exact .inl h
    · exact .inr ⟨h, lex_snoc x y (Nat.succ.inj e) h'⟩
theorem lex_last {x y : Nat} (h : x < y) : ∀ (p : List Nat), lexLt (p ++ [x]) (p ++ [y])
  | [] => .inl h
  | _ :: p => .inr ⟨rfl, lex_last h p⟩
theorem lex_trans : ∀ {p q r : List Nat}, lexLt p q → lexLt q r → lexLt p r
  | [], _, _, h, _ => h.elim
  | _ :: _, [], _, h, _ => h.elim
  | _ :: _, _ :: _, [], _, h => h.elim
  | a :: p, b :: q, c :: r, h, h' => by
    rcases h with h | ⟨h, h2⟩
    · rcases h' with h' | ⟨h', h3⟩
      · exact .inl (Nat.lt_trans h h')
      · exact .inl (h' ▸ h)
    · rcases h' with h' | ⟨h', h3⟩
      · exact .inl (h ▸ h')
      · exact .inr ⟨h.trans h', lex_trans h2 h3⟩
theorem lex_irr : ∀ {p : List Nat}, ¬ lexLt p p
  | [], h => h
  | _ :: _, h => by
    rcases h with h | ⟨_, h⟩
    · exact Nat.lt_irrefl _ h
    · exact lex_irr h
theorem sl_trans {p q r : List Nat} (h : sl p q) (h' : sl q r) : sl p r := by
  rcases h with h | ⟨h, h2⟩
  · rcases h' with h' | ⟨h', h3⟩
    · exact .inl (by omega)
    · exact .inl (by omega)
  · rcases h' with h' | ⟨h', h3⟩
    · exact .inl (by omega)
    · exact .inr ⟨h.trans h', lex_trans h2 h3⟩
theorem sl_irr {p : List Nat} : ¬ sl p p := by
  rintro (h | ⟨_, h⟩)
  · omega
  · exact lex_irr h
theorem sle_sl {p q r : List Nat} (h : sle p q) (h' : sl q r) : sl p r := by
  rcases h with rfl | h
  · exact h'
  · exact sl_trans h h'
theorem sle_trans {p q r : List Nat} (h : sle p q) (h' : sle q r) : sle p r := by
  rcases h' with rfl | h'
  · exact h
  · exact .inr (sle_sl h h')
theorem sle_anti {p q : List Nat} (h : sle p q) (h' : sle q p) : p = q := by
  rcases h with h | h
  · exact h
  · rcases h' with h' | h'
    · exact h'.symm
    · exact (sl_irr (sl_trans h h')).elim
theorem sle_len {p q : List Nat} (h : sle p q) : p.length ≤ q.length := by
  rcases h with rfl | h | h
  · exact Nat.le_refl _
  · omega
  · omega
theorem sl_grow {p q : List Nat} (y : Nat) (h : sle p q) : sl p (q ++ [y]) := by
  have := sle_len h
  exact .inl (by rw [List.length_append]; show _ < _ + 1; omega)
theorem sl_snoc {p q : List Nat} (x y : Nat) (h : sl p q) : sl (p ++ [x]) (q ++ [y]) := by
  rcases h with h | ⟨h, h2⟩
  · exact .inl (by rw [List.length_append, List.length_append]; show _ + 1 < _ + 1; omega)
  · exact .inr ⟨by rw [List.length_append, List.length_append, h]; rfl, lex_snoc x y h h2⟩
theorem sl_last {x y : Nat} (p : List Nat) (h : x < y) : sl (p ++ [x]) (p ++ [y]) := .inr ⟨by rw [List.length_append, List.length_append]; rfl, lex_last h p⟩
theorem walk_last {nm : List (List Nat)} {f x : Nat} {w : List Nat} (h : Walk nm f w x) : w.getLast? = some x := by
  cases h with
  | one => rfl
  | snoc _ _ => simp
theorem walk_uniq {nm : List (List Nat)} {f x y : Nat} {w : List Nat} (h : Walk nm f w x) (h' : Walk nm f w y) : x = y := by
  have e := walk_last h
  rw [walk_last h'] at e
  exact (Option.some.inj e).symm
theorem walk_pos {nm : List (List Nat)} {f x : Nat} {w : List Nat} (h : Walk nm f w x) : 0 < w.length := by
  cases h with
  | one => exact Nat.one_pos
  | snoc _ _ => simp
/-- walks of a snoc -/
theorem walk_snoc {nm : List (List Nat)} {f x y : Nat} {w : List Nat} (h : Walk nm f (w ++ [y]) x) : x = y := by
  have e := walk_last h
  simp at e
  exact e.symm
/-! ### the search -/
structure BI (nm : List (List Nat)) (f : Nat) (D Q : List (List Nat)) (R : List Nat) : Prop where
  wk : ∀ p, p ∈ D ++ Q → ∃ x, x ∈ R ∧ Walk nm f p x
  st : (D ++ Q).Pairwise sl
  up : ∀ q, q ∈ Q → (D = [] ∧ q = [f]) ∨ ∃ d, d ∈ D ∧ ∃ x, q = d ++ [x]
  cl : ∀ d, d ∈ D → ∀ x, Walk nm f d x → ∀ y, y ∈ row nm x → y ≠ f ∧ ∃ q, q ∈ D ++ Q ∧ Walk nm f q y ∧ sle q (d ++ [y])
  rt : [f] ∈ D ++ Q
  rc : ∀ y, y ∈ R → ∃ q, q ∈ D ++ Q ∧ Walk nm f q y
  nd : R.Nodup
  ln : (D ++ Q).length = R.length
  dl : ∀ d, d ∈ D → d.length ≤ D.length
  ql : ∀ q, q ∈ Q → q.length ≤ D.length + 1
section
variable {nm : List (List Nat)} {f : Nat} {D Q : List (List Nat)} {R : List Nat}
theorem BI.start : BI nm f [] [[f]] [f] where
  wk := fun p h => by
    have e : p = [f] := by simpa using h
    subst e
    exact ⟨f, by simp, .one⟩
  st := by simp
  up := fun q h => .inl ⟨rfl, by simpa using h⟩
  cl := fun d h => by cases h
  rt := by simp
  rc := fun y h => by
    have e : y = f := by simpa using h
    subst e
    exact ⟨[y], by simp, .one⟩
  nd := by simp
  ln := rfl
  dl := fun d h => by cases h
  ql := fun q h => by
    have e : q = [f] := by simpa using h
    subst e
    exact Nat.le_refl _
theorem BI.min (I : BI nm f D Q R) {w : List Nat} {x : Nat} (h : Walk nm f w x) : (∃ q, q ∈ D ++ Q ∧ Walk nm f q x ∧ sle q w) ∨ ∃ q, q ∈ Q ∧ sl q w := by
  induction h with
  | one => exact .inl ⟨[f], I.rt, .one, .inl rfl⟩
  | @snoc w x y h hy ih =>
    rcases ih with ⟨q, hq, hw, hs⟩ | ⟨q, hq, hs⟩
    · rcases List.mem_append.mp hq with hd | hd
      · obtain ⟨_, q2, h2, hw2, hs2⟩ := I.cl q hd x hw y hy
        refine .inl ⟨q2, h2, hw2, sle_trans hs2 ?_⟩
        rcases hs with rfl | hs
        · exact .inl rfl
        · exact .inr (sl_snoc _ _ hs)
      · exact .inr ⟨q, hd, sl_grow y hs⟩
    · exact .inr ⟨q, hq, sl_grow y (.inr hs)⟩
theorem BI.none (I : BI nm f D [] R) (w : List Nat) : ¬ Ring nm f w := by
  rintro ⟨x, h, hf⟩
  rcases I.min h with ⟨q, hq, hw, _⟩ | ⟨q, hq, _⟩
  · rw [List.append_nil] at hq
    exact (I.cl q hq x hw f hf).1 rfl
  · cases hq
theorem BI.found {p : List Nat} {x : Nat} (I : BI nm f D (p :: Q) R) (hp : Walk nm f p x) (hf : f ∈ row nm x) : Ring nm f p ∧ ∀ w, Ring nm f w → sle p w := by
  refine ⟨⟨x, hp, hf⟩, ?_⟩
  rintro w ⟨y, h, hy⟩
  have le : ∀ q, q ∈ p :: Q → sle p q := by
    intro q hq
    have st : (p :: Q).Pairwise sl := (List.pairwise_append.mp I.st).2.1
    rcases List.mem_cons.mp hq with rfl | hq
    · exact .inl rfl
    · exact .inr ((List.pairwise_cons.mp st).1 q hq)
  rcases I.min h with ⟨q, hq, hw, hs⟩ | ⟨q, hq, hs⟩
  · rcases List.mem_append.mp hq with hd | hd
    · exact ((I.cl q hd y hw f hy).1 rfl).elim
    · exact sle_trans (le q hd) hs
  · exact .inr (sle_sl (le q hq) hs)
/-- one path's turn -/
structure BS (nm : List (List Nat)) (f : Nat) (D : List (List Nat)) (p : List Nat) (Q0 A : List (List Nat)) (R : List Nat) (seen : List Nat) : Prop where
  wk : ∀ q, q ∈ D ++ [p] ++ (Q0 ++ A) → ∃ x, x ∈ R ∧ Walk nm f q x
  st : (D ++ [p] ++ (Q0 ++ A)).Pairwise sl
  up : ∀ q, q ∈ Q0 → ∃ d, d ∈ D ∧ ∃ x, q = d ++ [x]
  na : ∀ q, q ∈ A → ∃ y, y ∈ seen ∧ q = p ++ [y]
  cl : ∀ d, d ∈ D → ∀ x, Walk nm f d x → ∀ y, y ∈ row nm x → y ≠ f ∧ ∃ q, q ∈ D ++ [p] ++ (Q0 ++ A) ∧ Walk nm f q y ∧ sle q (d ++ [y])
  ch : ∀ y, y ∈ seen → y ≠ f ∧ ∃ q, q ∈ D ++ [p] ++ (Q0 ++ A) ∧ Walk nm f q y ∧ sle q (p ++ [y])
  rt : [f] ∈ D ++ [p] ++ (Q0 ++ A)
  rc : ∀ y, y ∈ R → ∃ q, q ∈ D ++ [p] ++ (Q0 ++ A) ∧ Walk nm f q y
  nd : R.Nodup
  ln : (D ++ [p] ++ (Q0 ++ A)).length = R.length
  dl : ∀ d, d ∈ D → d.length ≤ D.length
  ql : ∀ q, q ∈ Q0 → q.length ≤ D.length + 1
  pl : p.length ≤ D.length + 1
theorem BI.open {p : List Nat} (I : BI nm f D (p :: Q) R) : BS nm f D p Q [] R [] where
  wk := by simpa using I.wk
  st := by simpa using I.st
  up := fun q hq => by
    rcases I.up q (List.mem_cons_of_mem _ hq) with ⟨rfl, rfl⟩ | h
    · have st : (p :: Q).Pairwise sl := I.st
      have h1 := (List.pairwise_cons.mp st).1 _ hq
      rcases I.up p List.mem_cons_self with ⟨_, rfl⟩ | ⟨d, hd, _⟩
      · exact (sl_irr h1).elim
      · cases hd
    · exact h
  na := fun q h => by cases h
  cl := by simpa using I.cl
  ch := fun y h => by cases h
  rt := by simpa using I.rt
  rc := by simpa using I.rc
  nd := I.nd
  ln := by simpa using I.ln
  dl := I.dl
  ql := fun q h => I.ql q (List.mem_cons_of_mem _ h)
  pl := I.ql p List.mem_cons_self
variable {p : List Nat} {A : List (List Nat)} {seen : List Nat}
theorem BS.lt (I : BS nm f D p Q A R seen) {y : Nat} (hs : ∀ z, z ∈ seen → z < y) : ∀ q, q ∈ D ++ [p] ++ (Q ++ A) → sl q (p ++ [y]) := by
  intro q hq
  have st := I.st
  rw [List.append_assoc] at st
  have hd : ∀ d, d ∈ D → sl d p := fun d hd => (List.pairwise_append.mp st).2.2 d hd p (by simp)
  rcases List.mem_append.mp hq with h | h
  · rcases List.mem_append.mp h with h | h
    · exact sl_grow y (.inr (hd q h))
    · have e : q = p := by simpa using h
      subst e
      exact sl_grow y (.inl rfl)
  · rcases List.mem_append.mp h with h | h
    · obtain ⟨d, h1, x, rfl⟩ := I.up q h
      exact sl_snoc _ _ (hd d h1)
    · obtain ⟨z, hz, rfl⟩ := I.na q h
      exact sl_last p (hs z hz)
theorem BS.old (I : BS nm f D p Q A R seen) {y : Nat} (hs : ∀ z, z ∈ seen → z < y) (hf : y ≠ f) (hy : y ∈ R) : BS nm f D p Q A R (seen ++ [y]) := by
  refine { I with na := fun q h => ?_, ch := fun z hz => ?_ }
  · obtain ⟨z, hz, e⟩ := I.na q h
    exact ⟨z, List.mem_append.mpr (.inl hz), e⟩
  · rcases List.mem_append.mp hz with hz | hz
    · exact I.ch z hz
    · have e : z = y := by simpa using hz
      subst e
      obtain ⟨q, hq, hw⟩ := I.rc z hy
      exact ⟨hf, q, hq, hw, .inr (I.lt hs q hq)⟩
theorem BS.new (I : BS nm f D p Q A R seen) {x y : Nat} (hp : Walk nm f p x) (hr : y ∈ row nm x) (hs : ∀ z, z ∈ seen → z < y) (hf : y ≠ f) (hy : y ∉ R) : BS nm f D p Q (A ++ [p ++ [y]]) (R ++ [y]) (seen ++ [y]) := by
  have wn : Walk nm f (p ++ [y]) y := .snoc hp hr
  have ea : D ++ [p] ++ (Q ++ (A ++ [p ++ [y]])) = (D ++ [p] ++ (Q ++ A)) ++ [p ++ [y]] := by simp
  refine ⟨fun q hq => ?_, ?_, I.up, fun q h => ?_, fun d hd z hz u hu => ?_, fun z hz => ?_, ?_, fun z hz => ?_, ?_, ?_, I.dl, I.ql, I.pl⟩
  · rw [ea] at hq
    rcases List.mem_append.mp hq with h | h
    · obtain ⟨z, hz, hw⟩ := I.wk q h
      exact ⟨z, List.mem_append.mpr (.inl hz), hw⟩
    · have e : q = p ++ [y] := by simpa using h
      subst e
      exact ⟨y, by simp, wn⟩
  · rw [ea, List.pairwise_append]
    refine ⟨I.st, by simp, fun q hq r hr => ?_⟩
    have e : r = p ++ [y] := by simpa using hr
    subst e
    exact I.lt hs q hq
  · rcases List.mem_append.mp h with h | h
    · obtain ⟨z, hz, e⟩ := I.na q h
      exact ⟨z, List.mem_append.mpr (.inl hz), e⟩
    · exact ⟨y, by simp, by simpa using h⟩
  · obtain ⟨h1, q, hq, h2⟩ := I.cl d hd z hz u hu
    exact ⟨h1, q, by rw [ea]; exact List.mem_append.mpr (.inl hq), h2⟩
  · rcases List.mem_append.mp hz with hz | hz
    · obtain ⟨h1, q, hq, h2⟩ := I.ch z hz
      exact ⟨h1, q, by rw [ea]; exact List.mem_append.mpr (.inl hq), h2⟩
    · have e : z = y := by simpa using hz
      subst e
      exact ⟨hf, p ++ [z], by simp, wn, .inl rfl⟩
  · rw [ea]; exact List.mem_append.mpr (.inl I.rt)
  · rcases List.mem_append.mp hz with hz | hz
    · obtain ⟨q, hq, h2⟩ := I.rc z hz
      exact ⟨q, by rw [ea]; exact List.mem_append.mpr (.inl hq), h2⟩
    · have e : z = y := by simpa using hz
      subst e
      exact ⟨p ++ [z], by simp, wn⟩
  · rw [List.nodup_append]
    refine ⟨I.nd, by simp, fun a ha b hb => ?_⟩
    have e : b = y := by simpa using hb
    subst e
    rintro rfl
    exact hy ha
  · rw [ea, List.length_append, I.ln, List.length_append]
    rfl
theorem BS.close (I : BS nm f D p Q A R seen) {x : Nat} (hp : Walk nm f p x) (hs : ∀ y, y ∈ row nm x → y ∈ seen) : BI nm f (D ++ [p]) (Q ++ A) R := by
  refine ⟨I.wk, I.st, fun q hq => ?_, fun d hd z hz y hy => ?_, I.rt, I.rc, I.nd, I.ln, fun d hd => ?_, fun q hq => ?_⟩
  · rcases List.mem_append.mp hq with h | h
    · obtain ⟨d, h1, h2⟩ := I.up q h
      exact .inr ⟨d, List.mem_append.mpr (.inl h1), h2⟩
    · obtain ⟨y, _, e⟩ := I.na q h
      exact .inr ⟨p, by simp, y, e⟩
  · rcases List.mem_append.mp hd with h | h
    · exact I.cl d h z hz y hy
    · have e : d = p := by simpa using h
      subst e
      have e2 := walk_uniq hz hp
      subst e2
      exact I.ch y (hs y hy)
  · rw [List.length_append]
    rcases List.mem_append.mp hd with h | h
    · have := I.dl d h
      show _ ≤ _ + 1
      omega
    · have e : d = p := by simpa using h
      subst e
      exact I.pl
  · rw [List.length_append]
    show _ ≤ _ + 1 + 1
    rcases List.mem_append.mp hq with h | h
    · have := I.ql q h
      omega
    · obtain ⟨y, _, rfl⟩ := I.na q h
      have := I.pl
      rw [List.length_append]
      show _ + 1 ≤ _
      omega
end
theorem nodup_lt : ∀ {n : Nat} {l : List Nat}, l.Nodup → (∀ x, x ∈ l → x < n) → l.length ≤ n
  | 0, l, _, h => by
    cases l with
    | nil => exact Nat.le_refl _
    | cons a l => exact (Nat.not_lt_zero _ (h a List.mem_cons_self)).elim
  | n + 1, l, hd, h => by
    have h1 : (l.erase n).length ≤ n := nodup_lt (hd.erase n) fun x hx => by
      have := (List.Nodup.mem_erase_iff hd).mp hx
      have := h x this.2
      omega
    have h2 : l.length ≤ (l.erase n).length + 1 := by
      rw [List.length_erase]
      split <;> omega
    omega
/-- the least ring of a line, [] where none is -/
def Least (nm : List (List Nat)) (f : Nat) (r : List Nat) : Prop := Ring nm f r ∧ ∀ w, Ring nm f w → sle r w
def IsBst (nm : List (List Nat)) (f : Nat) (r : List Nat) : Prop := (r = [] ∧ ∀ w, ¬ Ring nm f w) ∨ Least nm f r
theorem ring_ne {nm : List (List Nat)} {f : Nat} {r : List Nat} (h : Ring nm f r) : r ≠ [] := by
  obtain ⟨x, h, _⟩ := h
  have := walk_pos h
  rintro rfl
  exact Nat.lt_irrefl _ this
theorem bst_uniq {nm : List (List Nat)} {f : Nat} {r s : List Nat} (a : IsBst nm f r) (b : IsBst nm f s) : r = s := by
  rcases a with ⟨rfl, a⟩ | ⟨a, a'⟩
  · rcases b with ⟨rfl, _⟩ | ⟨b, _⟩
    · rfl
    · exact (a _ b).elim
  · rcases b with ⟨rfl, b⟩ | ⟨b, b'⟩
    · exact (b _ a).elim
    · exact sle_anti (a' s b) (b' r a)
/-- the best so far and one more -/
def better (acc r : List Nat) : List Nat := if r ≠ [] ∧ (acc = [] ∨ r.length < acc.length) then r else acc
inductive Best (nm : List (List Nat)) : Nat → List Nat → Prop
  | zero : Best nm 0 []
  | succ {i : Nat} {acc r : List Nat} : Best nm i acc → IsBst nm i r → Best nm (i + 1) (better acc r)
theorem best_uniq {nm : List (List Nat)} : ∀ {i : Nat} {a b : List Nat}, Best nm i a → Best nm i b → a = b
  | 0, _, _, .zero, .zero => rfl
  | _ + 1, _, _, .succ h r, .succ h' r' => by rw [best_uniq h h', bst_uniq r r']
theorem best_ring {nm : List (List Nat)} : ∀ {i : Nat} {a : List Nat}, Best nm i a → a = [] ∨ ∃ f, Ring nm f a
  | 0, _, .zero => .inl rfl
  | i + 1, _, .succ (acc := acc) (r := r) h r' => by
    unfold better
    split
    · rename_i hh
      rcases r' with ⟨rfl, _⟩ | ⟨r', _⟩
      · exact (hh.1 rfl).elim
      · exact .inr ⟨_, r'⟩
    · exact best_ring h
/-! ### the law's own: ways back -/
def Way (nm : List (List Nat)) (f : Nat) : Nat → Nat → Prop
  | 0, k => k = f
  | j + 1, k => ∃ x, x ∈ row nm k ∧ Way nm f j x
def Dist (nm : List (List Nat)) (f k j : Nat) : Prop := 1 ≤ j ∧ Way nm f j k ∧ ∀ i, 1 ≤ i → i < j → ¬ Way nm f i k
section
variable {nm : List (List Nat)} {f : Nat}
theorem dist_uniq {k i j : Nat} (a : Dist nm f k i) (b : Dist nm f k j) : i = j := by
  rcases Nat.lt_trichotomy i j with h | h | h
  · exact (b.2.2 i a.1 h a.2.1).elim
  · exact h
  · exact (a.2.2 j b.1 h b.2.1).elim
theorem way_dist {k : Nat} : ∀ {i : Nat}, 1 ≤ i → Way nm f i k → ∃ j, j ≤ i ∧ Dist nm f k j := by
  intro i
  induction i using Nat.strongRecOn with
  | _ i ih =>
    intro h1 h
    by_cases e : ∃ j, 1 ≤ j ∧ j < i ∧ Way nm f j k
    · obtain ⟨j, a, b, c⟩ := e
      obtain ⟨m, hm, d⟩ := ih j b a c
      exact ⟨m, by omega, d⟩
    · exact ⟨i, Nat.le_refl _, h1, h, fun j a b c => e ⟨j, a, b, c⟩⟩
/-- the line next on a shortest way -/
theorem dist_next {k j : Nat} (h : Dist nm f k (j + 1)) {x : Nat} (hx : x ∈ row nm k) (hw : Way nm f j x) (h1 : 1 ≤ j) : Dist nm f x j :=
  ⟨h1, hw, fun i a b c => h.2.2 (i + 1) (by omega) (by omega) ⟨x, hx, c⟩⟩
theorem dist_row {k j : Nat} (h : Dist nm f k (j + 1)) (h1 : 1 ≤ j) : ∃ x, x ∈ row nm k ∧ Dist nm f x j := by
  obtain ⟨x, hx, hw⟩ := h.2.1
  exact ⟨x, hx, dist_next h hx hw h1⟩
theorem row_lt {k x : Nat} (h : x ∈ row nm k) : k < nm.length := by
  by_cases e : k < nm.length
  · exact e
  · unfold row at h
    rw [List.getElem?_eq_none (by omega)] at h
    cases h
theorem dist_list : ∀ {j k : Nat}, Dist nm f k j → ∃ l : List Nat, l.length = j ∧ l.Nodup ∧ ∀ x, x ∈ l → x < nm.length ∧ ∃ i, i ≤ j ∧ Dist nm f x i
  | 0, k, h => by have := h.1; omega
  | 1, k, h => by
    obtain ⟨x, hx, _⟩ := h.2.1
    refine ⟨[k], rfl, by simp, fun y hy => ?_⟩
    have e : y = k := by simpa using hy
    subst e
    exact ⟨row_lt hx, 1, Nat.le_refl _, h⟩
  | j + 2, k, h => by
    obtain ⟨x, hx, hd⟩ := dist_row h (by omega)
    obtain ⟨l, hl, hn, hm⟩ := dist_list hd
    refine ⟨k :: l, by rw [List.length_cons, hl], List.nodup_cons.mpr ⟨fun z => ?_, hn⟩, fun y hy => ?_⟩
    · obtain ⟨_, i, hi, d⟩ := hm k z
      have := dist_uniq d h
      omega
    · rcases List.mem_cons.mp hy with rfl | hy
      · exact ⟨row_lt hx, j + 2, Nat.le_refl _, h⟩
      · obtain ⟨a, i, hi, d⟩ := hm y hy
        exact ⟨a, i, by omega, d⟩
theorem dist_le {j k : Nat} (h : Dist nm f k j) : j ≤ nm.length := by
  obtain ⟨l, hl, hn, hm⟩ := dist_list h
  rw [← hl]
  exact nodup_lt hn fun x hx => (hm x hx).1
theorem walk_way {w : List Nat} {x : Nat} (h : Walk nm f w x) : ∀ {j : Nat}, Way nm f j x → Way nm f (w.length - 1 + j) f := by
  induction h with
  | one => intro j hj; simpa using hj
  | @snoc w x y h hy ih =>
    intro j hj
    have := ih (j := j + 1) ⟨y, hy, hj⟩
    have hp := walk_pos h
    rw [List.length_append]
    show Way nm f (w.length + 1 - 1 + j) f
    rw [show w.length + 1 - 1 + j = w.length - 1 + (j + 1) by omega]
    exact this
theorem ring_way {w : List Nat} (h : Ring nm f w) : Way nm f w.length f := by
  obtain ⟨x, h, hf⟩ := h
  have := walk_way h (j := 1) ⟨f, hf, rfl⟩
  have hp := walk_pos h
  rw [show w.length - 1 + 1 = w.length by omega] at this
  exact this
/-- the ways from a walk's places -/
theorem walk_take {w : List Nat} {x : Nat} (h : Walk nm f w x) : ∀ {m : Nat}, 1 ≤ m → m ≤ w.length → ∃ y, Walk nm f (w.take m) y ∧ ∀ {j : Nat}, Way nm f j x → Way nm f (w.length - m + j) y := by
  induction h with
  | one =>
    intro m h1 h2
    have e : m = 1 := by simp at h2; omega
    subst e
    exact ⟨f, .one, fun hj => by simpa using hj⟩
  | @snoc w x y h hy ih =>
    intro m h1 h2
    rw [List.length_append] at h2
    have h2 : m ≤ w.length + 1 := h2
    by_cases e : m = w.length + 1
    · subst e
      refine ⟨y, ?_, fun hj => ?_⟩
      · rw [show w.length + 1 = (w ++ [y]).length by rw [List.length_append]; rfl, List.take_length]
        exact .snoc h hy
      · rw [List.length_append]
        show Way nm f (w.length + 1 - (w.length + 1) + _) y
        rw [Nat.sub_self, Nat.zero_add]
        exact hj
    · obtain ⟨z, hz, hz2⟩ := ih h1 (by omega)
      refine ⟨z, ?_, fun {j} hj => ?_⟩
      · rw [List.take_append_of_le_length (by omega)]
        exact hz
      · have := hz2 (j := j + 1) ⟨y, hy, hj⟩
        rw [List.length_append]
        show Way nm f (w.length + 1 - m + j) z
        rw [show w.length + 1 - m + j = w.length - m + (j + 1) by omega]
        exact this
/-- the law's choice of the next line: the greedy list, so far -/
structure Greedy (nm : List (List Nat)) (f L t : Nat) (g : List Nat) : Prop where
  ln : g.length = t + 1
  tl : t < L
  wk : ∃ x, Walk nm f g x ∧ Dist nm f x (L - t)
  le : ∀ w, Ring nm f w → w.length = L → g = w.take (t + 1) ∨ lexLt g (w.take (t + 1))
theorem greedy_start {L : Nat} (h : Dist nm f f L) : Greedy nm f L 0 [f] := by
  refine ⟨rfl, h.1, ⟨f, .one, h⟩, fun w ⟨x, hw, _⟩ e => .inl ?_⟩
  have h1 := h.1
  obtain ⟨y, hy, _⟩ := walk_take hw (m := 1) (Nat.le_refl _) (by omega)
  show [f] = w.take 1
  generalize ev : w.take 1 = v at hy ⊢
  have hl : v.length ≤ 1 := by rw [← ev, List.length_take]; omega
  cases hy with
  | one => rfl
  | @snoc w' x y h _ =>
    have := walk_pos h
    rw [List.length_append] at hl
    have : w'.length + 1 ≤ 1 := hl
    omega
theorem take_snoc {w : List Nat} {m : Nat} (h : m < w.length) : w.take (m + 1) = w.take m ++ [w[m]] := by
  rw [List.take_add_one, List.getElem?_eq_getElem h]; rfl
theorem greedy_step {L t : Nat} {g : List Nat} {x y : Nat} (I : Greedy nm f L t g) (hx : Walk nm f g x) (h1 : t + 1 < L) (hy : y ∈ row nm x) (hd : Dist nm f y (L - t - 1)) (hm : ∀ z, z ∈ row nm x → Dist nm f z (L - t - 1) → y ≤ z) : Greedy nm f L (t + 1) (g ++ [y]) := by
  refine ⟨by rw [List.length_append, I.ln]; rfl, h1, ⟨y, .snoc hx hy, hd⟩, fun w hw e => ?_⟩
  have hlt : t + 1 < w.length := by omega
  rw [take_snoc hlt]
  rcases I.le w hw e with h | h
  · obtain ⟨u, hu, huf⟩ := hw
    obtain ⟨z, hz, hzw⟩ := walk_take hu (m := t + 2) (by omega) (by omega)
    rw [take_snoc hlt, ← h] at hz
    have ez := walk_snoc hz
    subst ez
    have hzr : w[t + 1] ∈ row nm x := by
      generalize w[t + 1] = c at hz ⊢
      generalize ea : g ++ [c] = a at hz
      cases hz with
      | one =>
        have := congrArg List.length ea
        rw [List.length_append, I.ln] at this
        have : t + 1 + 1 = 1 := this
        omega
      | @snoc w' x' y' h' hy' =>
        have e1 := List.append_inj' ea rfl
        have e2 := e1.1
        subst e2
        rw [walk_uniq hx h']
        exact hy'
    have hzw1 := hzw (j := 1) ⟨f, huf, rfl⟩
    obtain ⟨x', hx', hdx⟩ := I.wk
    have ex := walk_uniq hx' hx
    subst ex
    have hdz : Dist nm f w[t + 1] (L - t - 1) := by
      rw [show L - t = (L - t - 1) + 1 by omega] at hdx
      refine dist_next hdx hzr ?_ (by omega)
      rw [show L - t - 1 = w.length - (t + 2) + 1 by omega]
      exact hzw1
    have hle := hm _ hzr hdz
    by_cases eq : y = w[t + 1]
    · exact .inl (by rw [← h, eq])
    · exact .inr (by rw [← h]; exact lex_last (by omega) g)
  · exact .inr (lex_snoc _ _ (by rw [I.ln, List.length_take]; omega) h)
theorem greedy_end {L : Nat} {g : List Nat} (hL : Dist nm f f L) (I : Greedy nm f L (L - 1) g) : Least nm f g := by
  have h1 := hL.1
  have hl : g.length = L := by rw [I.ln]; omega
  obtain ⟨x, hx, hd⟩ := I.wk
  rw [show L - (L - 1) = 1 by omega] at hd
  obtain ⟨y, hy, hy0⟩ := hd.2.1
  have hf : f ∈ row nm x := by rw [← (show y = f from hy0)]; exact hy
  refine ⟨⟨x, hx, hf⟩, fun w hw => ?_⟩
  have hwl : L ≤ w.length := by
    obtain ⟨u, hu, _⟩ := id hw
    have hp := walk_pos hu
    by_cases e : w.length < L
    · exact (hL.2.2 _ hp e (ring_way hw)).elim
    · omega
  by_cases e : w.length = L
  · rcases I.le w hw e with h | h
    · rw [show L - 1 + 1 = w.length by omega, List.take_length] at h
      exact .inl h
    · rw [show L - 1 + 1 = w.length by omega, List.take_length] at h
      exact .inr (.inr ⟨by omega, h⟩)
  · exact .inr (.inl (by omega))
theorem no_ring (h : ∀ j, ¬ Dist nm f f j) (w : List Nat) : ¬ Ring nm f w := by
  intro hw
  obtain ⟨u, hu, _⟩ := id hw
  obtain ⟨j, _, d⟩ := way_dist (walk_pos hu) (ring_way hw)
  exact h j d
/-- the law's search back: all lines within so many steps -/
theorem back_step {k long : Nat} (hn : ∀ j, j ≤ long → ¬ Dist nm f k j) : Dist nm f k (long + 1) ↔ ∃ x, x ∈ row nm k ∧ ((long = 0 ∧ x = f) ∨ (1 ≤ long ∧ Dist nm f x long)) := by
  constructor
  · intro h
    obtain ⟨x, hx, hw⟩ := h.2.1
    by_cases e : long = 0
    · subst e
      exact ⟨x, hx, .inl ⟨rfl, hw⟩⟩
    · exact ⟨x, hx, .inr ⟨by omega, dist_next h hx hw (by omega)⟩⟩
  · rintro ⟨x, hx, h⟩
    have hw : Way nm f (long + 1) k := by
      refine ⟨x, hx, ?_⟩
      rcases h with ⟨rfl, rfl⟩ | ⟨_, h⟩
      · rfl
      · exact h.2.1
    refine ⟨by omega, hw, fun i a b c => ?_⟩
    obtain ⟨j, hj, d⟩ := way_dist a c
    exact hn j (by omega) d
end
theorem least_nat {P : Nat → Prop} : ∀ {y : Nat}, P y → ∃ z, P z ∧ ∀ u, P u → z ≤ u := by
  intro y
  induction y using Nat.strongRecOn with
  | _ y ih =>
    intro h
    by_cases e : ∃ u, u < y ∧ P u
    · obtain ⟨u, a, b⟩ := e
      exact ih u a b
    · refine ⟨y, h, fun u hu => ?_⟩
      by_cases e2 : y ≤ u
      · exact e2
      · exact (e ⟨u, by omega, hu⟩).elim
section
variable {nm : List (List Nat)} {f : Nat}
theorem greedy_all {L : Nat} (h : Dist nm f f L) : ∀ t, t < L → ∃ g, Greedy nm f L t g
  | 0, _ => ⟨[f], greedy_start h⟩
  | t + 1, ht => by
    obtain ⟨g, I⟩ := greedy_all h t (by omega)
    obtain ⟨x, hx, hd⟩ := I.wk
    rw [show L - t = (L - t - 1) + 1 by omega] at hd
    obtain ⟨y, hy, hdy⟩ := dist_row hd (by omega)
    obtain ⟨z, ⟨hz, hdz⟩, hm⟩ := least_nat (P := fun y => y ∈ row nm x ∧ Dist nm f y (L - t - 1)) ⟨hy, hdy⟩
    exact ⟨_, greedy_step I hx ht hz hdz fun u a b => hm u ⟨a, b⟩⟩
theorem least_of {L : Nat} (h : Dist nm f f L) : ∃ r, Least nm f r ∧ r.length = L := by
  have := h.1
  obtain ⟨g, I⟩ := greedy_all h (L - 1) (by omega)
  exact ⟨g, greedy_end h I, by rw [I.ln]; omega⟩
theorem walk_next {w : List Nat} {x : Nat} (h : Walk nm f w x) : w[0]? = some f ∧ ∀ i, i + 1 < w.length → ∃ a b, w[i]? = some a ∧ w[i + 1]? = some b ∧ b ∈ row nm a := by
  induction h with
  | one => exact ⟨rfl, fun i hi => absurd hi (by simp)⟩
  | @snoc w x y h hy ih =>
    have hp := walk_pos h
    refine ⟨by rw [List.getElem?_append_left hp]; exact ih.1, fun i hi => ?_⟩
    rw [List.length_append] at hi
    have hi : i + 1 < w.length + 1 := hi
    by_cases e : i + 1 < w.length
    · obtain ⟨a, b, h1, h2, h3⟩ := ih.2 i e
      exact ⟨a, b, by rw [List.getElem?_append_left (by omega)]; exact h1, by rw [List.getElem?_append_left (by omega)]; exact h2, h3⟩
    · have e : i + 1 = w.length := by omega
      refine ⟨x, y, ?_, by rw [List.getElem?_append_right (by omega), e, Nat.sub_self]; rfl, hy⟩
      rw [List.getElem?_append_left (by omega)]
      have := walk_last h
      rw [List.getLast?_eq_getElem?, show w.length - 1 = i by omega] at this
      exact this
theorem ring_next {w : List Nat} (h : Ring nm f w) {i : Nat} (hi : i < w.length) : ∃ a b, w[i]? = some a ∧ w[(i + 1) % w.length]? = some b ∧ b ∈ row nm a := by
  obtain ⟨x, h, hf⟩ := h
  obtain ⟨h0, hn⟩ := walk_next h
  by_cases e : i + 1 < w.length
  · rw [Nat.mod_eq_of_lt e]
    exact hn i e
  · have e : i + 1 = w.length := by omega
    rw [e, Nat.mod_self]
    refine ⟨x, f, ?_, h0, hf⟩
    have := walk_last h
    rw [List.getLast?_eq_getElem?, show w.length - 1 = i by omega] at this
    exact this
end
theorem least_len {nm : List (List Nat)} {f : Nat} {r : List Nat} (h : Least nm f r) : r.length ≤ nm.length := by
  obtain ⟨x, hw, _⟩ := id h.1
  obtain ⟨j, _, d⟩ := way_dist (walk_pos hw) (ring_way h.1)
  obtain ⟨r', h', l'⟩ := least_of d
  rw [bst_uniq (.inr h) (.inr h'), l']
  exact dist_le d
theorem best_len {nm : List (List Nat)} : ∀ {i : Nat} {a : List Nat}, Best nm i a → a.length ≤ nm.length
  | 0, _, .zero => Nat.zero_le _
  | i + 1, _, .succ h r' => by
    unfold better
    split
    · rcases r' with ⟨rfl, _⟩ | r'
      · exact Nat.zero_le _
      · exact least_len r'
    · exact best_len h
end Qg
open PySem PySem.Spec PyProof.Rows L2 Qa Qr
/-! whole numbers in lists; which lines each rule names -/
namespace Qg
abbrev iv (n : Nat) : V := .int (n : Int)
abbrev ik (n : Nat) : Key := .inl (n : Int)
def rowK (n : Nat) (ks : List Key) : List Nat := (List.range n).filter fun i => memK (ik i) ks
def nmOf (ts : List T) : List (List Nat) := ts.map fun t => rowK ts.length (beh "line" 8 t)
theorem iv_key (l : List Nat) : (l.map ik).map kV = l.map iv := by rw [List.map_map]; rfl
theorem iv_int (l : List Nat) : (l.map fun n : Nat => (n : Int)).map V.int = l.map iv := by rw [List.map_map]; rfl
theorem mem_rowK {n : Nat} {ks : List Key} {i : Nat} : i ∈ rowK n ks ↔ i < n ∧ ik i ∈ ks := by
  unfold rowK
  rw [List.mem_filter, List.mem_range, memK_iff]
theorem rowK_sorted (n : Nat) (ks : List Key) : (rowK n ks).Pairwise (· < ·) := List.Pairwise.filter _ List.pairwise_lt_range
def placeK (n : Nat) : Key → Bool
  | .inl i => decide (0 ≤ i) && decide (i < n)
  | .inr _ => false
theorem srt_filter {p : Key → Bool} : ∀ {ls : List Key}, srt ls → srt (ls.filter p) := by
  intro ls h
  rcases h with ⟨ns, rfl, h⟩ | ⟨xs, rfl, h⟩
  · refine .inl ⟨ns.filter (p ∘ Sum.inl), List.filter_map, h.filter _⟩
  · have hs : (xs.map (Sum.inr : Str → Key)).filter p = (xs.filter (p ∘ Sum.inr)).map Sum.inr := List.filter_map
    rw [hs]
    have hp := pw_sorted h
    refine .inr ⟨_, rfl, ?_⟩
    have : ∀ l : List Str, l.Pairwise leS → sortedS l = true := by
      intro l
      cases l with
      | nil => intro _; rfl
      | cons x r =>
        intro h
        show risingS x r = true
        induction r generalizing x with
        | nil => rfl
        | cons y r ih =>
          have h1 := List.pairwise_cons.mp h
          show (!ltCps y.cps.toList x.cps.toList && risingS y r) = true
          rw [show ltCps y.cps.toList x.cps.toList = false from h1.1 y List.mem_cons_self, ih y h1.2]
          rfl
    exact this _ (hp.filter _)
theorem keysOf_filter {p : Key → Bool} {ks ls : List Key} (h : keysOf ks ls) : keysOf (ks.filter p) (ls.filter p) :=
  ⟨srt_filter h.1, h.2.1.filter _, fun k => by rw [List.mem_filter, List.mem_filter, h.2.2]⟩
theorem keysOf_row {n : Nat} {ks : List Key} : keysOf (ks.filter (placeK n)) ((rowK n ks).map ik) := by
  refine ⟨.inl ⟨(rowK n ks).map fun i : Nat => (i : Int), by rw [List.map_map]; rfl, ?_⟩, ?_, fun k => ?_⟩
  · rw [List.pairwise_map]
    exact (rowK_sorted n ks).imp fun h => by omega
  · rw [List.Nodup, List.pairwise_map]
    exact (rowK_sorted n ks).imp fun h e => by
      have := Sum.inl.inj e
      omega
  · rw [List.mem_map, List.mem_filter]
    constructor
    · rintro ⟨i, hi, rfl⟩
      obtain ⟨h1, h2⟩ := mem_rowK.mp hi
      exact ⟨h2, by show (decide ((0 : Int) ≤ (i : Int)) && decide ((i : Int) < n)) = true; simp; omega⟩
    · rintro ⟨h1, h2⟩
      cases k with
      | inr x => cases h2
      | inl i =>
        have h2 : (decide (0 ≤ i) && decide (i < n)) = true := h2
        rw [Bool.and_eq_true, decide_eq_true_iff, decide_eq_true_iff] at h2
        have e : ik i.toNat = .inl i := by show Sum.inl _ = Sum.inl _; rw [Int.toNat_of_nonneg h2.1]
        exact ⟨i.toNat, mem_rowK.mpr ⟨by omega, by rw [e]; exact h1⟩, e⟩
theorem places_row {n : Nat} {ks ls : List Key} (h : keysOf ks ls) : ls.filter (placeK n) = (rowK n ks).map ik := keysOf_uniq (keysOf_filter h) keysOf_row
/-- all in their places -/
theorem places_all {n : Nat} {ks ls : List Key} (h : keysOf ks ls) (hp : ∀ k ∈ ks, placeK n k = true) : ls = (rowK n ks).map ik := by
  rw [← places_row h, List.filter_eq_self.mpr fun k hk => hp k ((h.2.2 k).mp hk)]
structure Rows (nm : List (List Nat)) : Prop where
  lt : ∀ r, r ∈ nm → ∀ x, x ∈ r → x < nm.length
  up : ∀ r, r ∈ nm → r.Pairwise (· < ·)
theorem rows_nmOf (ts : List T) : Rows (nmOf ts) := by
  constructor
  · intro r hr x hx
    obtain ⟨t, _, rfl⟩ := List.mem_map.mp hr
    rw [nmOf, List.length_map]
    exact (mem_rowK.mp hx).1
  · intro r hr
    obtain ⟨t, _, rfl⟩ := List.mem_map.mp hr
    exact rowK_sorted _ _
theorem nmOf_len (ts : List T) : (nmOf ts).length = ts.length := by rw [nmOf, List.length_map]
theorem Rows.at {nm : List (List Nat)} (h : Rows nm) (x : Nat) : (∀ y, y ∈ row nm x → y < nm.length) ∧ (row nm x).Pairwise (· < ·) := by
  unfold row
  cases e : nm[x]? with
  | none => exact ⟨by simp, by simp⟩
  | some r => exact ⟨h.lt r (List.mem_of_getElem? e), h.up r (List.mem_of_getElem? e)⟩
/-- at an address a list of lists of numbers -/
def NmAt (H : Hp) (l : Addr) (nm : List (List Nat)) : Prop := ∃ as : List Addr, H l = some (.lst (as.map V.ref)) ∧ as.length = nm.length ∧ ∀ (i : Nat) (r : List Nat), nm[i]? = some r → ∃ a, as[i]? = some a ∧ H a = some (.lst (r.map iv))
theorem NmAt.ex {H H' : Hp} {l : Addr} {nm : List (List Nat)} (h : NmAt H l nm) (e : Ex H H') : NmAt H' l nm := by
  obtain ⟨as, h1, h2, h3⟩ := h
  refine ⟨as, e _ _ h1, h2, fun i r hr => ?_⟩
  obtain ⟨a, h4, h5⟩ := h3 i r hr
  exact ⟨a, h4, e _ _ h5⟩
/-- the paths that wait -/
inductive Pths (H H' : Hp) (pl : Addr) : List Addr → List (List Nat) → Prop
  | nil : Pths H H' pl [] []
  | cons {a : Addr} {q : List Nat} {as : List Addr} {qs : List (List Nat)} : H a = none → a ≠ pl → H' a = some (.lst (q.map iv)) → Pths H H' pl as qs → Pths H H' pl (a :: as) (q :: qs)
theorem Pths.mv {H H1 H2 : Hp} {pl : Addr} (e : ∀ a xs, a ≠ pl → H1 a = some (.lst xs) → H2 a = some (.lst xs)) : ∀ {as : List Addr} {qs : List (List Nat)}, Pths H H1 pl as qs → Pths H H2 pl as qs
  | _, _, .nil => .nil
  | _, _, .cons h1 h2 h3 h => .cons h1 h2 (e _ _ h2 h3) (h.mv e)
theorem Pths.snoc {H H' : Hp} {pl a : Addr} {q : List Nat} (h1 : H a = none) (h2 : a ≠ pl) (h3 : H' a = some (.lst (q.map iv))) : ∀ {as : List Addr} {qs : List (List Nat)}, Pths H H' pl as qs → Pths H H' pl (as ++ [a]) (qs ++ [q])
  | _, _, .nil => .cons h1 h2 h3 .nil
  | _, _, .cons g1 g2 g3 h => .cons g1 g2 g3 (h.snoc h1 h2 h3)
theorem Pths.len {H H' : Hp} {pl : Addr} : ∀ {as : List Addr} {qs : List (List Nat)}, Pths H H' pl as qs → as.length = qs.length
  | _, _, .nil => rfl
  | _, _, .cons _ _ _ h => congrArg (· + 1) h.len
/-- a dict whose keys are these numbers -/
def KsAt (kvs : List (Key × V)) (R : List Nat) : Prop := kvs.length = R.length ∧ ∀ y : Nat, (valV kvs (ik y)).isSome = decide (y ∈ R)
theorem KsAt.snoc {kvs : List (Key × V)} {R : List Nat} {y : Nat} {v : V} (h : KsAt kvs R) (hy : y ∉ R) : KsAt (putK kvs (ik y) v) (R ++ [y]) := by
  have hn : valV kvs (ik y) = none := by
    have := h.2 y
    rw [decide_eq_false hy] at this
    exact Option.isNone_iff_eq_none.mp (by cases e : valV kvs (ik y) with | none => rfl | some _ => rw [e] at this; cases this)
  have ep : putK kvs (ik y) v = kvs ++ [(ik y, v)] := by
    unfold putK
    rw [valV_any, hn]
    rfl
  rw [ep]
  refine ⟨by rw [List.length_append, List.length_append, h.1]; rfl, fun z => ?_⟩
  rw [valV_snoc _ _ _ _ hn]
  by_cases e : z = y
  · subst e
    rw [if_pos rfl]
    simp
  · rw [if_neg (fun c => e (by have := Sum.inl.inj c; omega)), h.2 z]
    simp [e]
theorem nodup_sub {α : Type} : ∀ {l m : List α}, l.Nodup → (∀ x, x ∈ l → x ∈ m) → l.length ≤ m.length
  | [], _, _, _ => Nat.zero_le _
  | a :: l, m, hd, h => by
    obtain ⟨s, t, rfl⟩ := List.append_of_mem (h a List.mem_cons_self)
    have hd' := List.nodup_cons.mp hd
    have := nodup_sub (m := s ++ t) hd'.2 fun x hx => by
      rcases List.mem_append.mp (h x (List.mem_cons_of_mem _ hx)) with z | z
      · exact List.mem_append.mpr (.inl z)
      · rcases List.mem_cons.mp z with rfl | z
        · exact (hd'.1 hx).elim
        · exact List.mem_append.mpr (.inr z)
    rw [List.length_append] at this ⊢
    show l.length + 1 ≤ s.length + (t.length + 1)
    omega
theorem keysOf_len {ks ls : List Key} (h : keysOf ks ls) : ls.length ≤ ks.length := nodup_sub h.2.1 fun k hk => (h.2.2 k).mp hk
theorem walk_split {nm : List (List Nat)} {f x : Nat} {w : List Nat} (h : Walk nm f w x) : ∃ v, w = v ++ [x] := by
  cases h with
  | one => exact ⟨[], rfl⟩
  | snoc _ _ => exact ⟨_, rfl⟩
theorem free_of {H H' : Hp} {p : Addr} (e : Ex H H') (h : H' p = none) : H p = none := by
  cases q : H p with
  | none => rfl
  | some o => rw [e p o q] at h; cases h
/-! which lines lead back, and in how many steps -/
def WaysAt (nm : List (List Nat)) (f : Nat) (B : Nat → Nat) (kvs : List (Key × V)) : Prop :=
  ∀ k, (∃ j, j ≤ B k ∧ Dist nm f k j ∧ valV kvs (ik k) = some (iv j)) ∨ ((∀ j, j ≤ B k → ¬ Dist nm f k j) ∧ valV kvs (ik k) = none)
def Ways (nm : List (List Nat)) (f : Nat) (kvs : List (Key × V)) : Prop :=
  ∀ k, (∃ j, Dist nm f k j ∧ valV kvs (ik k) = some (iv j)) ∨ ((∀ j, ¬ Dist nm f k j) ∧ valV kvs (ik k) = none)
theorem ways_end {nm : List (List Nat)} {f : Nat} {kvs : List (Key × V)} (h : WaysAt nm f (fun _ => nm.length) kvs) : Ways nm f kvs := by
  intro k
  rcases h k with ⟨j, _, d, e⟩ | ⟨h, e⟩
  · exact .inl ⟨j, d, e⟩
  · exact .inr ⟨fun j d => h j (dist_le d) d, e⟩
theorem ik_ne {a b : Nat} (h : a ≠ b) : ik a ≠ ik b := fun z => h (by have := Sum.inl.inj z; omega)
theorem valV_new {kvs : List (Key × V)} {k : Key} {v : V} (hn : valV kvs k = none) : putK kvs k v = kvs ++ [(k, v)] := by
  unfold putK
  rw [valV_any, hn]
  rfl
theorem dist_lt {nm : List (List Nat)} {f k j : Nat} (d : Dist nm f k j) : k < nm.length := by
  obtain ⟨h1, h2, _⟩ := d
  match j, h1, h2 with
  | j + 1, _, ⟨x, hx, _⟩ => exact row_lt hx
theorem ways_level {nm : List (List Nat)} {f i : Nat} {kvs : List (Key × V)} (h : WaysAt nm f (fun k => if k < nm.length then i + 1 else i) kvs) : WaysAt nm f (fun _ => i + 1) kvs := by
  intro k
  by_cases hk : k < nm.length
  · have := h k
    dsimp only at this ⊢
    rw [if_pos hk] at this
    exact this
  · rcases h k with ⟨j, _, d, e⟩ | ⟨_, e⟩
    · exact (hk (dist_lt d)).elim
    · exact .inr ⟨fun j _ d => hk (dist_lt d), e⟩
/-- one line more: it is in, it comes in, it stays out -/
theorem ways_in {nm : List (List Nat)} {f i k0 : Nat} {kvs : List (Key × V)} {j : Nat} (h : WaysAt nm f (fun k => if k < k0 then i + 1 else i) kvs) (hj : j ≤ i) (d : Dist nm f k0 j) (e : valV kvs (ik k0) = some (iv j)) : WaysAt nm f (fun k => if k < k0 + 1 then i + 1 else i) kvs := by
  intro k
  by_cases ek : k = k0
  · subst ek
    exact .inl ⟨j, by dsimp only; split <;> omega, d, e⟩
  · have := h k
    dsimp only at this ⊢
    rw [show (if k < k0 + 1 then i + 1 else i) = (if k < k0 then i + 1 else i) by split <;> split <;> omega]
    exact this
theorem ways_new {nm : List (List Nat)} {f i k0 : Nat} {kvs : List (Key × V)} (h : WaysAt nm f (fun k => if k < k0 then i + 1 else i) kvs) (d : Dist nm f k0 (i + 1)) (e : valV kvs (ik k0) = none) : WaysAt nm f (fun k => if k < k0 + 1 then i + 1 else i) (putK kvs (ik k0) (iv (i + 1))) := by
  rw [valV_new e]
  intro k
  rw [valV_snoc _ _ _ _ e]
  by_cases ek : k = k0
  · subst ek
    exact .inl ⟨i + 1, by dsimp only; rw [if_pos (Nat.lt_succ_self _)]; exact Nat.le_refl _, d, if_pos rfl⟩
  · rw [if_neg (ik_ne ek)]
    have := h k
    dsimp only at this ⊢
    rw [show (if k < k0 + 1 then i + 1 else i) = (if k < k0 then i + 1 else i) by split <;> split <;> omega]
    exact this
theorem ways_out {nm : List (List Nat)} {f i k0 : Nat} {kvs : List (Key × V)} (h : WaysAt nm f (fun k => if k < k0 then i + 1 else i) kvs) (d : ∀ j, j ≤ i + 1 → ¬ Dist nm f k0 j) (e : valV kvs (ik k0) = none) : WaysAt nm f (fun k => if k < k0 + 1 then i + 1 else i) kvs := by
  intro k
  by_cases ek : k = k0
  · subst ek
    exact .inr ⟨fun j hj => d j (by dsimp only at hj; split at hj <;> omega), e⟩
  · have := h k
    dsimp only at this ⊢
    rw [show (if k < k0 + 1 then i + 1 else i) = (if k < k0 then i + 1 else i) by split <;> split <;> omega]
    exact this
section
variable {K : PySem.W.Frag} {H : Hp} {Q : VK}
theorem memK_ik {x : Nat} {r : List Nat} : memK (ik x) (r.map ik) = decide (x ∈ r) := by
  rw [Bool.eq_iff_iff, memK_iff, decide_eq_true_iff, List.mem_map]
  constructor
  · rintro ⟨y, hy, e⟩
    have := Sum.inl.inj e
    rw [show x = y by omega]
    exact hy
  · exact fun h => ⟨x, h, rfl⟩
theorem inV_iv (x : Nat) (r : List Nat) : inV (iv x) (r.map iv) = decide (x ∈ r) := by
  rw [← iv_key, ← memK_ik]
  exact inV_key (ik x) (r.map ik)
theorem flat_iv (r : List Nat) : (r.map iv).all flatV = true := by
  rw [← iv_key]
  exact flat_keys _
theorem rd_inN {x : Nat} {a : Addr} {r : List Nat} (h : SqL K H a (r.map iv)) (q : Q (.bl (decide (x ∈ r))) H) : rIn K false (iv x) (.ref a) H Q := by
  refine rd_inL h rfl (flat_iv r) ?_
  rw [inV_iv]
  exact q
theorem rd_outN {x : Nat} {a : Addr} {r : List Nat} (h : SqL K H a (r.map iv)) (q : Q (.bl (!decide (x ∈ r))) H) : rIn K true (iv x) (.ref a) H Q := by
  refine rd_outL h rfl (flat_iv r) ?_
  rw [inV_iv]
  exact q
end
end Qg
/-! the order of lines; no program here -/
namespace Qg
/-- each line so far the least that can stand there -/
inductive Topo (nm : List (List Nat)) : List Nat → Prop
  | nil : Topo nm []
  | snoc {ord : List Nat} {x : Nat} : Topo nm ord → x ∉ ord → x < nm.length → (∀ y, y ∈ row nm x → y ∈ ord) → (∀ z, z < nm.length → z ∉ ord → (∀ y, y ∈ row nm z → y ∈ ord) → x ≤ z) → Topo nm (ord ++ [x])
theorem topo_uniq {nm : List (List Nat)} {a : List Nat} (ha : Topo nm a) : ∀ {b : List Nat}, Topo nm b → a.length = b.length → a = b := by
  induction ha with
  | nil =>
    intro b hb e
    exact (List.length_eq_zero_iff.mp e.symm).symm
  | @snoc ord x h h1 h2 h3 h4 ih =>
    intro b hb e
    cases hb with
    | nil => simp at e
    | @snoc ord' x' g g1 g2 g3 g4 =>
      have el : ord.length = ord'.length := by simpa using e
      have eo := ih g el
      subst eo
      rw [Nat.le_antisymm (h4 x' g2 g1 g3) (g4 x h2 h1 h3)]
theorem topo_nodup {nm : List (List Nat)} {a : List Nat} (h : Topo nm a) : a.Nodup ∧ ∀ x, x ∈ a → x < nm.length ∧ ∀ y, y ∈ row nm x → y ∈ a := by
  induction h with
  | nil => exact ⟨by simp, fun x h => by cases h⟩
  | @snoc ord x h h1 h2 h3 h4 ih =>
    refine ⟨?_, fun y hy => ?_⟩
    · rw [List.nodup_append]
      refine ⟨ih.1, by simp, fun u hu v hv => ?_⟩
      have e : v = x := by simpa using hv
      subst e
      rintro rfl
      exact h1 hu
    · rcases List.mem_append.mp hy with hy | hy
      · exact ⟨(ih.2 y hy).1, fun z hz => List.mem_append.mpr (.inl ((ih.2 y hy).2 z hz))⟩
      · have e : y = x := by simpa using hy
        subst e
        exact ⟨h2, fun z hz => List.mem_append.mpr (.inl (h3 z hz))⟩
theorem topo_len {nm : List (List Nat)} {a : List Nat} (h : Topo nm a) : a.length ≤ nm.length := nodup_lt (topo_nodup h).1 fun x hx => ((topo_nodup h).2 x hx).1
/-- no line names itself, through others or not -/
def Acyc (nm : List (List Nat)) : Prop := ∃ rank : Nat → Nat, ∀ x y, y ∈ row nm x → rank y < rank x
theorem acyc_none {nm : List (List Nat)} (h : Acyc nm) (f : Nat) (w : List Nat) : ¬ Ring nm f w := by
  obtain ⟨rank, hr⟩ := h
  rintro ⟨x, hw, hf⟩
  have : ∀ {w : List Nat} {x : Nat}, Walk nm f w x → rank x ≤ rank f := by
    intro w x hw
    induction hw with
    | one => exact Nat.le_refl _
    | snoc _ hy ih =>
      have := hr _ _ hy
      omega
  have h1 := this hw
  have h2 := hr _ _ hf
  omega
theorem acyc_best {nm : List (List Nat)} (h : Acyc nm) : ∀ {i : Nat} {r : List Nat}, Best nm i r → r = []
  | 0, _, .zero => rfl
  | i + 1, _, .succ (acc := acc) (r := r) hb hr => by
    have e := acyc_best h hb
    have e2 : r = [] := by
      rcases hr with ⟨rfl, _⟩ | ⟨hr, _⟩
      · rfl
      · exact (acyc_none h _ _ hr).elim
    subst e
    subst e2
    rfl
theorem acyc_self {nm : List (List Nat)} (h : Acyc nm) (x : Nat) : x ∉ row nm x := fun hx => by
  obtain ⟨rank, hr⟩ := h
  exact Nat.lt_irrefl _ (hr x x hx)
/-- some line can stand next -/
theorem acyc_next {nm : List (List Nat)} (h : Acyc nm) (hl : ∀ x y, y ∈ row nm x → y < nm.length) (ord : List Nat) (hn : ∃ x, x < nm.length ∧ x ∉ ord) : ∃ x, x < nm.length ∧ x ∉ ord ∧ ∀ y, y ∈ row nm x → y ∈ ord := by
  obtain ⟨rank, hr⟩ := h
  obtain ⟨x0, h0⟩ := hn
  obtain ⟨r, ⟨x, hx, hx', rfl⟩, hm⟩ := least_nat (P := fun r => ∃ x, x < nm.length ∧ x ∉ ord ∧ rank x = r) ⟨x0, h0.1, h0.2, rfl⟩
  refine ⟨x, hx, hx', fun y hy => ?_⟩
  by_cases e : y ∈ ord
  · exact e
  · have h1 := hm (rank y) ⟨y, hl x y hy, e, rfl⟩
    have h2 := hr x y hy
    omega
theorem missing {n : Nat} {ord : List Nat} (hd : ord.Nodup) (hl : ∀ x, x ∈ ord → x < n) (h : ord.length < n) : ∃ x, x < n ∧ x ∉ ord := by
  by_cases e : ∃ x, x < n ∧ x ∉ ord
  · exact e
  · exfalso
    have all : ∀ x, x < n → x ∈ ord := fun x hx => by
      by_cases hm : x ∈ ord
      · exact hm
      · exact (e ⟨x, hx, hm⟩).elim
    have hp : (List.range n).length ≤ ord.length := by
      have sub : ∀ {l m : List Nat}, l.Nodup → (∀ x, x ∈ l → x ∈ m) → l.length ≤ m.length := by
        intro l
        induction l with
        | nil => intro m _ _; exact Nat.zero_le _
        | cons a l ih =>
          intro m hd h
          obtain ⟨s, t, rfl⟩ := List.append_of_mem (h a List.mem_cons_self)
          have hd' := List.nodup_cons.mp hd
          have := ih (m := s ++ t) hd'.2 fun x hx => by
            rcases List.mem_append.mp (h x (List.mem_cons_of_mem _ hx)) with z | z
            · exact List.mem_append.mpr (.inl z)
            · rcases List.mem_cons.mp z with rfl | z
              · exact (hd'.1 hx).elim
              · exact List.mem_append.mpr (.inr z)
          rw [List.length_append] at this ⊢
          show l.length + 1 ≤ s.length + (t.length + 1)
          omega
      exact sub List.nodup_range fun x hx => all x (List.mem_range.mp hx)
    rw [List.length_range] at hp
    omega
/-! how many of a line's lines are still to come -/
def nyet (nm : List (List Nat)) (ord : List Nat) (z : Nat) : Nat := ((row nm z).filter fun y => decide (y ∉ ord)).length
theorem nyet_zero {nm : List (List Nat)} {ord : List Nat} {z : Nat} : nyet nm ord z = 0 ↔ ∀ y, y ∈ row nm z → y ∈ ord := by
  unfold nyet
  rw [List.length_eq_zero_iff, List.filter_eq_nil_iff]
  constructor
  · intro h y hy
    have := h y hy
    by_cases e : y ∈ ord
    · exact e
    · exact (this (decide_eq_true e)).elim
  · intro h y hy z
    exact (of_decide_eq_true z) (h y hy)
theorem filt_less {l : List Nat} {ord : List Nat} {x : Nat} (hd : l.Nodup) (hx : x ∉ ord) : (l.filter fun y => decide (y ∉ ord)).length = (l.filter fun y => decide (y ∉ ord ++ [x])).length + if x ∈ l then 1 else 0 := by
  induction l with
  | nil => rfl
  | cons a l ih =>
    have hd' := List.nodup_cons.mp hd
    have ih := ih hd'.2
    by_cases ea : a = x
    · subst ea
      rw [List.filter_cons_of_pos (by simpa using hx), List.filter_cons_of_neg (by simp), List.length_cons, ih, if_pos List.mem_cons_self, if_neg hd'.1]
    · have em : (x ∈ a :: l) ↔ x ∈ l := ⟨fun h => (List.mem_cons.mp h).resolve_left (Ne.symm ea), List.mem_cons_of_mem _⟩
      have e2 : (if x ∈ a :: l then 1 else 0) = if x ∈ l then 1 else 0 := by simp only [em]
      rw [e2]
      by_cases eo : a ∈ ord
      · rw [List.filter_cons_of_neg (by simpa using eo), List.filter_cons_of_neg (by simp [eo]), ih]
      · rw [List.filter_cons_of_pos (by simpa using eo), List.filter_cons_of_pos (by simp [eo, ea]), List.length_cons, List.length_cons, ih]
        omega
theorem nyet_less {nm : List (List Nat)} {ord : List Nat} {x z : Nat} (hd : (row nm z).Nodup) (hx : x ∉ ord) : nyet nm ord z = nyet nm (ord ++ [x]) z + if x ∈ row nm z then 1 else 0 := filt_less hd hx
theorem nyet_nil {nm : List (List Nat)} {z : Nat} : nyet nm [] z = (row nm z).length := by
  unfold nyet
  rw [List.filter_eq_self.mpr (fun y _ => by simp)]
end Qg
namespace Qe
open PySem PySem.Spec PyProof.Rows L2 Qa
/-! ### defs that may raise -/
def CalX (P : Program) (w : World) (K : PySem.W.Frag) (mg : Str → Option Value) (base : Heap) (x : Str) (k : Nat) (ps : List Str) (sp : Sp) : Prop :=
  ∃ f fd, FnOk P w K mg base (L2.CX P w) k f fd ps sp ∧ mg x = some (.ref f) ∧ PySem.W.keepIn K (.ref f) = true ∧ Binds K fd ps []
theorem pe_calX {X : Cx} {W : WX} {x : Str} {k : Nat} {ps : List Str} {sp : Sp} {e : Expr} {es : List Expr} {t : TA} {p pos : Pos} (c : CalX X.prog X.w X.K X.mg X.base x k ps sp) (hr : Room k X.A) (tk : Takes X W) (ha : PA X (e :: es) t) (hg : Gl X x := by rfl)
    (hdb : (x == ("__debug__" : Str)) = false := by decide) (he : starEach (e :: es) X.env = (false, eval e X.env) :: starEach es X.env := by rfl) (hpl : (backTo pos (starEach es X.env)).any (·.1) = false := by rfl) :
    PE X (.Call (.Name x p) (e :: es) [] pos) (tCallS sp (WE W) t) := by
  obtain ⟨f, fd, F, hm, hk, hb⟩ := c
  exact pe_callS F hr hg hm hk hb (fun σ => passAt tk σ) ha hdb he hpl
theorem CalX.mono {P : Program} {w : World} {K : PySem.W.Frag} {mg : Str → Option Value} {base : Heap} {x : Str} {ps : List Str} {k j : Nat} {sp : Sp} (c : CalX P w K mg base x k ps sp) (h : k ≤ j) : CalX P w K mg base x j ps sp := by
  obtain ⟨f, fd, F, r⟩ := c
  exact ⟨f, fd, F.mono h, r⟩
theorem rd_calX {sp : Sp} {E : L2.St → XK} {t : TA} {σ : L2.St} {H : Hp} {Q : VK} (q : t σ H fun vs H1 => sp vs H1 Q (E σ)) : tCallS sp E t σ H Q := q
def spX1 (f : V → Hp → VK → XK → Prop) : Sp := fun vs H Q E => ∃ a, vs = [a] ∧ f a H Q E
def spX2 (f : V → V → Hp → VK → XK → Prop) : Sp := fun vs H Q E => ∃ a b, vs = [a, b] ∧ f a b H Q E
def spX3 (f : V → V → V → Hp → VK → XK → Prop) : Sp := fun vs H Q E => ∃ a b c, vs = [a, b, c] ∧ f a b c H Q E
def spX4 (f : V → V → V → V → Hp → VK → XK → Prop) : Sp := fun vs H Q E => ∃ a b c d, vs = [a, b, c, d] ∧ f a b c d H Q E
def spX5 (f : V → V → V → V → V → Hp → VK → XK → Prop) : Sp := fun vs H Q E => ∃ a b c d e, vs = [a, b, c, d, e] ∧ f a b c d e H Q E
theorem rd_spX1 {f : V → Hp → VK → XK → Prop} {a : V} {H : Hp} {Q : VK} {E : XK} (h : f a H Q E) : spX1 f [a] H Q E := ⟨a, rfl, h⟩
theorem rd_spX2 {f : V → V → Hp → VK → XK → Prop} {a b : V} {H : Hp} {Q : VK} {E : XK} (h : f a b H Q E) : spX2 f [a, b] H Q E := ⟨a, b, rfl, h⟩
theorem rd_spX3 {f : V → V → V → Hp → VK → XK → Prop} {a b c : V} {H : Hp} {Q : VK} {E : XK} (h : f a b c H Q E) : spX3 f [a, b, c] H Q E := ⟨a, b, c, rfl, h⟩
theorem rd_spX4 {f : V → V → V → V → Hp → VK → XK → Prop} {a b c d : V} {H : Hp} {Q : VK} {E : XK} (h : f a b c d H Q E) : spX4 f [a, b, c, d] H Q E := ⟨a, b, c, d, rfl, h⟩
theorem rd_spX5 {f : V → V → V → V → V → Hp → VK → XK → Prop} {a b c d e : V} {H : Hp} {Q : VK} {E : XK} (h : f a b c d e H Q E) : spX5 f [a, b, c, d, e] H Q E := ⟨a, b, c, d, e, rfl, h⟩
section
variable {P : Program} {w : World} {K : PySem.W.Frag} {mg : Str → Option Value} {base : Heap} {x : Str} {st : Stmt} {N ps : List Str} {k : Nat}
theorem calX_mk {sp : Sp} (F : FunAt K mg x st) (S : FnScope N ps (defScope st)) (hb : BindOk x st ps) (len : ∀ vs H Q E, sp vs H Q E → vs.length = ps.length)
    (hbody : ∀ (f : Addr) (cdv : Value) (A : Around) (outer : List Env) (s : Shared) (H : Hp) (vs : List V) (Q : VK) (E : XK), Room k (A.deeper (envOfC x (defScope st) s.heap.objs.size f cdv)) → sp vs H Q E →
      ∃ t, PSs (cxOf (L2.CX P w) P w K mg base N x (defScope st) f cdv A outer s H E) (defBody st) t ∧ t { nx := fun _ H' => Q .non H', rt := Q } (start N vs) H) : CalX P w K mg base x (k + 1) ps sp := by
  obtain ⟨f, fd, F, hm⟩ := F
  exact ⟨f, fd, F.okX S len (hbody f), hm, F.kp, F.binds hb⟩
theorem calX1 {f : V → Hp → VK → XK → Prop} (F : FunAt K mg x st) (S : FnScope N ps (defScope st)) (hb : BindOk x st ps) (hn : ps.length = 1)
    (hbody : ∀ (g : Addr) (cdv : Value) (A : Around) (outer : List Env) (s : Shared) (H : Hp) (a : V) (Q : VK) (E : XK), Room k (A.deeper (envOfC x (defScope st) s.heap.objs.size g cdv)) → f a H Q E →
      ∃ t, PSs (cxOf (L2.CX P w) P w K mg base N x (defScope st) g cdv A outer s H E) (defBody st) t ∧ t { nx := fun _ H' => Q .non H', rt := Q } (start N [a]) H) : CalX P w K mg base x (k + 1) ps (spX1 f) :=
  calX_mk F S hb (fun vs H Q E h => by obtain ⟨a, rfl, _⟩ := h; exact hn.symm) fun g cdv A outer s H vs Q E hr h => by obtain ⟨a, rfl, h⟩ := h; exact hbody g cdv A outer s H a Q E hr h
theorem calX2 {f : V → V → Hp → VK → XK → Prop} (F : FunAt K mg x st) (S : FnScope N ps (defScope st)) (hb : BindOk x st ps) (hn : ps.length = 2)
    (hbody : ∀ (g : Addr) (cdv : Value) (A : Around) (outer : List Env) (s : Shared) (H : Hp) (a b : V) (Q : VK) (E : XK), Room k (A.deeper (envOfC x (defScope st) s.heap.objs.size g cdv)) → f a b H Q E →
      ∃ t, PSs (cxOf (L2.CX P w) P w K mg base N x (defScope st) g cdv A outer s H E) (defBody st) t ∧ t { nx := fun _ H' => Q .non H', rt := Q } (start N [a, b]) H) : CalX P w K mg base x (k + 1) ps (spX2 f) :=
  calX_mk F S hb (fun vs H Q E h => by obtain ⟨a, b, rfl, _⟩ := h; exact hn.symm) fun g cdv A outer s H vs Q E hr h => by obtain ⟨a, b, rfl, h⟩ := h; exact hbody g cdv A outer s H a b Q E hr h
theorem calX3 {f : V → V → V → Hp → VK → XK → Prop} (F : FunAt K mg x st) (S : FnScope N ps (defScope st)) (hb : BindOk x st ps) (hn : ps.length = 3)
    (hbody : ∀ (g : Addr) (cdv : Value) (A : Around) (outer : List Env) (s : Shared) (H : Hp) (a b c : V) (Q : VK) (E : XK), Room k (A.deeper (envOfC x (defScope st) s.heap.objs.size g cdv)) → f a b c H Q E →
      ∃ t, PSs (cxOf (L2.CX P w) P w K mg base N x (defScope st) g cdv A outer s H E) (defBody st) t ∧ t { nx := fun _ H' => Q .non H', rt := Q } (start N [a, b, c]) H) : CalX P w K mg base x (k + 1) ps (spX3 f) :=
  calX_mk F S hb (fun vs H Q E h => by obtain ⟨a, b, c, rfl, _⟩ := h; exact hn.symm) fun g cdv A outer s H vs Q E hr h => by obtain ⟨a, b, c, rfl, h⟩ := h; exact hbody g cdv A outer s H a b c Q E hr h
theorem calX4 {f : V → V → V → V → Hp → VK → XK → Prop} (F : FunAt K mg x st) (S : FnScope N ps (defScope st)) (hb : BindOk x st ps) (hn : ps.length = 4)
    (hbody : ∀ (g : Addr) (cdv : Value) (A : Around) (outer : List Env) (s : Shared) (H : Hp) (a b c d : V) (Q : VK) (E : XK), Room k (A.deeper (envOfC x (defScope st) s.heap.objs.size g cdv)) → f a b c d H Q E →
      ∃ t, PSs (cxOf (L2.CX P w) P w K mg base N x (defScope st) g cdv A outer s H E) (defBody st) t ∧ t { nx := fun _ H' => Q .non H', rt := Q } (start N [a, b, c, d]) H) : CalX P w K mg base x (k + 1) ps (spX4 f) :=
  calX_mk F S hb (fun vs H Q E h => by obtain ⟨a, b, c, d, rfl, _⟩ := h; exact hn.symm) fun g cdv A outer s H vs Q E hr h => by obtain ⟨a, b, c, d, rfl, h⟩ := h; exact hbody g cdv A outer s H a b c d Q E hr h
theorem calX5 {f : V → V → V → V → V → Hp → VK → XK → Prop} (F : FunAt K mg x st) (S : FnScope N ps (defScope st)) (hb : BindOk x st ps) (hn : ps.length = 5)
    (hbody : ∀ (g : Addr) (cdv : Value) (A : Around) (outer : List Env) (s : Shared) (H : Hp) (a b c d e : V) (Q : VK) (E : XK), Room k (A.deeper (envOfC x (defScope st) s.heap.objs.size g cdv)) → f a b c d e H Q E →
      ∃ t, PSs (cxOf (L2.CX P w) P w K mg base N x (defScope st) g cdv A outer s H E) (defBody st) t ∧ t { nx := fun _ H' => Q .non H', rt := Q } (start N [a, b, c, d, e]) H) : CalX P w K mg base x (k + 1) ps (spX5 f) :=
  calX_mk F S hb (fun vs H Q E h => by obtain ⟨a, b, c, d, e, rfl, _⟩ := h; exact hn.symm) fun g cdv A outer s H vs Q E hr h => by obtain ⟨a, b, c, d, e, rfl, h⟩ := h; exact hbody g cdv A outer s H a b c d e Q E hr h
end
/-! ### the program's own errors -/
/-- where the class of this name stands -/
def clsA (mg : Str → Option Value) (x : Str) : Addr := match mg x with | some (.ref a) => a | _ => 0
theorem clsA_of {mg : Str → Option Value} {x : Str} {a : Addr} (h : mg x = some (.ref a)) : clsA mg x = a := by unfold clsA; rw [h]
structure ErrC (K : PySem.W.Frag) (mg : Str → Option Value) (x : Str) : Prop where
  gC : mg x = some (.ref (clsA mg x))
  xC : PySem.W.excIn K (clsA mg x) [.type "ValueError", .type "Exception", .type "BaseException", .type "object"] "ValueError.__new__" = true
  kC : PySem.W.keepIn K (.ref (clsA mg x)) = true
  bC : PySem.W.subIn K (.ref (clsA mg x)) (.type "BaseException") = some true
  tC : PySem.W.typeIn K (.ref (clsA mg x)) = some (.type "type")
  dC : PySem.W.hasDictIn K (clsA mg x) = true
theorem errC_mk {K : PySem.W.Frag} {mg : Str → Option Value} {x : Str} {C : Addr} (g : mg x = some (.ref C)) (q : PySem.W.excIn K C [.type "ValueError", .type "Exception", .type "BaseException", .type "object"] "ValueError.__new__" = true)
    (k : PySem.W.keepIn K (.ref C) = true) (b : PySem.W.subIn K (.ref C) (.type "BaseException") = some true) (t : PySem.W.typeIn K (.ref C) = some (.type "type")) (d : PySem.W.hasDictIn K C = true) : ErrC K mg x := by
  have e := clsA_of g
  refine ⟨?_, ?_, ?_, ?_, ?_, ?_⟩ <;> rw [e] <;> assumption
def tRaiseC (W : WX) (C : Addr) : TS := fun _ σ H => W (.ref C) none σ H
theorem ps_raiseC {X : Cx} {W : WX} {x m : Str} {j : Nat} {p p2 pos pos2 : Pos} (hc : X.calm = true) (tk : Takes X W) (T : ErrC X.K X.mg x) (hg : Gl X x := by rfl) (hdb : (x == ("__debug__" : Str)) = false := by decide) :
    PS X (.Raise (some (.Call (.Name x p) [.Constant (.str m) j p2] [] pos)) none pos2) (tRaiseC W (clsA X.mg x)) :=
  ps_raise hc tk (pmk_own PySem.F.excBase_ValueError T.xC T.gC T.kC (raises_own T.bC T.tC) hg hdb)
theorem rd_raiseC {W : WX} {C : Addr} {D : Ends} {σ : L2.St} {H : Hp} (q : W (.ref C) none σ H) : tRaiseC W C D σ H := q
/-- does the clause of the one take an error of the other -/
def Catch (K : PySem.W.Frag) (mg : Str → Option Value) (x y : Str) (b : Bool) : Prop := PySem.W.exmOne K (.ref (clsA mg x)) (.ref (clsA mg y)) = some b
theorem catch_mk {K : PySem.W.Frag} {mg : Str → Option Value} {x y : Str} {C D : Addr} {b : Bool} (gx : mg x = some (.ref C)) (gy : mg y = some (.ref D)) (E : ErrC K mg y) (s : PySem.W.subIn K (.ref C) (.ref D) = some b) : Catch K mg x y b := by
  refine PySem.W.exm_ref E.bC E.dC E.tC ?_
  rw [clsA_of gx, clsA_of gy]
  exact s
/-! ### an error handed to another def, from the suite that holds it -/
section
variable {P : Program} {w : World} {K : PySem.W.Frag} {mg : Str → Option Value} {base : Heap} {x : Str} {st : Stmt} {N ps : List Str} {k : Nat} {Y : Value → Option Addr → Prop} {sp : Addr → Sp}
/-- as FnOk, where an exception is handled: p holds it, and Y is known of its class and its dict -/
structure FnE (Y : Value → Option Addr → Prop) (P : Program) (w : World) (K : PySem.W.Frag) (mg : Str → Option Value) (base : Heap) (k : Nat) (f : Addr) (fd : FuncData) (ps : List Str) (sp : Addr → Sp) : Prop where
  len : ∀ a vs H Q E, sp a vs H Q E → vs.length = ps.length
  run : ∀ (A : Around) (outer : List Env) (s : Shared) (H : Hp) (args : Args) (us : List Value) (vs : List V) (Q : VK) (E : XK) (p : Addr × Obj) (cls : Value) (d : Option Addr), L2H.RoomH k A → Zc cls d p.2 → (∃ fs, p.2.data = .fields fs) → Y cls d → L2H.PinOk outer H s p → Env0 P w K mg base A outer s H →
    BindsTo s fd args (ps.zip us) → Vals vs us → sp p.1 vs H Q E → codeAny (model P w) A (.call (.ref f) args) (CR CX0 outer P w H s Q E) s
def CalE (Y : Value → Option Addr → Prop) (P : Program) (w : World) (K : PySem.W.Frag) (mg : Str → Option Value) (base : Heap) (x : Str) (k : Nat) (ps : List Str) (sp : Addr → Sp) : Prop :=
  ∃ f fd, FnE Y P w K mg base k f fd ps sp ∧ mg x = some (.ref f) ∧ PySem.W.keepIn K (.ref f) = true ∧ Binds K fd ps []
theorem calE_mk (F : FunAt K mg x st) (S : FnScope N ps (defScope st)) (hb : BindOk x st ps) (len : ∀ a vs H Q E, sp a vs H Q E → vs.length = ps.length)
    (hbody : ∀ (f : Addr) (cdv : Value) (A : Around) (outer : List Env) (s : Shared) (H : Hp) (vs : List V) (Q : VK) (E : XK) (p : Addr × Obj) (cls : Value) (d : Option Addr), Zc cls d p.2 → (∃ fs, p.2.data = .fields fs) → Y cls d → L2H.RoomH k (A.deeper (envOfC x (defScope st) s.heap.objs.size f cdv)) → sp p.1 vs H Q E →
      ∃ t, PSs (L2H.cxH CX0 P w K mg base N x (defScope st) f cdv A outer s H E p).nox (defBody st) t ∧ t { nx := fun _ H' => Q .non H', rt := Q } (start N vs) H) : CalE Y P w K mg base x (k + 1) ps sp := by
  obtain ⟨f, fd, F, hm⟩ := F
  obtain ⟨oc, od, kV, doc, pm, an, cdv, ct, osl, efd, lk, hcd⟩ := F.ex
  refine ⟨f, fd, ⟨len, fun A outer s H args us vs Q E p cls d hr hz hf hy hpin e0 hbn r hsp => ?_⟩, hm, F.kp, F.binds hb⟩
  subst efd
  have hl := len _ _ _ _ _ hsp
  have inH : K.In s.heap := e0.mod.kin.keeps fun b o e => (e0.bs b o e).1
  have names : ∀ y ∈ ps.zip us, (defScope st).names.lookup y.1 = some .local ∨ ((defScope st).names.lookup y.1 = some .cell ∧ ((cellsFrom (s.heap.objs.size + 1) (defScope st).names []).lookup y.1).isSome = true) := by
    rintro ⟨n, v⟩ hy
    exact (S.par n (List.of_mem_zip hy).1).imp id fun q => ⟨q, PySem.W.cellsFrom_some _ _ _ (.inl q)⟩
  refine codeAny_call_function hr.depth (inH _ _ lk) rfl S.co S.gen rfl (PySem.W.codeRec_of inH hcd) (hbn _ _ _ _ ?_)
  refine wpAny_newFunctionEnv_cells S.kind names fun env he s1 c => ?_
  subst he
  refine ⟨(e0.mod.nolimit.keeps fun b o e => (e0.bs b o e).1).keeps c.toInCall.keep, codeAny_func ?_⟩
  obtain ⟨t, ht, hq⟩ := hbody f cdv A outer s H vs Q E p cls d hz hf hy (hr.deeper _) hsp
  refine wpAny_mono (ht.nox.run [] s1 (start N vs) H _ (L2H.inv_startH S hpin e0 hl r c) hq) (fun fl s' hs => ?_) fun e s' hs => hs
  cases fl with
  | ret u =>
    obtain ⟨v, σ', H', J, rv, q⟩ := hs
    exact ⟨v, H', J.os, J.bare, J.base, J.hok, rv, q⟩
  | next =>
    obtain ⟨σ', H', J, q⟩ := hs
    exact ⟨V.non, H', J.os, J.bare, J.base, J.hok, rfl, q⟩
  | brk => exact hs.elim fun _ ⟨_, _, q⟩ => q.elim
  | cont => exact hs.elim fun _ ⟨_, _, q⟩ => q.elim
end
section
variable {X : Cx} {Y : Value → Option Addr → Prop} {sp : Addr → Sp} {x : Str} {k : Nat} {ps : List Str} {e : Expr} {es : List Expr} {t : TA} {pos q : Pos} {p : Addr × Obj} {a : Addr} {oe : Obj} {cls : Value} {d : Option Addr}
def tCalE (Y : Value → Option Addr → Prop) (cls : Value) (d : Option Addr) (sp : Sp) (t : TA) : TE := fun σ H Q => t σ H fun vs H1 => Y cls d ∧ sp vs H1 Q E0
theorem rd_calE {sp : Sp} {t : TA} {σ : L2.St} {H : Hp} {Q : VK} (q : t σ H fun vs H1 => Y cls d ∧ sp vs H1 Q E0) : tCalE Y cls d sp t σ H Q := q
theorem pe_calE (c : CalE Y X.prog X.w X.K X.mg X.base x k ps sp) (hr : L2H.RoomH k X.A) (hp : (a, oe) ∈ X.pn) (hz : Zc cls d oe) (hf : ∃ fs, oe.data = .fields fs) (ha : PA X (e :: es) t) (hg : Gl X x := by rfl)
    (hdb : (x == ("__debug__" : Str)) = false := by decide) (he : starEach (e :: es) X.env = (false, eval e X.env) :: starEach es X.env := by rfl) (hpl : (backTo pos (starEach es X.env)).any (·.1) = false := by rfl) :
    PE X (.Call (.Name x q) (e :: es) [] pos) (tCalE Y cls d (sp a) t) := by
  obtain ⟨f, fd, F, hm, hk, hb⟩ := c
  refine ⟨fun pins s σ H Q I h => ?_⟩
  refine wpAny_Call_Name_kw (ld_glob I hg hm ?_ hdb)
  refine PySem.W.callWith_K (h₀ := X.base) I.ok.mod.kin hk (thn (ha.run pos pins s σ H _ I h) fun us s1 ⟨vs, H1, I1, r, hy, z⟩ => ⟨I1.kIn, ?_⟩) he hpl
  have hl : us.length = ps.length := by rw [← r.length]; exact F.len _ _ _ _ _ z
  have b := hb s1 us I1.kIn (by rw [List.append_nil]; exact hl)
  rw [List.append_nil] at b
  obtain ⟨p1, p2, p3, p4, p5⟩ := I1.pin (a, oe) (List.mem_append_left _ hp)
  refine wpAny_call (codeAny_mono (F.run X.A X.stack s1 H1 ⟨us, []⟩ us vs Q E0 (a, oe) cls d hr hz hf hy ⟨p1, p2, fun hm => (List.mem_cons.mp (I1.stkSub a hm)).elim p3 p4, p5⟩ I1.env0 b r z) fun r s' hq => ?_)
  match r, hq with
  | .error e, hq => exact (pass0 (X := X)) pins σ H1 s1 e s' I1 hq
  | .ok (.ret u), hq => exact I1.after hq
  | .ok .next, hq => exact False.elim hq
  | .ok .brk, hq => exact False.elim hq
  | .ok .cont, hq => exact False.elim hq
/-- isinstance of the exception that p holds -/
theorem call_isP {D : Addr} (C : ExcC X.K D) (hp : p ∈ X.pn) (hz : Zc (.ref D) none p.2) (hf : ∃ vs, p.2.data = .fields vs) : CallR X (.builtin "isinstance") (rIsE X.K D p.1) := by
  intro pins s σ H xs us Q I r h
  obtain ⟨c, cv, b, rfl, hcv, e, q⟩ := h
  cases r with
  | cons rx rr =>
    cases rr with
    | cons rt rr =>
      cases rr
      cases rx
      have ec := hcv _ rt
      subst ec
      obtain ⟨hget, _⟩ := I.pin p (List.mem_append.mpr (.inl hp))
      have J : PySem.W.InstAt s.heap p.1 p.2 D none := by
        obtain ⟨a, oc, od, oda, osl⟩ := p
        obtain ⟨vs, hv⟩ := hf
        obtain ⟨h1, h2⟩ := hz
        dsimp only at h1 h2 hv hget
        subst h1 h2 hv
        exact ⟨hget, rfl, rfl, trivial⟩
      exact PySem.W.kia_one (PySem.W.handS_kitx_exc C.hg C.hk C.hs C.hd C.ha C.hn C.ht C.hm) I.kIn J e (fun z => nomatch z) fun tk => ⟨.bl b, H, I.kept (t' := tk) fun _ _ z => z, rfl, q⟩
end
theorem excC_at {K : PySem.W.Frag} {mg : Str → Option Value} {x : Str} {C : Addr} (g : mg x = some (.ref C)) (h : ExcC K C) : ExcC K (clsA mg x) := by rw [clsA_of g]; exact h
theorem kit_at1 {K : PySem.W.Frag} {mg : Str → Option Value} {x : Str} {C : Addr} {v : Value} {b : Bool} (g : mg x = some (.ref C)) (h : PySem.W.kitOne K (.ref C) v = some b) : PySem.W.kitOne K (.ref (clsA mg x)) v = some b := by rw [clsA_of g]; exact h
theorem kit_at2 {K : PySem.W.Frag} {mg : Str → Option Value} {x y : Str} {C D : Addr} {b : Bool} (g : mg x = some (.ref C)) (g2 : mg y = some (.ref D)) (h : PySem.W.kitOne K (.ref C) (.ref D) = some b) : PySem.W.kitOne K (.ref (clsA mg x)) (.ref (clsA mg y)) = some b := by rw [clsA_of g, clsA_of g2]; exact h
theorem roomH {k : Nat} {A : Around} {v : Option Value} (r : Room k A) : L2H.RoomH k (A.mark v) := ⟨r.dp, r.un⟩
end Qe
open PySem PySem.Spec PyProof.Rows L2 Qa Qr
namespace KF
def topS (i : Nat) : Stmt := PySem.Challenge.pw_formlines_k03_forms_made.main.body.getD i (.Pass ⟨0, 0, 0, 0⟩)
abbrev sis_whole : Stmt := topS 14
abbrev nis_whole : List Str := ["thing"]
abbrev pis_whole : List Str := ["thing"]
theorem scis_whole : FnScope nis_whole pis_whole (defScope sis_whole) := ⟨rfl, rfl, rfl, by decide +kernel, rfl, by decide +kernel, by decide +kernel⟩
theorem bis_whole : BindOk "is_whole" sis_whole pis_whole := fun _ _ _ _ _ _ us hl => match us, hl with | [_], _ => rfl
theorem tis_whole {v0 : V} : start nis_whole [v0] = [some v0] := rfl

abbrev sis_within : Stmt := topS 15
abbrev nis_within : List Str := ["thing", "low", "high"]
abbrev pis_within : List Str := ["thing", "low", "high"]
theorem scis_within : FnScope nis_within pis_within (defScope sis_within) := ⟨rfl, rfl, rfl, by decide +kernel, rfl, by decide +kernel, by decide +kernel⟩
theorem bis_within : BindOk "is_within" sis_within pis_within := fun _ _ _ _ _ _ us hl => match us, hl with | [_, _, _], _ => rfl
theorem tis_within {v0 v1 v2 : V} : start nis_within [v0, v1, v2] = [some v0, some v1, some v2] := rfl

abbrev sis_number : Stmt := topS 16
abbrev nis_number : List Str := ["thing"]
abbrev pis_number : List Str := ["thing"]
theorem scis_number : FnScope nis_number pis_number (defScope sis_number) := ⟨rfl, rfl, rfl, by decide +kernel, rfl, by decide +kernel, by decide +kernel⟩
theorem bis_number : BindOk "is_number" sis_number pis_number := fun _ _ _ _ _ _ us hl => match us, hl with | [_], _ => rfl
theorem tis_number {v0 : V} : start nis_number [v0] = [some v0] := rfl

abbrev sis_percent : Stmt := topS 17
abbrev nis_percent : List Str := ["thing"]
abbrev pis_percent : List Str := ["thing"]
theorem scis_percent : FnScope nis_percent pis_percent (defScope sis_percent) := ⟨rfl, rfl, rfl, by decide +kernel, rfl, by decide +kernel, by decide +kernel⟩
theorem bis_percent : BindOk "is_percent" sis_percent pis_percent := fun _ _ _ _ _ _ us hl => match us, hl with | [_], _ => rfl
theorem tis_percent {v0 : V} : start nis_percent [v0] = [some v0] := rfl

abbrev sis_place : Stmt := topS 18
abbrev nis_place : List Str := ["thing", "count"]
abbrev pis_place : List Str := ["thing", "count"]
theorem scis_place : FnScope nis_place pis_place (defScope sis_place) := ⟨rfl, rfl, rfl, by decide +kernel, rfl, by decide +kernel, by decide +kernel⟩
theorem bis_place : BindOk "is_place" sis_place pis_place := fun _ _ _ _ _ _ us hl => match us, hl with | [_, _], _ => rfl
theorem tis_place {v0 v1 : V} : start nis_place [v0, v1] = [some v0, some v1] := rfl

abbrev sis_rule : Stmt := topS 24
abbrev nis_rule : List Str := ["thing", "lines", "tables", "choices", "counts"]
abbrev pis_rule : List Str := ["thing", "lines", "tables", "choices"]
theorem scis_rule : FnScope nis_rule pis_rule (defScope sis_rule) := ⟨rfl, rfl, rfl, by decide +kernel, rfl, by decide +kernel, by decide +kernel⟩
theorem bis_rule : BindOk "is_rule" sis_rule pis_rule := fun _ _ _ _ _ _ us hl => match us, hl with | [_, _, _, _], _ => rfl
theorem tis_rule {v0 v1 v2 v3 : V} : start nis_rule [v0, v1, v2, v3] = [some v0, some v1, some v2, some v3, none] := rfl

abbrev sis_word : Stmt := topS 25
abbrev nis_word : List Str := ["thing", "sign"]
abbrev pis_word : List Str := ["thing"]
theorem scis_word : FnScope nis_word pis_word (defScope sis_word) := ⟨rfl, rfl, rfl, by decide +kernel, rfl, by decide +kernel, by decide +kernel⟩
theorem bis_word : BindOk "is_word" sis_word pis_word := fun _ _ _ _ _ _ us hl => match us, hl with | [_], _ => rfl
theorem tis_word {v0 : V} : start nis_word [v0] = [some v0, none] := rfl

abbrev snamed : Stmt := topS 26
abbrev nnamed : List Str := ["rule", "word"]
abbrev pnamed : List Str := ["rule", "word"]
theorem scnamed : FnScope nnamed pnamed (defScope snamed) := ⟨rfl, rfl, rfl, by decide +kernel, rfl, by decide +kernel, by decide +kernel⟩
theorem bnamed : BindOk "named" snamed pnamed := fun _ _ _ _ _ _ us hl => match us, hl with | [_, _], _ => rfl
theorem tnamed {v0 v1 : V} : start nnamed [v0, v1] = [some v0, some v1] := rfl

abbrev s_is_rule_within : Stmt := topS 27
abbrev n_is_rule_within : List Str := ["thing", "counts", "levels", "part", "kind"]
abbrev p_is_rule_within : List Str := ["thing", "counts", "levels"]
theorem sc_is_rule_within : FnScope n_is_rule_within p_is_rule_within (defScope s_is_rule_within) := ⟨rfl, rfl, rfl, by decide +kernel, rfl, by decide +kernel, by decide +kernel⟩
theorem b_is_rule_within : BindOk "_is_rule_within" s_is_rule_within p_is_rule_within := fun _ _ _ _ _ _ us hl => match us, hl with | [_, _, _], _ => rfl
theorem t_is_rule_within {v0 v1 v2 : V} : start n_is_rule_within [v0, v1, v2] = [some v0, some v1, some v2, none, none] := rfl

abbrev s_has_form : Stmt := topS 28
abbrev n_has_form : List Str := ["thing", "word"]
abbrev p_has_form : List Str := ["thing"]
theorem sc_has_form : FnScope n_has_form p_has_form (defScope s_has_form) := ⟨rfl, rfl, rfl, by decide +kernel, rfl, by decide +kernel, by decide +kernel⟩
theorem b_has_form : BindOk "_has_form" s_has_form p_has_form := fun _ _ _ _ _ _ us hl => match us, hl with | [_], _ => rfl
theorem t_has_form {v0 : V} : start n_has_form [v0] = [some v0, none] := rfl

abbrev s_is_part : Stmt := topS 29
abbrev n_is_part : List Str := ["part", "kind", "counts", "levels"]
abbrev p_is_part : List Str := ["part", "kind", "counts", "levels"]
theorem sc_is_part : FnScope n_is_part p_is_part (defScope s_is_part) := ⟨rfl, rfl, rfl, by decide +kernel, rfl, by decide +kernel, by decide +kernel⟩
theorem b_is_part : BindOk "_is_part" s_is_part p_is_part := fun _ _ _ _ _ _ us hl => match us, hl with | [_, _, _, _], _ => rfl
theorem t_is_part {v0 v1 v2 v3 : V} : start n_is_part [v0, v1, v2, v3] = [some v0, some v1, some v2, some v3] := rfl

abbrev s_behind : Stmt := topS 30
abbrev n_behind : List Str := ["rule", "word", "found", "part", "kind"]
abbrev p_behind : List Str := ["rule", "word"]
theorem sc_behind : FnScope n_behind p_behind (defScope s_behind) := ⟨rfl, rfl, rfl, by decide +kernel, rfl, by decide +kernel, by decide +kernel⟩
theorem b_behind : BindOk "_behind" s_behind p_behind := fun _ _ _ _ _ _ us hl => match us, hl with | [_, _], _ => rfl
theorem t_behind {v0 v1 : V} : start n_behind [v0, v1] = [some v0, some v1, none, none, none] := rfl

abbrev sis_table : Stmt := topS 34
abbrev nis_table : List Str := ["thing", "row"]
abbrev pis_table : List Str := ["thing"]
theorem scis_table : FnScope nis_table pis_table (defScope sis_table) := ⟨rfl, rfl, rfl, by decide +kernel, rfl, by decide +kernel, by decide +kernel⟩
theorem bis_table : BindOk "is_table" sis_table pis_table := fun _ _ _ _ _ _ us hl => match us, hl with | [_], _ => rfl
theorem tis_table {v0 : V} : start nis_table [v0] = [some v0, none] := rfl

abbrev s_is_row : Stmt := topS 35
abbrev n_is_row : List Str := ["thing", "start", "plus", "percent"]
abbrev p_is_row : List Str := ["thing"]
theorem sc_is_row : FnScope n_is_row p_is_row (defScope s_is_row) := ⟨rfl, rfl, rfl, by decide +kernel, rfl, by decide +kernel, by decide +kernel⟩
theorem b_is_row : BindOk "_is_row" s_is_row p_is_row := fun _ _ _ _ _ _ us hl => match us, hl with | [_], _ => rfl
theorem t_is_row {v0 : V} : start n_is_row [v0] = [some v0, none, none, none] := rfl

abbrev s_starts_rise : Stmt := topS 36
abbrev n_starts_rise : List Str := ["rows", "row", "following"]
abbrev p_starts_rise : List Str := ["rows"]
theorem sc_starts_rise : FnScope n_starts_rise p_starts_rise (defScope s_starts_rise) := ⟨rfl, rfl, rfl, by decide +kernel, rfl, by decide +kernel, by decide +kernel⟩
theorem b_starts_rise : BindOk "_starts_rise" s_starts_rise p_starts_rise := fun _ _ _ _ _ _ us hl => match us, hl with | [_], _ => rfl
theorem t_starts_rise {v0 : V} : start n_starts_rise [v0] = [some v0, none, none] := rfl

abbrev sform_of : Stmt := topS 41
abbrev nform_of : List Str := ["lines", "tables", "choices", "owed"]
abbrev pform_of : List Str := ["lines", "tables", "choices", "owed"]
theorem scform_of : FnScope nform_of pform_of (defScope sform_of) := ⟨rfl, rfl, rfl, by decide +kernel, rfl, by decide +kernel, by decide +kernel⟩
theorem bform_of : BindOk "form_of" sform_of pform_of := fun _ _ _ _ _ _ us hl => match us, hl with | [_, _, _, _], _ => rfl
theorem tform_of {v0 v1 v2 v3 : V} : start nform_of [v0, v1, v2, v3] = [some v0, some v1, some v2, some v3] := rfl

abbrev sring_of : Stmt := topS 42
abbrev nring_of : List Str := ["lines", "names", "shortest", "first", "ring"]
abbrev pring_of : List Str := ["lines"]
theorem scring_of : FnScope nring_of pring_of (defScope sring_of) := ⟨rfl, rfl, rfl, by decide +kernel, rfl, by decide +kernel, by decide +kernel⟩
theorem bring_of : BindOk "ring_of" sring_of pring_of := fun _ _ _ _ _ _ us hl => match us, hl with | [_], _ => rfl
theorem tring_of {v0 : V} : start nring_of [v0] = [some v0, none, none, none, none] := rfl

abbrev s_need_tables : Stmt := topS 43
abbrev n_need_tables : List Str := ["tables", "table"]
abbrev p_need_tables : List Str := ["tables"]
theorem sc_need_tables : FnScope n_need_tables p_need_tables (defScope s_need_tables) := ⟨rfl, rfl, rfl, by decide +kernel, rfl, by decide +kernel, by decide +kernel⟩
theorem b_need_tables : BindOk "_need_tables" s_need_tables p_need_tables := fun _ _ _ _ _ _ us hl => match us, hl with | [_], _ => rfl
theorem t_need_tables {v0 : V} : start n_need_tables [v0] = [some v0, none] := rfl

abbrev s_need_sizes : Stmt := topS 44
abbrev n_need_sizes : List Str := ["lines", "choices", "owed"]
abbrev p_need_sizes : List Str := ["lines", "choices", "owed"]
theorem sc_need_sizes : FnScope n_need_sizes p_need_sizes (defScope s_need_sizes) := ⟨rfl, rfl, rfl, by decide +kernel, rfl, by decide +kernel, by decide +kernel⟩
theorem b_need_sizes : BindOk "_need_sizes" s_need_sizes p_need_sizes := fun _ _ _ _ _ _ us hl => match us, hl with | [_, _, _], _ => rfl
theorem t_need_sizes {v0 v1 v2 : V} : start n_need_sizes [v0, v1, v2] = [some v0, some v1, some v2] := rfl

abbrev s_need_rules : Stmt := topS 45
abbrev n_need_rules : List Str := ["lines", "tables", "choices", "rule"]
abbrev p_need_rules : List Str := ["lines", "tables", "choices"]
theorem sc_need_rules : FnScope n_need_rules p_need_rules (defScope s_need_rules) := ⟨rfl, rfl, rfl, by decide +kernel, rfl, by decide +kernel, by decide +kernel⟩
theorem b_need_rules : BindOk "_need_rules" s_need_rules p_need_rules := fun _ _ _ _ _ _ us hl => match us, hl with | [_, _, _], _ => rfl
theorem t_need_rules {v0 v1 v2 : V} : start n_need_rules [v0, v1, v2] = [some v0, some v1, some v2, none] := rfl

abbrev s_lines_named : Stmt := topS 46
abbrev n_lines_named : List Str := ["lines", "line", "rule"]
abbrev p_lines_named : List Str := ["lines"]
theorem sc_lines_named : FnScope n_lines_named p_lines_named (defScope s_lines_named) := ⟨rfl, rfl, rfl, by decide +kernel, rfl, by decide +kernel, by decide +kernel⟩
theorem b_lines_named : BindOk "_lines_named" s_lines_named p_lines_named := fun _ _ _ _ _ _ us hl => match us, hl with | [_], _ => rfl
theorem t_lines_named {v0 : V} : start n_lines_named [v0] = [some v0, none, none] := rfl

abbrev s_ring_from : Stmt := topS 47
abbrev n_ring_from : List Str := ["names", "first", "paths", "reached", "path", "line"]
abbrev p_ring_from : List Str := ["names", "first"]
theorem sc_ring_from : FnScope n_ring_from p_ring_from (defScope s_ring_from) := ⟨rfl, rfl, rfl, by decide +kernel, rfl, by decide +kernel, by decide +kernel⟩
theorem b_ring_from : BindOk "_ring_from" s_ring_from p_ring_from := fun _ _ _ _ _ _ us hl => match us, hl with | [_, _], _ => rfl
theorem t_ring_from {v0 v1 : V} : start n_ring_from [v0, v1] = [some v0, some v1, none, none, none, none] := rfl

abbrev s_law_cell_at : Stmt := topS 49
abbrev n_law_cell_at : List Str := ["_law_script", "_law_k"]
abbrev p_law_cell_at : List Str := ["_law_script", "_law_k"]
theorem sc_law_cell_at : FnScope n_law_cell_at p_law_cell_at (defScope s_law_cell_at) := ⟨rfl, rfl, rfl, by decide +kernel, rfl, by decide +kernel, by decide +kernel⟩
theorem b_law_cell_at : BindOk "_law_cell_at" s_law_cell_at p_law_cell_at := fun _ _ _ _ _ _ us hl => match us, hl with | [_, _], _ => rfl
theorem t_law_cell_at {v0 v1 : V} : start n_law_cell_at [v0, v1] = [some v0, some v1] := rfl

abbrev s_law_mixed : Stmt := topS 50
abbrev n_law_mixed : List Str := ["_law_cell", "_law_k"]
abbrev p_law_mixed : List Str := ["_law_cell", "_law_k"]
theorem sc_law_mixed : FnScope n_law_mixed p_law_mixed (defScope s_law_mixed) := ⟨rfl, rfl, rfl, by decide +kernel, rfl, by decide +kernel, by decide +kernel⟩
theorem b_law_mixed : BindOk "_law_mixed" s_law_mixed p_law_mixed := fun _ _ _ _ _ _ us hl => match us, hl with | [_, _], _ => rfl
theorem t_law_mixed {v0 v1 : V} : start n_law_mixed [v0, v1] = [some v0, some v1] := rfl

abbrev s_law_next : Stmt := topS 51
abbrev n_law_next : List Str := ["_law_state", "_law_size"]
abbrev p_law_next : List Str := ["_law_state", "_law_size"]
theorem sc_law_next : FnScope n_law_next p_law_next (defScope s_law_next) := ⟨rfl, rfl, rfl, by decide +kernel, rfl, by decide +kernel, by decide +kernel⟩
theorem b_law_next : BindOk "_law_next" s_law_next p_law_next := fun _ _ _ _ _ _ us hl => match us, hl with | [_, _], _ => rfl
theorem t_law_next {v0 v1 : V} : start n_law_next [v0, v1] = [some v0, some v1] := rfl

abbrev s_law_number : Stmt := topS 52
abbrev n_law_number : List Str := ["_law_state", "_law_kind"]
abbrev p_law_number : List Str := ["_law_state"]
theorem sc_law_number : FnScope n_law_number p_law_number (defScope s_law_number) := ⟨rfl, rfl, rfl, by decide +kernel, rfl, by decide +kernel, by decide +kernel⟩
theorem b_law_number : BindOk "_law_number" s_law_number p_law_number := fun _ _ _ _ _ _ us hl => match us, hl with | [_], _ => rfl
theorem t_law_number {v0 : V} : start n_law_number [v0] = [some v0, none] := rfl

abbrev s_law_table : Stmt := topS 53
abbrev n_law_table : List Str := ["_law_state", "_law_many", "_law_start", "_law_rows", "_law_k", "_law_percent"]
abbrev p_law_table : List Str := ["_law_state"]
theorem sc_law_table : FnScope n_law_table p_law_table (defScope s_law_table) := ⟨rfl, rfl, rfl, by decide +kernel, rfl, by decide +kernel, by decide +kernel⟩
theorem b_law_table : BindOk "_law_table" s_law_table p_law_table := fun _ _ _ _ _ _ us hl => match us, hl with | [_], _ => rfl
theorem t_law_table {v0 : V} : start n_law_table [v0] = [some v0, none, none, none, none, none] := rfl

abbrev s_law_words : Stmt := topS 54
abbrev n_law_words : List Str := ["_law_state", "_law_letters", "_law_base", "_law_k", "_law_words_here", "_law_at"]
abbrev p_law_words : List Str := ["_law_state"]
theorem sc_law_words : FnScope n_law_words p_law_words (defScope s_law_words) := ⟨rfl, rfl, rfl, by decide +kernel, rfl, by decide +kernel, by decide +kernel⟩
theorem b_law_words : BindOk "_law_words" s_law_words p_law_words := fun _ _ _ _ _ _ us hl => match us, hl with | [_], _ => rfl
theorem t_law_words {v0 : V} : start n_law_words [v0] = [some v0, none, none, none, none, none] := rfl

abbrev s_law_plain : Stmt := topS 55
abbrev n_law_plain : List Str := ["_law_state", "_law_seen", "_law_sizes_here", "_law_words_here", "_law_kind"]
abbrev p_law_plain : List Str := ["_law_state", "_law_seen", "_law_sizes_here", "_law_words_here"]
theorem sc_law_plain : FnScope n_law_plain p_law_plain (defScope s_law_plain) := ⟨rfl, rfl, rfl, by decide +kernel, rfl, by decide +kernel, by decide +kernel⟩
theorem b_law_plain : BindOk "_law_plain" s_law_plain p_law_plain := fun _ _ _ _ _ _ us hl => match us, hl with | [_, _, _, _], _ => rfl
theorem t_law_plain {v0 v1 v2 v3 : V} : start n_law_plain [v0, v1, v2, v3] = [some v0, some v1, some v2, some v3, none] := rfl

abbrev s_law_rule : Stmt := topS 56
abbrev n_law_rule : List Str := ["_law_state", "_law_deep", "_law_seen", "_law_sizes_here", "_law_words_here", "_law_kind", "_law_one", "_law_other"]
abbrev p_law_rule : List Str := ["_law_state", "_law_deep", "_law_seen", "_law_sizes_here", "_law_words_here"]
theorem sc_law_rule : FnScope n_law_rule p_law_rule (defScope s_law_rule) := ⟨rfl, rfl, rfl, by decide +kernel, rfl, by decide +kernel, by decide +kernel⟩
theorem b_law_rule : BindOk "_law_rule" s_law_rule p_law_rule := fun _ _ _ _ _ _ us hl => match us, hl with | [_, _, _, _, _], _ => rfl
theorem t_law_rule {v0 v1 v2 v3 v4 : V} : start n_law_rule [v0, v1, v2, v3, v4] = [some v0, some v1, some v2, some v3, some v4, none, none, none] := rfl

abbrev s_law_sizes : Stmt := topS 57
abbrev n_law_sizes : List Str := ["_law_cell", "_law_most", "_law_many", "_law_tables", "_law_choices"]
abbrev p_law_sizes : List Str := ["_law_cell", "_law_most"]
theorem sc_law_sizes : FnScope n_law_sizes p_law_sizes (defScope s_law_sizes) := ⟨rfl, rfl, rfl, by decide +kernel, rfl, by decide +kernel, by decide +kernel⟩
theorem b_law_sizes : BindOk "_law_sizes" s_law_sizes p_law_sizes := fun _ _ _ _ _ _ us hl => match us, hl with | [_, _], _ => rfl
theorem t_law_sizes {v0 v1 : V} : start n_law_sizes [v0, v1] = [some v0, some v1, none, none, none] := rfl

abbrev s_law_order : Stmt := topS 58
abbrev n_law_order : List Str := ["_law_state", "_law_many", "_law_left", "_law_found"]
abbrev p_law_order : List Str := ["_law_state", "_law_many"]
theorem sc_law_order : FnScope n_law_order p_law_order (defScope s_law_order) := ⟨rfl, rfl, rfl, by decide +kernel, rfl, by decide +kernel, by decide +kernel⟩
theorem b_law_order : BindOk "_law_order" s_law_order p_law_order := fun _ _ _ _ _ _ us hl => match us, hl with | [_, _], _ => rfl
theorem t_law_order {v0 v1 : V} : start n_law_order [v0, v1] = [some v0, some v1, none, none] := rfl

abbrev s_law_form : Stmt := topS 59
abbrev n_law_form : List Str := ["_law_script", "_law_most", "_law_state", "_law_sizes_here", "_law_words_here", "_law_lines", "_law_seen", "_law_line", "_law_deep", "_law_tables", "_law_k"]
abbrev p_law_form : List Str := ["_law_script", "_law_most"]
theorem sc_law_form : FnScope n_law_form p_law_form (defScope s_law_form) := ⟨rfl, rfl, rfl, by decide +kernel, rfl, by decide +kernel, by decide +kernel⟩
theorem b_law_form : BindOk "_law_form" s_law_form p_law_form := fun _ _ _ _ _ _ us hl => match us, hl with | [_, _], _ => rfl
theorem t_law_form {v0 v1 : V} : start n_law_form [v0, v1] = [some v0, some v1, none, none, none, none, none, none, none, none, none] := rfl

abbrev s_law_alone : Stmt := topS 60
abbrev n_law_alone : List Str := ["_law_e", "_law_many"]
abbrev p_law_alone : List Str := ["_law_e"]
theorem sc_law_alone : FnScope n_law_alone p_law_alone (defScope s_law_alone) := ⟨rfl, rfl, rfl, by decide +kernel, rfl, by decide +kernel, by decide +kernel⟩
theorem b_law_alone : BindOk "_law_alone" s_law_alone p_law_alone := fun _ _ _ _ _ _ us hl => match us, hl with | [_], _ => rfl
theorem t_law_alone {v0 : V} : start n_law_alone [v0] = [some v0, none] := rfl

abbrev s_law_faulty : Stmt := topS 61
abbrev n_law_faulty : List Str := ["_law_parts", "_law_fault", "_law_state", "_law_lines", "_law_tables", "_law_choices", "_law_line", "_law_at", "_law_longer", "_law_k", "_law_wrong", "_law_other"]
abbrev p_law_faulty : List Str := ["_law_parts", "_law_fault", "_law_state"]
theorem sc_law_faulty : FnScope n_law_faulty p_law_faulty (defScope s_law_faulty) := ⟨rfl, rfl, rfl, by decide +kernel, rfl, by decide +kernel, by decide +kernel⟩
theorem b_law_faulty : BindOk "_law_faulty" s_law_faulty p_law_faulty := fun _ _ _ _ _ _ us hl => match us, hl with | [_, _, _], _ => rfl
theorem t_law_faulty {v0 v1 v2 : V} : start n_law_faulty [v0, v1, v2] = [some v0, some v1, some v2, none, none, none, none, none, none, none, none, none] := rfl

abbrev s_law_tried : Stmt := topS 62
abbrev n_law_tried : List Str := ["_law_parts"]
abbrev p_law_tried : List Str := ["_law_parts"]
theorem sc_law_tried : FnScope n_law_tried p_law_tried (defScope s_law_tried) := ⟨rfl, rfl, rfl, by decide +kernel, rfl, by decide +kernel, by decide +kernel⟩
theorem b_law_tried : BindOk "_law_tried" s_law_tried p_law_tried := fun _ _ _ _ _ _ us hl => match us, hl with | [_], _ => rfl
theorem t_law_tried {v0 : V} : start n_law_tried [v0] = [some v0] := rfl

abbrev s_law_any : Stmt := topS 63
abbrev n_law_any : List Str := ["_law_parts", "_law_e"]
abbrev p_law_any : List Str := ["_law_parts"]
theorem sc_law_any : FnScope n_law_any p_law_any (defScope s_law_any) := ⟨rfl, rfl, rfl, by decide +kernel, rfl, by decide +kernel, by decide +kernel⟩
theorem b_law_any : BindOk "_law_any" s_law_any p_law_any := fun _ _ _ _ _ _ us hl => match us, hl with | [_], _ => rfl
theorem t_law_any {v0 : V} : start n_law_any [v0] = [some v0, none] := rfl

abbrev s_law_first : Stmt := topS 64
abbrev n_law_first : List Str := ["_law_faults", "_law_fault"]
abbrev p_law_first : List Str := ["_law_faults"]
theorem sc_law_first : FnScope n_law_first p_law_first (defScope s_law_first) := ⟨rfl, rfl, rfl, by decide +kernel, rfl, by decide +kernel, by decide +kernel⟩
theorem b_law_first : BindOk "_law_first" s_law_first p_law_first := fun _ _ _ _ _ _ us hl => match us, hl with | [_], _ => rfl
theorem t_law_first {v0 : V} : start n_law_first [v0] = [some v0, none] := rfl

abbrev s_law_same_kinds : Stmt := topS 65
abbrev n_law_same_kinds : List Str := ["_law_form_here", "_law_parts"]
abbrev p_law_same_kinds : List Str := ["_law_form_here", "_law_parts"]
theorem sc_law_same_kinds : FnScope n_law_same_kinds p_law_same_kinds (defScope s_law_same_kinds) := ⟨rfl, rfl, rfl, by decide +kernel, rfl, by decide +kernel, by decide +kernel⟩
theorem b_law_same_kinds : BindOk "_law_same_kinds" s_law_same_kinds p_law_same_kinds := fun _ _ _ _ _ _ us hl => match us, hl with | [_, _], _ => rfl
theorem t_law_same_kinds {v0 v1 : V} : start n_law_same_kinds [v0, v1] = [some v0, some v1] := rfl

abbrev slaw : Stmt := topS 66
abbrev nlaw : List Str := ["_law_script", "_law_parts", "_law_cell", "_law_state", "_law_faults", "_law_fault", "_law_handed", "_law_found"]
abbrev plaw : List Str := ["_law_script"]
theorem sclaw : FnScope nlaw plaw (defScope slaw) := ⟨rfl, rfl, rfl, by decide +kernel, rfl, by decide +kernel, by decide +kernel⟩
theorem blaw : BindOk "law" slaw plaw := fun _ _ _ _ _ _ us hl => match us, hl with | [_], _ => rfl
theorem tlaw {v0 : V} : start nlaw [v0] = [some v0, none, none, none, none, none, none, none] := rfl

structure Tx (K : PySem.W.Frag) (w : World) (mg : Str → Option Value) : Prop where
  m_ValueError : mg "ValueError" = none
  m_sorted : mg "sorted" = none
  m_zip : mg "zip" = none
  m_range : mg "range" = none
  m_tuple : mg "tuple" = none
  m_list : mg "list" = none
  m_isinstance : mg "isinstance" = none
  m_int : mg "int" = none
  m_set : mg "set" = none
  m_len : mg "len" = none
  m_min : mg "min" = none
  m_max : mg "max" = none
  m_bool : mg "bool" = none
  m_str : mg "str" = none
  g_FARTHEST : ∃ t, mg "FARTHEST" = some (.int 1000000000 t)
  g_FULL_PERCENT : ∃ t, mg "FULL_PERCENT" = some (.int 100 t)
  g_DEEPEST : ∃ t, mg "DEEPEST" = some (.int 8 t)
  g_LONGEST_WORD : ∃ t, mg "LONGEST_WORD" = some (.int 8 t)
  g_LETTERS : ∃ t, mg "LETTERS" = some (.str "abcdefghijklmnopqrstuvwxyz" t)
  g_MOST_ROWS : ∃ t, mg "MOST_ROWS" = some (.int 20 t)
  g_ROW_PARTS : ∃ t, mg "ROW_PARTS" = some (.int 3 t)
  g_MOST_LINES : ∃ t, mg "MOST_LINES" = some (.int 40 t)
  g_MOST_TABLES : ∃ t, mg "MOST_TABLES" = some (.int 5 t)
  g_MOST_CHOICES : ∃ t, mg "MOST_CHOICES" = some (.int 8 t)
  g_PARTS : ∃ d, mg "PARTS" = some (.ref d) ∧ TabAt K w d tPARTS
  err_FormError : Qe.ErrC K mg "FormError"
  err_NoTable : Qe.ErrC K mg "NoTable"
  err_NoForm : Qe.ErrC K mg "NoForm"
  err_NoRule : Qe.ErrC K mg "NoRule"
  err_Ring : Qe.ErrC K mg "Ring"
  err_NoPaper : Qe.ErrC K mg "NoPaper"
  err_NoYear : Qe.ErrC K mg "NoYear"
  err_NoLine : Qe.ErrC K mg "NoLine"
  err_NoChoice : Qe.ErrC K mg "NoChoice"
  err_TooMany : Qe.ErrC K mg "TooMany"
  sub_Ring_NoTable : Qe.Catch K mg "Ring" "NoTable" false
  sub_Ring_NoForm : Qe.Catch K mg "Ring" "NoForm" false
  sub_Ring_NoRule : Qe.Catch K mg "Ring" "NoRule" false
  sub_Ring_Ring : Qe.Catch K mg "Ring" "Ring" true
  sub_Ring_FormError : Qe.Catch K mg "Ring" "FormError" true
  sub_NoTable_NoTable : Qe.Catch K mg "NoTable" "NoTable" true
  sub_NoTable_NoForm : Qe.Catch K mg "NoTable" "NoForm" false
  sub_NoTable_NoRule : Qe.Catch K mg "NoTable" "NoRule" false
  sub_NoTable_Ring : Qe.Catch K mg "NoTable" "Ring" false
  sub_NoTable_FormError : Qe.Catch K mg "NoTable" "FormError" true
  sub_NoForm_NoTable : Qe.Catch K mg "NoForm" "NoTable" false
  sub_NoForm_NoForm : Qe.Catch K mg "NoForm" "NoForm" true
  sub_NoForm_NoRule : Qe.Catch K mg "NoForm" "NoRule" false
  sub_NoForm_Ring : Qe.Catch K mg "NoForm" "Ring" false
  sub_NoForm_FormError : Qe.Catch K mg "NoForm" "FormError" true
  sub_NoRule_NoTable : Qe.Catch K mg "NoRule" "NoTable" false
  sub_NoRule_NoForm : Qe.Catch K mg "NoRule" "NoForm" false
  sub_NoRule_NoRule : Qe.Catch K mg "NoRule" "NoRule" true
  sub_NoRule_Ring : Qe.Catch K mg "NoRule" "Ring" false
  sub_NoRule_FormError : Qe.Catch K mg "NoRule" "FormError" true
  exc_Ring : ExcC K (Qe.clsA mg "Ring")
  exc_NoTable : ExcC K (Qe.clsA mg "NoTable")
  exc_NoForm : ExcC K (Qe.clsA mg "NoForm")
  exc_NoRule : ExcC K (Qe.clsA mg "NoRule")
  kit_Ring_NoRule : PySem.W.kitOne K (.ref (Qe.clsA mg "Ring")) (.ref (Qe.clsA mg "NoRule")) = some false
  kit_Ring_NoYear : PySem.W.kitOne K (.ref (Qe.clsA mg "Ring")) (.ref (Qe.clsA mg "NoYear")) = some false
  kit_Ring_TooMany : PySem.W.kitOne K (.ref (Qe.clsA mg "Ring")) (.ref (Qe.clsA mg "TooMany")) = some false
  kit_Ring_NoTable : PySem.W.kitOne K (.ref (Qe.clsA mg "Ring")) (.ref (Qe.clsA mg "NoTable")) = some false
  kit_Ring_NoForm : PySem.W.kitOne K (.ref (Qe.clsA mg "Ring")) (.ref (Qe.clsA mg "NoForm")) = some false
  kit_Ring_NoPaper : PySem.W.kitOne K (.ref (Qe.clsA mg "Ring")) (.ref (Qe.clsA mg "NoPaper")) = some false
  kit_Ring_NoChoice : PySem.W.kitOne K (.ref (Qe.clsA mg "Ring")) (.ref (Qe.clsA mg "NoChoice")) = some false
  kit_Ring_Ring : PySem.W.kitOne K (.ref (Qe.clsA mg "Ring")) (.ref (Qe.clsA mg "Ring")) = some true
  kit_Ring_NoLine : PySem.W.kitOne K (.ref (Qe.clsA mg "Ring")) (.ref (Qe.clsA mg "NoLine")) = some false
  kit_Ring_ValueError : PySem.W.kitOne K (.ref (Qe.clsA mg "Ring")) (.type "ValueError") = some true
  kit_NoTable_NoRule : PySem.W.kitOne K (.ref (Qe.clsA mg "NoTable")) (.ref (Qe.clsA mg "NoRule")) = some false
  kit_NoTable_NoYear : PySem.W.kitOne K (.ref (Qe.clsA mg "NoTable")) (.ref (Qe.clsA mg "NoYear")) = some false
  kit_NoTable_TooMany : PySem.W.kitOne K (.ref (Qe.clsA mg "NoTable")) (.ref (Qe.clsA mg "TooMany")) = some false
  kit_NoTable_NoTable : PySem.W.kitOne K (.ref (Qe.clsA mg "NoTable")) (.ref (Qe.clsA mg "NoTable")) = some true
  kit_NoTable_NoForm : PySem.W.kitOne K (.ref (Qe.clsA mg "NoTable")) (.ref (Qe.clsA mg "NoForm")) = some false
  kit_NoTable_NoPaper : PySem.W.kitOne K (.ref (Qe.clsA mg "NoTable")) (.ref (Qe.clsA mg "NoPaper")) = some false
  kit_NoTable_NoChoice : PySem.W.kitOne K (.ref (Qe.clsA mg "NoTable")) (.ref (Qe.clsA mg "NoChoice")) = some false
  kit_NoTable_Ring : PySem.W.kitOne K (.ref (Qe.clsA mg "NoTable")) (.ref (Qe.clsA mg "Ring")) = some false
  kit_NoTable_NoLine : PySem.W.kitOne K (.ref (Qe.clsA mg "NoTable")) (.ref (Qe.clsA mg "NoLine")) = some false
  kit_NoTable_ValueError : PySem.W.kitOne K (.ref (Qe.clsA mg "NoTable")) (.type "ValueError") = some true
  kit_NoForm_NoRule : PySem.W.kitOne K (.ref (Qe.clsA mg "NoForm")) (.ref (Qe.clsA mg "NoRule")) = some false
  kit_NoForm_NoYear : PySem.W.kitOne K (.ref (Qe.clsA mg "NoForm")) (.ref (Qe.clsA mg "NoYear")) = some false
  kit_NoForm_TooMany : PySem.W.kitOne K (.ref (Qe.clsA mg "NoForm")) (.ref (Qe.clsA mg "TooMany")) = some false
  kit_NoForm_NoTable : PySem.W.kitOne K (.ref (Qe.clsA mg "NoForm")) (.ref (Qe.clsA mg "NoTable")) = some false
  kit_NoForm_NoForm : PySem.W.kitOne K (.ref (Qe.clsA mg "NoForm")) (.ref (Qe.clsA mg "NoForm")) = some true
  kit_NoForm_NoPaper : PySem.W.kitOne K (.ref (Qe.clsA mg "NoForm")) (.ref (Qe.clsA mg "NoPaper")) = some false
  kit_NoForm_NoChoice : PySem.W.kitOne K (.ref (Qe.clsA mg "NoForm")) (.ref (Qe.clsA mg "NoChoice")) = some false
  kit_NoForm_Ring : PySem.W.kitOne K (.ref (Qe.clsA mg "NoForm")) (.ref (Qe.clsA mg "Ring")) = some false
  kit_NoForm_NoLine : PySem.W.kitOne K (.ref (Qe.clsA mg "NoForm")) (.ref (Qe.clsA mg "NoLine")) = some false
  kit_NoForm_ValueError : PySem.W.kitOne K (.ref (Qe.clsA mg "NoForm")) (.type "ValueError") = some true
  kit_NoRule_NoRule : PySem.W.kitOne K (.ref (Qe.clsA mg "NoRule")) (.ref (Qe.clsA mg "NoRule")) = some true
  kit_NoRule_NoYear : PySem.W.kitOne K (.ref (Qe.clsA mg "NoRule")) (.ref (Qe.clsA mg "NoYear")) = some false
  kit_NoRule_TooMany : PySem.W.kitOne K (.ref (Qe.clsA mg "NoRule")) (.ref (Qe.clsA mg "TooMany")) = some false
  kit_NoRule_NoTable : PySem.W.kitOne K (.ref (Qe.clsA mg "NoRule")) (.ref (Qe.clsA mg "NoTable")) = some false
  kit_NoRule_NoForm : PySem.W.kitOne K (.ref (Qe.clsA mg "NoRule")) (.ref (Qe.clsA mg "NoForm")) = some false
  kit_NoRule_NoPaper : PySem.W.kitOne K (.ref (Qe.clsA mg "NoRule")) (.ref (Qe.clsA mg "NoPaper")) = some false
  kit_NoRule_NoChoice : PySem.W.kitOne K (.ref (Qe.clsA mg "NoRule")) (.ref (Qe.clsA mg "NoChoice")) = some false
  kit_NoRule_Ring : PySem.W.kitOne K (.ref (Qe.clsA mg "NoRule")) (.ref (Qe.clsA mg "Ring")) = some false
  kit_NoRule_NoLine : PySem.W.kitOne K (.ref (Qe.clsA mg "NoRule")) (.ref (Qe.clsA mg "NoLine")) = some false
  kit_NoRule_ValueError : PySem.W.kitOne K (.ref (Qe.clsA mg "NoRule")) (.type "ValueError") = some true
  F_is_whole : FunAt K mg "is_whole" sis_whole
  F_is_within : FunAt K mg "is_within" sis_within
  F_is_number : FunAt K mg "is_number" sis_number
  F_is_percent : FunAt K mg "is_percent" sis_percent
  F_is_place : FunAt K mg "is_place" sis_place
  F_is_rule : FunAt K mg "is_rule" sis_rule
  F_is_word : FunAt K mg "is_word" sis_word
  F_named : FunAt K mg "named" snamed
  F__is_rule_within : FunAt K mg "_is_rule_within" s_is_rule_within
  F__has_form : FunAt K mg "_has_form" s_has_form
  F__is_part : FunAt K mg "_is_part" s_is_part
  F__behind : FunAt K mg "_behind" s_behind
  F_is_table : FunAt K mg "is_table" sis_table
  F__is_row : FunAt K mg "_is_row" s_is_row
  F__starts_rise : FunAt K mg "_starts_rise" s_starts_rise
  F_form_of : FunAt K mg "form_of" sform_of
  F_ring_of : FunAt K mg "ring_of" sring_of
  F__need_tables : FunAt K mg "_need_tables" s_need_tables
  F__need_sizes : FunAt K mg "_need_sizes" s_need_sizes
  F__need_rules : FunAt K mg "_need_rules" s_need_rules
  F__lines_named : FunAt K mg "_lines_named" s_lines_named
  F__ring_from : FunAt K mg "_ring_from" s_ring_from
  F__law_cell_at : FunAt K mg "_law_cell_at" s_law_cell_at
  F__law_mixed : FunAt K mg "_law_mixed" s_law_mixed
  F__law_next : FunAt K mg "_law_next" s_law_next
  F__law_number : FunAt K mg "_law_number" s_law_number
  F__law_table : FunAt K mg "_law_table" s_law_table
  F__law_words : FunAt K mg "_law_words" s_law_words
  F__law_plain : FunAt K mg "_law_plain" s_law_plain
  F__law_rule : FunAt K mg "_law_rule" s_law_rule
  F__law_sizes : FunAt K mg "_law_sizes" s_law_sizes
  F__law_order : FunAt K mg "_law_order" s_law_order
  F__law_form : FunAt K mg "_law_form" s_law_form
  F__law_alone : FunAt K mg "_law_alone" s_law_alone
  F__law_faulty : FunAt K mg "_law_faulty" s_law_faulty
  F__law_tried : FunAt K mg "_law_tried" s_law_tried
  F__law_any : FunAt K mg "_law_any" s_law_any
  F__law_first : FunAt K mg "_law_first" s_law_first
  F__law_same_kinds : FunAt K mg "_law_same_kinds" s_law_same_kinds
  F_law : FunAt K mg "law" slaw

end KF
open PySem PySem.Spec PyProof.Rows L2 Qa Qr
local macro_rules | `(tactic| walk_at "tv") => `(tactic| first
  | assumption
  | exact Tv.int _
  | exact Tv.bl _
  | exact Tv.str _ (by first | assumption | decide | decide +kernel)
  | exact Tv.non
  | ((refine' tv_st ?h ?e); (case e => assumption); (case h => walk_at "tv"))
  | ((refine' tv_ex ?h ?e); (case e => assumption); (case h => walk_at "tv")))
local macro_rules | `(tactic| walk_at "tva") => `(tactic| first
  | assumption
  | ((refine' tva_st ?h ?e); (case e => assumption); (case h => walk_at "tva"))
  | ((refine' tva_ex ?h ?e); (case e => assumption); (case h => walk_at "tva")))
local macro_rules | `(tactic| walk_at "sqt") => `(tactic| first
  | assumption
  | exact SqT.of (by assumption)
  | ((refine' sqt_st ?h ?e); (case e => assumption); (case h => walk_at "sqt"))
  | ((refine' sqt_ex ?h ?e); (case e => assumption); (case h => walk_at "sqt")))
local macro_rules | `(tactic| walk_at "lst") => `(tactic| first
  | assumption
  | ((refine' lst_st ?h ?e ?n); (case e => assumption); (case n => assumption); (case h => walk_at "lst"))
  | ((refine' lst_ex ?h ?e); (case e => assumption); (case h => walk_at "lst")))
local macro_rules | `(tactic| walk_at "sql") => `(tactic| first
  | assumption
  | exact SqL.of (by walk_at "lst")
  | ((refine' sql_ex ?h ?e); (case e => assumption); (case h => walk_at "sql")))
local macro_rules | `(tactic| walk_at "sta") => `(tactic| first
  | assumption
  | ((refine' sta_st ?e); (case e => assumption))
  | ((refine' sta_ex ?h ?e); (case e => assumption); (case h => walk_at "sta")))
local macro_rules | `(tactic| walk_at "sd") => `(tactic| first
  | assumption
  | omega
  | (simp only [CMul, CDiv, CDivN, CPow]; omega)
  | decide)
local macro_rules | `(tactic| walk_at "rd1") => `(tactic| first
  | with_reducible refine rd_seq ?_
  | with_reducible refine Qe.rd_raiseC ?_
  | with_reducible refine Qe.rd_calX ?_
  | with_reducible refine Qe.rd_calE ?_
  | with_reducible refine rd_cons ?_
  | with_reducible refine rd_nil ?_
  | ((with_reducible refine' rd_var ?h ?_); (case h => exact rfl))
  | with_reducible refine rd_c ?_
  | with_reducible refine rd_op ?_
  | with_reducible refine rd_asg ?_
  | ((with_reducible refine' rd_name ?h ?_); (case h => (first | (dsimp only [List.set]; done) | (dsimp only [List.set]; exact rfl))))
  | with_reducible refine rd_cal ?_
  | with_reducible refine rd_ret ?_
  | with_reducible refine rd_ifS ?_
  | with_reducible refine rd_cb ?_
  | with_reducible refine rd_addI ?_
  | with_reducible refine rd_I0 ?_
  | with_reducible refine rd_pow9 ?_
  | with_reducible refine rd_pow12 ?_
  | ((with_reducible refine' rd_I ?h ?_); (case h => walk_at "sd"))
  | with_reducible refine rd_U ?_
  | with_reducible refine rd_eqI ?_
  | with_reducible refine rd_eqS ?_
  | with_reducible refine rd_eqB ?_
  | with_reducible refine rd_neI ?_
  | with_reducible refine rd_neS ?_
  | with_reducible refine rd_neB ?_
  | with_reducible refine rd_signIn ?_
  | with_reducible refine rd_signOut ?_
  | with_reducible refine rd_tup ?_
  | with_reducible refine rd_lst ?_
  | with_reducible refine rd_test ?_
  | with_reducible refine rd_tB ?_
  | with_reducible refine rd_bl ?_
  | with_reducible refine rd_blP ?_
  | with_reducible refine rd_tru ?_
  | with_reducible refine rd_trub ?_
  | with_reducible refine rd_trun ?_
  | with_reducible refine rd_not ?_
  | with_reducible refine rd_and ?_
  | with_reducible refine rd_or ?_
  | with_reducible refine rd_andV ?_
  | with_reducible refine rd_orV ?_
  | with_reducible refine rd_notV ?_
  | with_reducible refine rd_ifE ?_
  | with_reducible refine rd_chain ?_
  | with_reducible refine rd_retN ?_
  | with_reducible refine rd_drop ?_
  | with_reducible refine rd_next ?_
  | with_reducible refine rd_brk ?_
  | with_reducible refine rd_cont ?_
  | with_reducible refine rd_un ?_
  | with_reducible refine rd_bm ?_
  | with_reducible refine rd_sl ?_
  | with_reducible refine rd_part ?_
  | with_reducible refine rd_partI ?_
  | with_reducible refine rd_nopart ?_
  | with_reducible refine rd_gcons ?_
  | with_reducible refine rd_gnil ?_
  | with_reducible refine rd_gsub ?_
  | with_reducible refine rd_intB ?_
  | with_reducible refine rd_intI ?_
  | with_reducible refine rd_min2 ?_
  | with_reducible refine rd_max2 ?_
  | with_reducible refine rd_par ?_
  | ((with_reducible refine' rd_isInt ?h ?_); (case h => walk_at "tv"))
  | ((with_reducible refine' rd_isBool ?h ?_); (case h => walk_at "tv"))
  | ((with_reducible refine' rd_isStr ?h ?_); (case h => walk_at "tv"))
  | ((with_reducible refine' rd_isTup ?h ?_); (case h => walk_at "tv"))
  | ((with_reducible refine' rd_isLst ?h ?_); (case h => walk_at "tv"))
  | ((with_reducible refine' rd_inTab ?h ?_); (case h => assumption))
  | ((with_reducible refine' rd_outTab ?h ?_); (case h => assumption))
  | with_reducible refine rd_dgetT ?_
  | ((with_reducible refine' rd_lenS ?h ?_); (case h => first | assumption | decide))
  | ((with_reducible refine' rd_tyL ?h ?_); (case h => walk_at "sql"))
  | with_reducible refine rd_forS ?_
  | with_reducible refine rd_lcS ?_
  | with_reducible refine rd_lcR1 ?_
  | with_reducible refine rd_lcR2 ?_
  | with_reducible refine rd_forR1 ?_
  | with_reducible refine rd_forR2 ?_
  | with_reducible refine rd_forZ ?_
  | with_reducible refine rd_forR3 ?_
  | with_reducible refine rd_din ?_
  | with_reducible refine rd_dnotin ?_
  | with_reducible refine rd_dput ?_
  | with_reducible refine rd_dget2 ?_
  | with_reducible refine rd_forE ?_
  | with_reducible refine rd_lcE ?_
  | with_reducible refine rd_augS ?_
  | with_reducible refine rd_ipI ?_
  | ((with_reducible refine' rd_fsT ?h ?_); (case h => walk_at "sqt"))
  | ((with_reducible refine' rd_fsL ?h ?_); (case h => walk_at "sql"))
  | with_reducible refine rd_fsS ?_
  | ((with_reducible refine' rd_fr1 ?h1 ?h2 ?_); (case h1 => omega); (case h2 => omega))
  | ((with_reducible show ite _ _ _); first | refine iteT ?_ | refine iteF ?_))
local macro_rules | `(tactic| walk_at "lcn") => `(tactic| ((refine' rd_name ?h ?_); (case h => (first | (dsimp only [wipe, List.map, List.set]; done) | (dsimp only [wipe, List.map, List.set]; exact rfl))); refine ⟨rfl, ?_⟩; (try (refine rd_yes ?_; refine iteT ?_))))
local macro_rules | `(tactic| walk_at "exx") => `(tactic| first
  | assumption
  | exact Evl.Ex.refl _
  | ((refine' Evl.Ex.trans ?h ?e); (case e => assumption); (case h => walk_at "exx")))
local macro_rules | `(tactic| walk_at "ati") => `(tactic| first
  | exact atI_nat (j := 0) rfl
  | exact atI_nat (j := 1) rfl
  | exact atI_nat (j := 2) rfl
  | exact atI_nat (j := 3) rfl)
local macro_rules | `(tactic| walk_at "len") => `(tactic| first
  | decide
  | assumption
  | (simp; done)
  | (simp; omega)
  | omega)
local macro_rules | `(tactic| walk_at "rda1") => `(tactic| first
  | walk_at "rd1"
  | ((with_reducible refine' rd_ixT ?h ?e ?_); (case h => walk_at "sqt"); (case e => walk_at "ati"))
  | ((with_reducible refine' rd_ixL ?h ?e ?_); (case h => walk_at "sql"); (case e => walk_at "ati"))
  | ((with_reducible refine' new_tup ?q ?l); (case l => walk_at "len"); intro _ _ _ _ _)
  | ((with_reducible refine' new_lst ?q ?l); (case l => walk_at "len"); intro _ _ _ _ _)
  | ((with_reducible refine' rd_addL ?a ?b ?l ?q); (case a => walk_at "lst"); (case b => walk_at "lst"); (case l => walk_at "len"); intro _ _ _ _ _)
  | ((with_reducible refine' rd_addT ?a ?b ?l ?q); (case a => walk_at "sqt"); (case b => walk_at "sqt"); (case l => walk_at "len"); intro _ _ _ _)
  | ((with_reducible refine' rd_lstOfT ?a ?q); (case a => walk_at "sqt"); intro _ _ _ _ _)
  | ((with_reducible refine' rd_tupOfL ?a ?q); (case a => walk_at "sql"); intro _ _ _ _ _)
  | ((with_reducible refine' rd_slT ?a ?q); (case a => walk_at "sqt"); intro _ _ _ _)
  | ((with_reducible refine' rd_lenT ?a ?_); (case a => walk_at "sqt"))
  | ((with_reducible refine' rd_lenL ?a ?_); (case a => walk_at "sql")))
local macro_rules | `(tactic| walk_at "rda") => `(tactic| (repeat (walk_at "rda1")))
local macro_rules | `(tactic| walk_at "tvm") => `(tactic| first
  | exact TvA.nil
  | exact Tv.int _
  | exact Tv.bl _
  | exact Tv.str _ (by first | assumption | decide | decide +kernel)
  | exact Tv.non
  | walk_at "tv"
  | ((refine' Tv.tup ?h ?a); (case h => walk_at "sqt"); (case a => walk_at "tvm"))
  | ((refine' Tv.lst ?h); (case h => walk_at "sql"))
  | ((refine' TvA.cons ?h ?a); (case h => walk_at "tvm"); (case a => walk_at "tvm")))
local macro_rules | `(tactic| walk_at "rd") => `(tactic| (repeat (walk_at "rd1")))
local macro_rules | `(tactic| walk_at "vals") => `(tactic| first
  | exact Paired.nil
  | ((refine' Paired.cons ?a ?b); (case a => exact ⟨_, rfl⟩); (case b => walk_at "vals")))
local macro_rules | `(tactic| walk_at "tab") => `(tactic| first
  | exact Paired.nil
  | ((refine' ent_cons ?k ?s ?v ?b); (case k => k_is); (case s => decide); (case v => walk_at "vals"); (case b => walk_at "tab")))

namespace KF
section
variable {P : Program} {w : World} {K : PySem.W.Frag} {mg : Str → Option Value} {base : Heap} {H : Hp} {Q : VK} {E : XK}
def spWhole (K : PySem.W.Frag) : Sp := sp1 fun a H Q => ∃ t, Tv K H a t ∧ Q (.bl (isWhole t)) H
theorem k_is_whole (T : Tx K w mg) : Cal P w K mg base "is_whole" 1 pis_whole (spWhole K) := by
  refine cal1 T.F_is_whole scis_whole bis_whole rfl fun g cdv A outer s H a Q E hr h => ?_
  obtain ⟨t, ht, q⟩ := h
  refine ⟨_, (pss_one (ps_ret (pe_and (pe_callB call_isi (by rfl) T.m_isinstance (by decide +kernel) (pa_cons (pv 0) (pa_cons (pe_ty (n := "int") T.m_int (by decide +kernel)) pa_nil))) (pe_one (pe_not (pe_callB call_isi (by rfl) T.m_isinstance (by decide +kernel) (pa_cons (pv 0) (pa_cons (pe_ty (n := "bool") T.m_bool (by decide +kernel)) pa_nil)))))))), ?_⟩
  rw [tis_whole]
  try dsimp only [cxOf, Cx.nox, Cx.wish]
  cases t <;> (walk_at "rd"; exact q)
def spWithin (K : PySem.W.Frag) : Sp := sp3 fun a b c H Q => ∃ t lo hi, Tv K H a t ∧ b = .int lo ∧ c = .int hi ∧ Q (.bl (within t lo hi)) H
theorem k_is_within (T : Tx K w mg) (c_is_whole : Cal P w K mg base "is_whole" 1 pis_whole (spWhole K)) : Cal P w K mg base "is_within" 2 pis_within (spWithin K) := by
  refine cal3 T.F_is_within scis_within bis_within rfl fun g cdv A outer s H a b c Q E hr h => ?_
  obtain ⟨t, lo, hi, ht, rfl, rfl, q⟩ := h
  refine ⟨_, (pss_one (ps_ret (pe_and (pe_cal c_is_whole (hr.mono (by omega)) (pa_cons (pv 0) pa_nil)) (pe_one (pe_chain op_le op_le (pv 1) (pv 0) (pv 2)))))), ?_⟩
  rw [tis_within]
  try dsimp only [cxOf, Cx.nox, Cx.wish]
  walk_at "rd"
  refine rd_sp1 ⟨t, ht, ?_⟩
  walk_at "rd"
  cases t with
  | int i =>
    cases ht
    walk_at "rd"
    refine rd_ite (fun h1 => ?_) (fun h1 => ?_)
    · walk_at "rd"
      simpa [within, h1] using q
    · simpa [within, h1] using q
  | _ => walk_at "rd"; exact q
def spNum (K : PySem.W.Frag) : Sp := sp1 fun a H Q => ∃ t, Tv K H a t ∧ Q (.bl (isNum t)) H
def spPct (K : PySem.W.Frag) : Sp := sp1 fun a H Q => ∃ t, Tv K H a t ∧ Q (.bl (isPct t)) H
def spPlace (K : PySem.W.Frag) : Sp := sp2 fun a b H Q => ∃ t n, Tv K H a t ∧ b = .int n ∧ Q (.bl (isPlace t n)) H
def spWord (K : PySem.W.Frag) : Sp := sp1 fun a H Q => ∃ t, Tv K H a t ∧ Q (.bl (isWord t)) H
theorem k_is_number (T : Tx K w mg) (c_is_within : Cal P w K mg base "is_within" 2 pis_within (spWithin K)) : Cal P w K mg base "is_number" 3 pis_number (spNum K) := by
  refine cal1 T.F_is_number scis_number bis_number rfl fun g cdv A outer s H a Q E hr h => ?_
  obtain ⟨t, ht, q⟩ := h
  refine ⟨_, (pss_one (ps_ret (pe_cal c_is_within (hr.mono (by omega)) (pa_cons (pv 0) (pa_cons (pe_un un_neg (pe_gint T.g_FARTHEST)) (pa_cons (pe_gint T.g_FARTHEST) pa_nil)))))), ?_⟩
  rw [tis_number]
  try dsimp only [cxOf, Cx.nox, Cx.wish]
  walk_at "rd"
  exact rd_sp3 ⟨t, _, _, ht, rfl, rfl, q⟩
theorem k_is_percent (T : Tx K w mg) (c_is_within : Cal P w K mg base "is_within" 2 pis_within (spWithin K)) : Cal P w K mg base "is_percent" 3 pis_percent (spPct K) := by
  refine cal1 T.F_is_percent scis_percent bis_percent rfl fun g cdv A outer s H a Q E hr h => ?_
  obtain ⟨t, ht, q⟩ := h
  refine ⟨_, (pss_one (ps_ret (pe_cal c_is_within (hr.mono (by omega)) (pa_cons (pv 0) (pa_cons pe_int (pa_cons (pe_gint T.g_FULL_PERCENT) pa_nil)))))), ?_⟩
  rw [tis_percent]
  try dsimp only [cxOf, Cx.nox, Cx.wish]
  walk_at "rd"
  exact rd_sp3 ⟨t, _, _, ht, rfl, rfl, q⟩
theorem k_is_place (T : Tx K w mg) (c_is_whole : Cal P w K mg base "is_whole" 1 pis_whole (spWhole K)) (c_is_within : Cal P w K mg base "is_within" 2 pis_within (spWithin K)) : Cal P w K mg base "is_place" 3 pis_place (spPlace K) := by
  refine cal2 T.F_is_place scis_place bis_place rfl fun g cdv A outer s H a b Q E hr h => ?_
  obtain ⟨t, n, ht, rfl, q⟩ := h
  refine ⟨_, (pss_one (ps_ret (pe_and (pe_cal c_is_whole (hr.mono (by omega)) (pa_cons (pv 1) pa_nil)) (pe_one (pe_cal c_is_within (hr.mono (by omega)) (pa_cons (pv 0) (pa_cons pe_int (pa_cons (pe_op op_sub (pv 1) pe_int) pa_nil)))))))), ?_⟩
  rw [tis_place]
  try dsimp only [cxOf, Cx.nox, Cx.wish]
  walk_at "rd"
  refine rd_sp1 ⟨_, .int n, ?_⟩
  walk_at "rd"
  exact rd_sp3 ⟨t, _, _, ht, rfl, rfl, q⟩
theorem k_is_word (T : Tx K w mg) : Cal P w K mg base "is_word" 1 pis_word (spWord K) := by
  refine cal1 T.F_is_word scis_word bis_word rfl fun g cdv A outer s H a Q E hr h => ?_
  obtain ⟨t, ht, q⟩ := h
  refine ⟨_, (pss_cons (ps_if (PW.pt (pw_or (pt_not (pt_tru (pe_callB call_isi (by rfl) T.m_isinstance (by decide +kernel) (pa_cons (pv 0) (pa_cons (pe_ty (n := "str") T.m_str (by decide +kernel)) pa_nil))))) (pw_or1 (pt_not (pt_chain op_le op_le pe_int (pe_callB cr_lenA (by rfl) T.m_len (by decide +kernel) (pa_cons (pv 0) pa_nil)) (pe_gint T.g_LONGEST_WORD)))))) (pss_one (ps_ret pe_bl)) pss_nil) (pss_cons (ps_for PassesOwn.never rfl (pi_seq (pv 0)) (pg_name (i := 1) (scis_word).nd rfl (by first | exact Or.inl rfl | exact Or.inr rfl)) (pss_one (ps_if (pt_cmpR op_signOut (pv 1) (pe_gstr T.g_LETTERS) (by rfl)) (pss_one (ps_ret pe_bl)) pss_nil))) (pss_one (ps_ret pe_bl)))), ?_⟩
  rw [tis_word]
  try dsimp only [cxOf, Cx.nox, Cx.wish]
  cases t with
  | str x =>
    cases ht
    walk_at "rd"
    have ln : x.length = x.cps.toList.length := rfl
    refine rd_ite (fun h1 => ?_) (fun h1 => ?_)
    · walk_at "rd"
      refine rd_iteN (fun h2 => ?_) (fun h2 => ?_)
      · walk_at "rd"
        rw [isWord_str, decide_eq_false (show ¬ x.length ≤ 8 by omega), Bool.and_false, Bool.false_and] at q
        exact q
      · walk_at "rd"
        refine forW_S (fun i σ H2 => (∃ y, σ = [some (.str x), y]) ∧ H2 = H ∧ (x.cps.toList.take i).all inLet = true) ?_ ?_ ?_
        · exact ⟨⟨_, rfl⟩, rfl, rfl⟩
        · rintro i c σ H2 hc ⟨⟨y, rfl⟩, rfl, hall⟩
          walk_at "rd"
          refine rd_iteN (fun h3 => ?_) (fun h3 => ?_)
          · walk_at "rd"
            have e2 : x.cps.toList.all inLet = false := by
              rw [Bool.eq_false_iff]
              intro z
              exact h3 (of_decide_eq_true (List.all_eq_true.mp z c (List.mem_of_getElem? hc)))
            rw [isWord_str, e2, Bool.and_false] at q
            exact q
          · walk_at "rd"
            refine ⟨⟨_, rfl⟩, rfl, ?_⟩
            rw [List.take_add_one, hc, List.all_append, hall]
            show (true && (inLet c && true)) = true
            rw [show inLet c = true from decide_eq_true h3]
            rfl
        · rintro σ H2 ⟨⟨y, rfl⟩, rfl, hall⟩
          walk_at "rd"
          rw [ln, List.take_length] at hall
          rw [isWord_str, hall, decide_eq_true (show 1 ≤ x.length by omega), decide_eq_true (show x.length ≤ 8 by omega)] at q
          exact q
    · walk_at "rd"
      rw [isWord_str, decide_eq_false (show ¬ 1 ≤ x.length by omega), Bool.false_and, Bool.false_and] at q
      exact q
  | _ => walk_at "rd"; exact q
def spCell (K : PySem.W.Frag) : Sp := sp2 fun a b H Q => ∃ (l : Addr) (ns : List Int) (k : Nat), a = .ref l ∧ b = .int ((k : Nat) : Int) ∧ SqL K H l (ns.map V.int) ∧ ∀ r, Q (.int r) H
theorem k__law_cell_at (T : Tx K w mg) : Cal P w K mg base "_law_cell_at" 1 p_law_cell_at (spCell K) := by
  refine cal2 T.F__law_cell_at sc_law_cell_at b_law_cell_at rfl fun g cdv A outer s H a b Q E hr h => ?_
  obtain ⟨l, ns, k, rfl, rfl, hl, q⟩ := h
  refine ⟨_, (pss_cons (ps_if (pt_cmpR op_lt (pv 1) (pe_callB cr_lenA (by rfl) T.m_len (by decide +kernel) (pa_cons (pv 0) pa_nil)) (nomark _)) (pss_one (ps_ret (pe_ix ix_seq (pv 0) (pv 1) (fun _ _ => rfl)))) pss_nil) (pss_one (ps_ret pe_int))), ?_⟩
  rw [t_law_cell_at]
  try dsimp only [cxOf, Cx.nox, Cx.wish]
  walk_at "rd"
  refine rd_lenL hl ?_
  walk_at "rd"
  refine rd_ite (fun h1 => ?_) (fun h1 => ?_)
  · walk_at "rd"
    rw [List.length_map] at h1
    have hk : k < ns.length := by omega
    refine rd_ixL hl (atI_nat (j := k) (v := .int ns[k]) ?_) ?_
    · rw [List.getElem?_map, List.getElem?_eq_getElem hk]
      rfl
    · exact q _
  · walk_at "rd"
    exact q _
def spMixed (K : PySem.W.Frag) : Sp := sp2 fun a b H Q => ∃ c k, a = .int c ∧ b = .int k ∧ ∀ r, 0 ≤ r → r < 2147483647 → Q (.int r) H
theorem k__law_mixed (T : Tx K w mg) : Cal P w K mg base "_law_mixed" 1 p_law_mixed (spMixed K) := by
  refine cal2 T.F__law_mixed sc_law_mixed b_law_mixed rfl fun g cdv A outer s H a b Q E hr h => ?_
  obtain ⟨c, k, rfl, rfl, q⟩ := h
  refine ⟨_, (pss_one (ps_ret (pe_op op_mod (pe_op op_mul (pe_op op_addA (pv 0) (pe_op op_mul pe_int (pv 1))) pe_int) pe_int))), ?_⟩
  rw [t_law_mixed]
  try dsimp only [cxOf, Cx.nox, Cx.wish]
  walk_at "rd"
  exact q _ (by omega) (by omega)
def spNext (K : PySem.W.Frag) : Sp := sp2 fun a b H Q => ∃ l n, a = .ref l ∧ b = .int n ∧ (∃ s, H l = some (.lst [.int s])) ∧ 0 < n ∧ ∀ r H', 0 ≤ r → r < n → St1 l H H' → Q (.int r) H'
theorem k__law_next (T : Tx K w mg) : Cal P w K mg base "_law_next" 1 p_law_next (spNext K) := by
  refine cal2 T.F__law_next sc_law_next b_law_next rfl fun g cdv A outer s H a b Q E hr h => ?_
  obtain ⟨l, n, rfl, rfl, ⟨s0, hl⟩, hn, q⟩ := h
  refine ⟨_, (pss_cons (ps_asg (pe_op op_mod (pe_op op_addA (pe_op op_mul (pe_ix ix_seq (pv 0) pe_int (fun _ _ => rfl)) pe_int) pe_int) pe_int) (pg_sub (pv 0) pe_int set_list)) (pss_one (ps_ret (pe_op op_mod (pe_op op_fdiv (pe_ix ix_seq (pv 0) pe_int (fun _ _ => rfl)) pe_int) (pv 1))))), ?_⟩
  rw [t_law_next]
  try dsimp only [cxOf, Cx.nox, Cx.wish]
  walk_at "rd"
  refine rd_ixL (.of hl) (atI_nat (j := 0) rfl) ?_
  walk_at "rd"
  refine rd_setL hl (j := 0) rfl ?_
  walk_at "rd"
  refine rd_ixL (.of upd_same) (atI_nat (j := 0) rfl) ?_
  walk_at "rd"
  refine q _ _ (Int.emod_nonneg _ (by omega)) (Int.emod_lt_of_pos _ hn) ⟨fun b o hb e => by rw [upd_ne hb]; exact e, ⟨_, upd_same⟩, Tame.upd hl⟩
theorem nx {l : Addr} {n : Int} {E : XK} (h : ∃ s, H l = some (.lst [.int s])) (hn : 0 < n) (q : ∀ r H', 0 ≤ r → r < n → St1 l H H' → Q (.int r) H') : spNext K [.ref l, .int n] H Q E := rd_sp2 ⟨l, n, rfl, rfl, h, hn, q⟩
def spNo : Sp := fun _ _ _ _ => False
theorem cal_no {x : Str} {st : Stmt} {N ps : List Str} (F : FunAt K mg x st) (S : FnScope N ps (defScope st)) (hb : BindOk x st ps) : Cal P w K mg base x 1 ps spNo :=
  cal_mk F S hb (fun _ _ _ _ h => h.elim) fun _ _ _ _ _ _ _ _ _ _ h => h.elim
end
end KF
open PySem PySem.Spec PyProof.Rows L2 Qa Qr


namespace KF
section
variable {P : Program} {w : World} {K : PySem.W.Frag} {mg : Str → Option Value} {base : Heap} {H : Hp} {Q : VK} {E : XK}
def spBeh (K : PySem.W.Frag) (n : Nat) : Sp := sp2 fun a b H Q => ∃ t sz x, Tv K H a t ∧ b = .str x ∧ x ∈ five ∧ isRule sz n t = true ∧ n ≤ 8 ∧ ∀ p H', H p = none → Ex H H' → H' p = some (.lst ((beh x n t).map kV)) → Q (.ref p) H'
theorem k_beh {n m : Nat} (T : Tx K w mg) (c__behind : Cal P w K mg base "_behind" m p_behind (spBeh K n)) : Cal P w K mg base "_behind" (m + 1) p_behind (spBeh K (n + 1)) := by
  refine cal2 T.F__behind sc_behind b_behind rfl fun g cdv A outer s H a b Q E hr h => ?_
  obtain ⟨t, sz, wd, ht, rfl, hx, hrule, hn, q⟩ := h
  obtain ⟨dP, h_PARTS, tP⟩ := T.g_PARTS
  refine ⟨_, (pss_cons (ps_set (i := 2) (sc_behind).nd rfl (by first | exact Or.inl rfl | exact Or.inr rfl) (pe_lst pa_nil)) (Evl.pss_cut (ps_if (pt_cmpR (op_eqA hr) (pe_ix ix_seq (pv 0) pe_int (fun _ _ => rfl)) (pv 1) (nomark _)) (pss_one (ps_expr (pe_bm PySem.F.plainAttrs_list PySem.F.slot_list_append PySem.F.type_list_append mt_append (pv 2) (pa_cons (pe_ix ix_seq (pv 0) pe_int (fun _ _ => rfl)) pa_nil)))) pss_nil) (pss_cons (ps_for PassesOwn.never rfl (RZ.pi_zipA (by rfl) T.m_zip (pa_cons (pe_slice sl_any (pv 0) (po_some pe_int) po_none) (pa_cons (pe_ix ix_kdict (pe_gtab h_PARTS) (pe_ix ix_seq (pv 0) pe_int (fun _ _ => rfl)) (fun _ _ => rfl)) pa_nil))) (pg_tup (n := 2) rfl (pgs_cons (pg_name (i := 3) (sc_behind).nd rfl (by first | exact Or.inl rfl | exact Or.inr rfl)) (pgs_cons (pg_name (i := 4) (sc_behind).nd rfl (by first | exact Or.inl rfl | exact Or.inr rfl)) pgs_nil))) (pss_one (ps_if (pt_cmpR (op_eqA hr) (pv 4) pe_str (nomark _)) (pss_one (ps_expr (pe_bm PySem.F.plainAttrs_list PySem.F.slot_list_extend PySem.F.type_list_extend mt_extend (pv 2) (pa_cons (pe_cal c__behind (hr.mono (by omega)) (pa_cons (pv 3) (pa_cons (pv 1) pa_nil))) pa_nil)))) pss_nil))) (pss_one (ps_ret (pv 2)))))), ?_⟩
  rw [t_behind]
  try dsimp only [cxOf, Cx.nox, Cx.wish]
  obtain ⟨x, ts, ks, rfl, e, hl, hz⟩ := rule_of hrule
  have ekd : kindsD x = ks := by unfold kindsD; rw [e]
  have bl : (beh wd (n + 1) (.tup (.str x :: ts))).length ≤ 3280 := Nat.le_trans (beh_len wd (n + 1) _) (Nat.le_trans (B_mono hn) (by decide))
  rw [beh_at, ekd] at q bl
  obtain ⟨p, xs, rfl, hs, ha⟩ := ht.tupE
  walk_at "rd"
  refine new_lst fun f H1 hf E1 h1 => ?_
  walk_at "rd"
  refine rd_cut (fun σ H' => σ = [some (.ref p), some (.str wd), some (.ref f), none, none] ∧ Ex H H' ∧ H' f = some (.lst ((if x = wd then headK ts else []).map kV))) ?_ ?_
  · walk_at "rd"
    refine rd_ixD (n := 0) (tv_ex ht E1) rfl rfl fun v hv => ?_
    cases hv
    walk_at "rd"
    refine rd_ite (fun h2 => ?_) (fun h2 => ?_)
    · subst h2
      obtain ⟨t1, r, k, rfl, ek, _⟩ := head_key hx e hl hz
      walk_at "rd"
      refine rd_ixD (n := 1) (tv_ex ht E1) rfl rfl fun v hv => ?_
      rw [keyT_tv hv ek]
      walk_at "rd"
      refine rd_append h1 (by decide) ?_
      walk_at "rd"
      refine ⟨rfl, ex_new hf E1, ?_⟩
      rw [upd_same, if_pos rfl]
      show _ = some (HO.lst ((keyT t1).map kV))
      rw [ek]
      rfl
    · walk_at "rd"
      refine ⟨rfl, E1, ?_⟩
      rw [if_neg h2]
      exact h1
  rintro σ H2 ⟨rfl, E2, h2⟩
  walk_at "rd"
  refine rd_slT (sqt_ex hs E2) fun r H3 E3 hr3 => ?_
  rw [cutV_tail] at hr3
  walk_at "rd"
  refine rd_ixD (n := 0) (tv_ex (tv_ex ht E2) E3) rfl rfl fun v hv => ?_
  cases hv
  walk_at "rd"
  refine rd_ixTab tP e fun r2 hr2 => ?_
  walk_at "rd"
  refine rd_fzT hr3 hr2 ?_
  have ha' : TvA K H (xs.drop 1) ts := ha.drop 1
  have lx : (xs.drop 1).length = ts.length := ha'.len
  have E03 : Ex H H3 := E2.trans E3
  refine forW_Z (xs.drop 1) (ks.map V.str) (n := ts.length) (by rw [List.length_map, lx]; omega) (fun i σ H' => (∃ y z, σ = [some (.ref p), some (.str wd), some (.ref f), y, z]) ∧ Ex H H' ∧ SqT K H' r (xs.drop 1) ∧ SqT K H' r2 (ks.map V.str) ∧ ∃ acc, H' f = some (.lst (acc.map kV)) ∧ acc ++ behs (beh wd n) (ts.drop i) (ks.drop i) = (if x = wd then headK ts else []) ++ behs (beh wd n) ts ks) ?_ ?_ ?_ ?_
  · exact ⟨⟨_, _, rfl⟩, E03, hr3, hr2, _, lst_ex h2 E3, rfl⟩
  · rintro i σ H' hi ⟨_, _, a, b, _⟩
    exact ⟨a, b⟩
  · rintro i y z c σ H4 H5 hi ⟨⟨y0, z0, rfl⟩, E4, sr, sr2, acc, hacc, eacc⟩ hy hzz hc e5 hcT
    have a5 : TvA K H5 (xs.drop 1) ts := tva_ex (tva_ex ha' E4) e5
    obtain ⟨ty, hty, vy⟩ := a5.getV hy
    rw [List.getElem?_map] at hzz
    cases ek : ks[i]? with
    | none => rw [ek] at hzz; cases hzz
    | some k =>
      rw [ek] at hzz
      cases (Option.some.inj hzz)
      refine rd_gtup (SqT.of hcT) rfl ?_
      walk_at "rd"
      have ed := behs_drop (beh wd n) ts ks i ty k hty ek
      rw [ed] at eacc
      refine rd_ite (fun h6 => ?_) (fun h6 => ?_)
      · subst h6
        rw [if_pos rfl] at eacc
        have hacc5 : H5 f = _ := lst_ex hacc e5
        walk_at "rd"
        have hrt : isRule sz n ty = true := zipOk_at hz hty ek
        refine rd_sp2 ⟨ty, sz, wd, vy, rfl, hx, hrt, by omega, fun p6 H6 hp6 E6 h6 => ?_⟩
        walk_at "rd"
        have la : acc.length + (beh wd n ty).length ≤ 3280 := by
          have := congrArg List.length eacc
          rw [List.length_append, List.length_append] at this
          omega
        refine rd_extend (lst_ex hacc5 E6) h6 (by rw [List.length_map, List.length_map]; omega) ?_
        walk_at "rd"
        refine ⟨⟨_, _, rfl⟩, ex_new hf ((E4.trans e5).trans E6), ?_, ?_, acc ++ beh wd n ty, by rw [upd_same, List.map_append], by rw [List.append_assoc]; exact eacc⟩
        · exact (Tame.upd (lst_ex hacc5 E6)).sqT (sqt_ex (sqt_ex sr e5) E6)
        · exact (Tame.upd (lst_ex hacc5 E6)).sqT (sqt_ex (sqt_ex sr2 e5) E6)
      · rw [if_neg h6, List.nil_append] at eacc
        walk_at "rd"
        exact ⟨⟨_, _, rfl⟩, E4.trans e5, sqt_ex sr e5, sqt_ex sr2 e5, acc, lst_ex hacc e5, eacc⟩
  · rintro σ H' ⟨⟨y, z, rfl⟩, E4, _, _, acc, hacc, eacc⟩
    walk_at "rd"
    rw [behs_end _ _ _ _ (Nat.le_refl _), List.append_nil] at eacc
    rw [← eacc] at q
    exact q f H' hf E4 hacc
theorem k_behn (T : Tx K w mg) : ∀ n : Nat, Cal P w K mg base "_behind" (1 + n) p_behind (spBeh K n)
  | 0 => cal_mk (k := 0) T.F__behind sc_behind b_behind (fun vs H Q E h => by obtain ⟨a, b, rfl, _⟩ := h; rfl) fun _ _ _ _ _ _ vs Q E _ h => by
      obtain ⟨a, b, rfl, t, sz, x, _, _, _, hr, _⟩ := h
      cases hr
  | n + 1 => k_beh T (k_behn T n)
def spNamed (K : PySem.W.Frag) : Sp := sp2 fun a b H Q => ∃ t sz x, Tv K H a t ∧ b = .str x ∧ x ∈ five ∧ isRule sz 8 t = true ∧ ∀ p H' ls, keysOf (beh x 8 t) ls → H p = none → Ex H H' → H' p = some (.lst (ls.map kV)) → Q (.ref p) H'
theorem k_named (T : Tx K w mg) (c__behind : Cal P w K mg base "_behind" 9 p_behind (spBeh K 8)) : Cal P w K mg base "named" 10 pnamed (spNamed K) := by
  refine cal2 T.F_named scnamed bnamed rfl fun g cdv A outer s H a b Q E hr h => ?_
  obtain ⟨t, sz, wd, ht, rfl, hx, hrule, q⟩ := h
  refine ⟨_, (pss_one (ps_ret (pe_callB (cr_sortedA rfl) (by rfl) T.m_sorted (by decide +kernel) (pa_cons (pe_callTy (Qs.cr_setL rfl) (by rfl) T.m_set (by decide +kernel) (pa_cons (pe_cal c__behind (hr.mono (by omega)) (pa_cons (pv 0) (pa_cons (pv 1) pa_nil))) pa_nil)) pa_nil)))), ?_⟩
  rw [tnamed]
  try dsimp only [cxOf, Cx.nox, Cx.wish]
  walk_at "rd"
  refine rd_sp2 ⟨t, sz, wd, ht, rfl, hx, hrule, by omega, fun p H1 hp E1 h1 => ?_⟩
  walk_at "rd"
  have bl : (beh wd 8 t).length ≤ 3280 := Nat.le_trans (beh_len wd 8 t) (by decide)
  refine rd_setK (.of h1) (by omega) fun p2 H2 hp2 E2 h2 => ?_
  walk_at "rd"
  have hk : ∀ k ∈ Qs.foldK (beh wd 8 t), kd wd k := fun k hk => beh_kd hx 8 t hrule k (Qs.mem_foldK.mp hk)
  refine rd_sortSetK h2 (hom_kd hk) fun ks' p3 H3 pm sr hp3 E3 h3 => ?_
  have E13 := (E1.trans E2).trans E3
  refine q p3 H3 ks' ⟨sr, pm.nodup_iff.mpr (foldl_nodup _ [] .nil), fun k => (pm.mem_iff).trans Qs.mem_foldK⟩ ?_ E13 h3
  cases e : H p3 with
  | none => rfl
  | some o =>
    have := (E1.trans E2) p3 o e
    rw [hp3] at this
    cases this
end
end KF
open PySem PySem.Spec PyProof.Rows L2 Qa Qr
open Qg


namespace KF
section
variable {P : Program} {w : World} {K : PySem.W.Frag} {mg : Str → Option Value} {base : Heap} {H : Hp} {Q : VK} {E : XK}
theorem nmOf_get (ts : List T) (i : Nat) : (nmOf ts)[i]? = (ts[i]?).map fun t => rowK ts.length (beh "line" 8 t) := by rw [nmOf, List.getElem?_map]
theorem five_line : ("line" : Str) ∈ five := by decide
theorem line_keys {sz : Sz} {t : T} (h : isRule sz 8 t = true) {ls : List Key} (hl : keysOf (beh "line" 8 t) ls) : ∃ ns : List Int, ls = ns.map Sum.inl := by
  have hk : ∀ k ∈ ls, kd "line" k := fun k hk => beh_kd five_line 8 t h k ((hl.2.2 k).mp hk)
  clear hl
  induction ls with
  | nil => exact ⟨[], rfl⟩
  | cons k ls ih =>
    obtain ⟨ns, rfl⟩ := ih fun k hk' => hk k (List.mem_cons_of_mem _ hk')
    cases k with
    | inl i => exact ⟨i :: ns, rfl⟩
    | inr x => exact absurd (hk _ List.mem_cons_self).1 (by decide)
def spLinesNamed (K : PySem.W.Frag) : Sp := sp1 fun a H Q => ∃ l vs ts sz, a = .ref l ∧ SqL K H l vs ∧ TvA K H vs ts ∧ (∀ t ∈ ts, isRule sz 8 t = true) ∧ ts.length ≤ 40 ∧ ∀ p H', NmAt H' p (nmOf ts) → H p = none → Ex H H' → Q (.ref p) H'
theorem k__lines_named (T : Tx K w mg) (c_named : Cal P w K mg base "named" 10 pnamed (spNamed K)) (c_is_place : Cal P w K mg base "is_place" 3 pis_place (spPlace K)) : Cal P w K mg base "_lines_named" 11 p_lines_named (spLinesNamed K) := by
  refine cal1 T.F__lines_named sc_lines_named b_lines_named rfl fun g cdv A outer s H a Q E hr h => ?_
  obtain ⟨l, vs, ts, sz, rfl, hl, hts, hru, hn, q⟩ := h
  refine ⟨_, (pss_one (ps_ret (pe_lc (own := [("rule", 2)]) rfl (sc_lines_named).nd (pi_seq (pv 0)) (blkOk_by (N := n_lines_named) (sc := defScope s_lines_named) (by decide +kernel)) (fun _ _ _ _ _ => (pg_name (i := 2) (sc_lines_named).nd rfl (by first | exact Or.inl rfl | exact Or.inr rfl))) (fun _ _ _ _ _ => pts_nil) (fun _ _ _ _ _ => (pe_lc (own := [("line", 1)]) rfl (sc_lines_named).nd (pi_seqK (K := K) rfl (pe_cal c_named (hr.mono (by omega)) (pa_cons (pv 2) (pa_cons pe_str pa_nil)))) (blkOk_in (N := n_lines_named) (by decide +kernel)) (fun _ _ _ _ _ => (pg_name (i := 1) (sc_lines_named).nd rfl (by first | exact Or.inl rfl | exact Or.inr rfl))) (fun _ _ _ _ _ => (pts_one (pt_truK (K := K) rfl (pe_cal c_is_place (hr.mono (by omega)) (pa_cons (pv 1) (pa_cons (pe_callB (lenK (K := K) rfl) (by rfl) T.m_len (by decide +kernel) (pa_cons (pv 0) pa_nil)) pa_nil)))))) (fun _ _ _ _ _ => (pv 1))))))), ?_⟩
  rw [t_lines_named]
  try dsimp only [cxOf, Cx.nox, Cx.wish]
  have lv : vs.length = ts.length := hts.len
  walk_at "rda"
  refine lcW_L vs (fun D i H' => ∃ as : List Addr, H' D = some (.lst (as.map V.ref)) ∧ as.length = i ∧ Ex H H' ∧ ∀ (j : Nat) (r : List Nat), j < i → (nmOf ts)[j]? = some r → ∃ a, as[j]? = some a ∧ a ≠ D ∧ H' a = some (.lst (r.map iv))) ?_ ?_ ?_ ?_
  · exact fun D H' hD e h => ⟨[], h, rfl, e, fun j r hj => absurd hj (Nat.not_lt_zero _)⟩
  · rintro D i H' hD hi ⟨as, _, _, e, _⟩
    exact sql_ex hl e
  · rintro D i v H' hD hv ⟨as, hD', la, e, hrows⟩
    obtain ⟨t, ht, vt⟩ := hts.getV hv
    have hi : i < ts.length := (List.getElem?_eq_some_iff.mp ht).1
    have hrule := hru t (List.mem_of_getElem? ht)
    walk_at "lcn"
    walk_at "rd"
    refine rd_sp2 ⟨t, sz, "line", tv_ex vt e, rfl, five_line, hrule, fun p H1 ls hls hp E1 h1 => ?_⟩
    walk_at "rd"
    obtain ⟨ns, en⟩ := line_keys hrule hls
    have hD1 : H1 D = some (.lst (as.map V.ref)) := E1 _ _ hD'
    refine lcW_L (ls.map kV) (fun D2 j H' => H' D2 = some (.lst (((ls.take j).filter (placeK ts.length)).map kV)) ∧ Ex H1 H') ?_ ?_ ?_ ?_
    · exact fun D2 H' hD2 e h => ⟨h, e⟩
    · rintro D2 j H' hD2 hj ⟨_, e⟩
      exact sql_ex (.of h1) e
    · rintro D2 j u H2 hD2 hu ⟨hacc, E2⟩
      rw [List.getElem?_map] at hu
      cases eu : ls[j]? with
      | none => rw [eu] at hu; cases hu
      | some k =>
        rw [eu] at hu
        cases (Option.some.inj hu)
        have hj : j < ls.length := (List.getElem?_eq_some_iff.mp eu).1
        have et : ls.take (j + 1) = ls.take j ++ [k] := by rw [List.take_add_one, eu]; rfl
        obtain ⟨x, ex⟩ : ∃ x : Int, k = .inl x := by
          have hm := List.mem_of_getElem? eu
          rw [en] at hm
          obtain ⟨x, _, e⟩ := List.mem_map.mp hm
          exact ⟨x, e.symm⟩
        subst ex
        walk_at "lcn"
        walk_at "rd"
        refine rd_lenL (sql_ex (sql_ex (sql_ex hl e) E1) E2) ?_
        walk_at "rd"
        refine rd_sp2 ⟨.int x, _, .int x, rfl, ?_⟩
        walk_at "rd"
        have ep : isPlace (.int x) ((vs.length : Nat) : Int) = placeK ts.length (.inl x) := by
          show (decide (0 ≤ x) && decide (x ≤ ((vs.length : Nat) : Int) - 1)) = (decide (0 ≤ x) && decide (x < (ts.length : Int)))
          rw [lv]
          congr 1
          rw [decide_eq_decide]
          omega
        rw [ep]
        cases em : placeK ts.length (.inl x) with
        | false =>
          walk_at "rd"
          refine ⟨?_, E2⟩
          rw [et, List.filter_append, List.filter_cons_of_neg (by rw [em]; exact Bool.false_ne_true), List.filter_nil, List.append_nil]
          exact hacc
        | true =>
          walk_at "rd"
          refine ⟨_, hacc, ?_, ?_, ex_new hD2 E2⟩
          · rw [List.length_map, sizeLine_eq]
            have := List.length_filter_le (placeK ts.length) (ls.take j)
            rw [List.length_take] at this
            have hb : ls.length ≤ 4000 := Nat.le_trans (keysOf_len hls) (Nat.le_trans (beh_len "line" 8 t) (by decide))
            omega
          · rw [upd_same, et, List.filter_append, List.filter_cons_of_pos em, List.filter_nil, List.map_append]
            rfl
    · rintro D2 H2 hD2 ⟨hacc, E2⟩
      rw [List.length_map, List.take_length, places_row hls, iv_key] at hacc
      walk_at "rd"
      have hD2' : H2 D = some (.lst (as.map V.ref)) := E2 _ _ hD1
      have nD : D2 ≠ D := by rintro rfl; rw [hD1] at hD2; cases hD2
      refine ⟨_, hD2', by rw [List.length_map, sizeLine_eq]; omega, as ++ [D2], by rw [upd_same, List.map_append]; rfl, by rw [List.length_append, la]; rfl, ex_new hD ((e.trans E1).trans E2), fun j r hj hr => ?_⟩
      by_cases ej : j = i
      · subst ej
        refine ⟨D2, by rw [List.getElem?_append_right (by omega), la, Nat.sub_self]; rfl, nD, ?_⟩
        rw [upd_ne nD, hacc]
        rw [nmOf_get, ht] at hr
        cases hr
        rfl
      · obtain ⟨a, ha, hne, hh⟩ := hrows j r (by omega) hr
        refine ⟨a, by rw [List.getElem?_append_left (by omega)]; exact ha, hne, ?_⟩
        rw [upd_ne hne]
        exact E2 _ _ (E1 _ _ hh)
  · rintro D H' hD ⟨as, hD', la, e, hrows⟩
    walk_at "rd"
    refine q D H' ⟨as, hD', by rw [la, lv, nmOf_len], fun i r hr => ?_⟩ hD e
    have hi : i < (nmOf ts).length := (List.getElem?_eq_some_iff.mp hr).1
    rw [nmOf_len] at hi
    obtain ⟨a, ha, _, hh⟩ := hrows i r (by omega) hr
    exact ⟨a, ha, hh⟩
def spRingFrom (K : PySem.W.Frag) : Sp := sp2 fun a b H Q => ∃ nl nm f, a = .ref nl ∧ b = iv f ∧ NmAt H nl nm ∧ Rows nm ∧ f < nm.length ∧ nm.length ≤ 40 ∧ ∀ p r H', IsBst nm f r → H p = none → Ex H H' → H' p = some (.lst (r.map iv)) → Q (.ref p) H'
structure RF (H : Hp) (nm : List (List Nat)) (pl dl : Addr) (R : List Nat) (Qs : List (List Nat)) (H' : Hp) : Prop where
  ex : Ex H H'
  pl : ∃ as, H' pl = some (.lst (as.map V.ref)) ∧ Pths H H' pl as Qs
  dl : ∃ kvs, H' dl = some (.dK kvs) ∧ KsAt kvs R
  lt : ∀ x, x ∈ R → x < nm.length
theorem k__ring_from (T : Tx K w mg) : Cal P w K mg base "_ring_from" 1 p_ring_from (spRingFrom K) := by
  refine cal2 T.F__ring_from sc_ring_from b_ring_from rfl fun g cdv A outer s H a b Q E hr h => ?_
  obtain ⟨nl, nm, f, rfl, rfl, hnm, hrows, hf, hn, q⟩ := h
  refine ⟨_, (pss_cons (ps_set (i := 2) (sc_ring_from).nd rfl (by first | exact Or.inl rfl | exact Or.inr rfl) (pe_lst (pa_cons (pe_lst (pa_cons (pv 1) pa_nil)) pa_nil))) (pss_cons (ps_set (i := 3) (sc_ring_from).nd rfl (by first | exact Or.inl rfl | exact Or.inr rfl) (pe_disp (pps_cons (pv 1) pe_bl pps_nil) (by rfl) (by rfl) (fun z => by cases z) (by decide))) (pss_cons (ps_while PassesOwn.never (pt_tru (pv 2)) (pss_cons (ps_set (i := 4) (sc_ring_from).nd rfl (by first | exact Or.inl rfl | exact Or.inr rfl) (pe_bm PySem.F.plainAttrs_list PySem.F.slot_list_pop PySem.F.type_list_pop mt_popAt (pv 2) (pa_cons pe_int pa_nil))) (pss_one (ps_for PassesOwn.never rfl (pi_seq (pe_ix ix_seq (pv 0) (pe_ix ix_seq (pv 4) (pe_un un_neg pe_int) (fun _ _ => rfl)) (fun _ _ => rfl))) (pg_name (i := 5) (sc_ring_from).nd rfl (by first | exact Or.inl rfl | exact Or.inr rfl)) (pss_cons (ps_if (pt_cmpR (op_eqA hr) (pv 5) (pv 1) (nomark _)) (pss_one (ps_ret (pv 4))) pss_nil) (pss_one (ps_if (pt_cmp (pc_dnotin (hu_of hr) (pv 5) (pv 3))) (pss_cons (ps_dput (hu_of hr) (pv 3) (pv 5) pe_bl rfl) (pss_one (ps_expr (pe_bm PySem.F.plainAttrs_list PySem.F.slot_list_append PySem.F.type_list_append mt_append (pv 2) (pa_cons (pe_op op_addA (pv 4) (pe_lst (pa_cons (pv 5) pa_nil))) pa_nil))))) pss_nil))))))) (pss_one (ps_ret (pe_lst pa_nil)))))), ?_⟩
  rw [t_ring_from]
  try dsimp only [cxOf, Cx.nox, Cx.wish]
  walk_at "rd"
  refine new_lst fun p0 H1 hp0 E1 h1 => ?_
  walk_at "rd"
  refine new_lst fun pl H2 hpl E2 h2 => ?_
  walk_at "rd"
  refine rd_disp fun dl hdl => ?_
  refine rd_pcons ?_
  walk_at "rd"
  refine rd_pnil ⟨upd_same, [(ik f, .bl true)], rfl, by show 1 ≤ 15; decide, ?_⟩
  have em : mergeK [] [(ik f, V.bl true)] = [(ik f, .bl true)] := rfl
  rw [em]
  generalize eH : upd (upd H2 dl (.dK [])) dl (.dK [(ik f, .bl true)]) = H3
  have h3 : H3 dl = some (.dK [(ik f, .bl true)]) := by rw [← eH]; exact upd_same
  have E3 : Ex H2 H3 := by
    intro b o hb
    have ne : b ≠ dl := by rintro rfl; rw [hdl] at hb; cases hb
    rw [← eH, upd_ne ne, upd_ne ne]
    exact hb
  clear eH
  have E13 : Ex H H3 := (E1.trans E2).trans E3
  have hplH : H pl = none := free_of E1 hpl
  have hdlH : H dl = none := free_of (E1.trans E2) hdl
  have npl : p0 ≠ pl := by rintro rfl; rw [h1] at hpl; cases hpl
  walk_at "rd"
  refine rd_while (m0 := 2 * (nm.length - 1) + 1) (fun m σ H' => ∃ D Qs R x y, BI nm f D Qs R ∧ RF H nm pl dl R Qs H' ∧ σ = [some (.ref nl), some (iv f), some (.ref pl), some (.ref dl), x, y] ∧ m = 2 * (nm.length - R.length) + Qs.length) ?_ ?_
  · refine ⟨[], [[f]], [f], _, _, BI.start, ⟨E13, ⟨[p0], E3 _ _ h2, .cons hp0 npl (E3 _ _ (E2 _ _ h1)) .nil⟩, ⟨_, h3, rfl, fun y => ?_⟩, fun x hx => ?_⟩, rfl, rfl⟩
    · by_cases e : y = f
      · subst e
        rw [valV_pos rfl]
        simp
      · rw [valV_neg (fun z => e (by have := Sum.inl.inj z; omega))]
        simp [e]
        rfl
    · have e : x = f := by simpa using hx
      subst e
      exact hf
  rintro m σ H4 ⟨D, Qs, R, x0, y0, I, F, rfl, rfl⟩
  obtain ⟨as, hpl4, hpt⟩ := F.pl
  walk_at "rd"
  refine rd_truL (.of hpl4) ?_
  cases hpt with
  | nil =>
    walk_at "rd"
    refine new_lst fun p H5 hp E5 h5 => ?_
    exact q p [] H5 (.inl ⟨rfl, I.none⟩) (free_of F.ex hp) (F.ex.trans E5) h5
  | @cons pa p as Qs ha hne hpa hpt =>
    walk_at "rd"
    refine rd_wN ?_
    walk_at "rd"
    refine rd_pop0 hpl4 ?_
    generalize eH : upd H4 pl (.lst (as.map V.ref)) = H5
    have h5 : H5 pl = some (.lst (as.map V.ref)) := by rw [← eH]; exact upd_same
    have k5 : ∀ b, b ≠ pl → H5 b = H4 b := fun b hb => by rw [← eH, upd_ne hb]
    have E5 : Ex H H5 := by rw [← eH]; exact ex_new hplH F.ex
    clear eH
    obtain ⟨x, hxR, hw⟩ := I.wk p (by simp)
    obtain ⟨v, ev⟩ := walk_split hw
    have hx : x < nm.length := F.lt x hxR
    have hpa5 : H5 pa = some (.lst (p.map iv)) := by rw [k5 pa hne]; exact hpa
    walk_at "rd"
    refine rd_ixL (.of hpa5) (by rw [ev, List.map_append]; exact atI_last _ _) ?_
    obtain ⟨rs, hnl, lrs, hrs⟩ := hnm
    obtain ⟨ra, hra, hrow⟩ := hrs x _ (List.getElem?_eq_getElem hx)
    have erow : nm[x] = row nm x := by unfold row; rw [List.getElem?_eq_getElem hx]; rfl
    rw [erow] at hrow
    refine rd_ixL (.of (E5 _ _ hnl)) (atI_nat (j := x) (v := .ref ra) (by rw [List.getElem?_map, hra]; rfl)) ?_
    walk_at "rd"
    have hup := hrows.at x
    refine forW_L ((row nm x).map iv) (fun i σ H' => ∃ A R' as' y, BS nm f D p Qs A R' ((row nm x).take i) ∧ Ex H H' ∧ H' pl = some (.lst (as'.map V.ref)) ∧ Pths H H' pl as' (Qs ++ A) ∧ (∃ kvs, H' dl = some (.dK kvs) ∧ KsAt kvs R') ∧ (∀ x, x ∈ R' → x < nm.length) ∧
      H' pa = some (.lst (p.map iv)) ∧ σ = [some (.ref nl), some (iv f), some (.ref pl), some (.ref dl), some (.ref pa), y] ∧ 2 * (nm.length - R'.length) + (Qs ++ A).length + 1 ≤ 2 * (nm.length - R.length) + (p :: Qs).length) ?_ ?_ ?_ ?_
    · obtain ⟨kvs, hdl4, hks⟩ := F.dl
      have ndl : dl ≠ pl := by rintro rfl; rw [hpl4] at hdl4; cases hdl4
      refine ⟨[], R, as, _, I.open, E5, h5, ?_, ⟨kvs, by rw [k5 dl ndl]; exact hdl4, hks⟩, F.lt, hpa5, rfl, by rw [List.append_nil, List.length_cons]; omega⟩
      rw [List.append_nil]
      exact hpt.mv fun a xs ha h => by rw [k5 a ha]; exact h
    · rintro i σ H' hi ⟨A, R', as', y, _, e, _⟩
      exact .of (e _ _ hrow)
    · rintro i u σ H6 hu ⟨A, R', as', y0, I6, E6, hpl6, hpt6, ⟨kvs, hdl6, hks6⟩, hlt6, hpa6, rfl, hm6⟩
      rw [List.getElem?_map] at hu
      cases eu : (row nm x)[i]? with
      | none => rw [eu] at hu; cases hu
      | some y =>
      rw [eu] at hu
      cases (Option.some.inj hu)
      have hi : i < (row nm x).length := (List.getElem?_eq_some_iff.mp eu).1
      have hy : y ∈ row nm x := List.mem_of_getElem? eu
      have et : (row nm x).take (i + 1) = (row nm x).take i ++ [y] := by rw [List.take_add_one, eu]; rfl
      have hs : ∀ z, z ∈ (row nm x).take i → z < y := by
        intro z hz
        have hup2 : ((row nm x).take (i + 1)).Pairwise (· < ·) := hup.2.sublist (List.take_sublist _ _)
        rw [et] at hup2
        exact (List.pairwise_append.mp hup2).2.2 z hz y (by simp)
      walk_at "rd"
      refine rd_ite (fun h7 => ?_) (fun h7 => ?_)
      · have ey : y = f := by omega
        subst ey
        walk_at "rd"
        exact q pa p H6 (.inr (I.found hw hy)) ha E6 hpa6
      · have ny : y ≠ f := fun z => h7 (by rw [z])
        walk_at "rd"
        refine rd_dinI hdl6 ?_
        rw [hks6.2 y]
        walk_at "rd"
        refine rd_iteN (fun h8 => ?_) (fun h8 => ?_)
        · walk_at "rd"
          have hRl : R'.length < nm.length := by
            have := nodup_lt (n := nm.length) (l := R' ++ [y]) (by
              rw [List.nodup_append]
              refine ⟨I6.nd, by simp, fun a ha b hb => ?_⟩
              have e : b = y := by simpa using hb
              subst e
              rintro rfl
              exact h8 ha) (fun z hz => by
              rcases List.mem_append.mp hz with hz | hz
              · exact hlt6 z hz
              · have e : z = y := by simpa using hz
                subst e
                exact hup.1 z hy)
            rw [List.length_append] at this
            exact this
          refine rd_dputI hdl6 (by rw [hks6.1]; omega) ?_
          generalize eH : upd H6 dl _ = H7
          have h7d : H7 dl = some (.dK (putK kvs (ik y) (.bl true))) := by rw [← eH]; exact upd_same
          have k7 : ∀ b, b ≠ dl → H7 b = H6 b := fun b hb => by rw [← eH, upd_ne hb]
          have E7 : Ex H H7 := by rw [← eH]; exact ex_new hdlH E6
          clear eH
          have nl7 : ∀ a xs, H6 a = some (.lst xs) → a ≠ dl := by
            rintro a xs h rfl
            rw [hdl6] at h; cases h
          have hpl7 : H7 pl = some (.lst (as'.map V.ref)) := by rw [k7 pl (nl7 _ _ hpl6)]; exact hpl6
          have hpa7 : H7 pa = some (.lst (p.map iv)) := by rw [k7 pa (nl7 _ _ hpa6)]; exact hpa6
          walk_at "rd"
          refine new_lst fun p8 H8 hp8 E8 h8l => ?_
          have lnp : p.length ≤ 41 := by
            have h1 := I6.pl
            have h2 := I6.ln
            rw [List.length_append, List.length_append] at h2
            have : R'.length ≤ nm.length := by omega
            show p.length ≤ 41
            omega
          refine rd_addL (E8 _ _ hpa7) h8l (by rw [List.length_map]; show _ + 1 ≤ 1000; omega) fun p9 H9 hp9 E9 h9 => ?_
          walk_at "rd"
          have hpl9 : H9 pl = some (.lst (as'.map V.ref)) := E9 _ _ (E8 _ _ hpl7)
          have las : as'.length ≤ 41 := by
            rw [hpt6.len]
            have h2 := I6.ln
            rw [List.length_append] at h2
            omega
          refine rd_append hpl9 (by rw [List.length_map]; omega) ?_
          walk_at "rd"
          have E79 : Ex H7 H9 := E8.trans E9
          have npl9 : p9 ≠ pl := by rintro rfl; rw [E8 _ _ hpl7] at hp9; cases hp9
          have hp9H : H p9 = none := free_of (E7.trans E8) hp9
          refine ⟨A ++ [p ++ [y]], R' ++ [y], as' ++ [p9], _, by rw [et]; exact I6.new hw hy hs ny h8, ex_new hplH (E7.trans E79), by rw [upd_same, List.map_append]; rfl, ?_, ⟨_, ?_, hks6.snoc (v := .bl true) h8⟩, fun z hz => ?_, ?_, rfl, ?_⟩
          · rw [← List.append_assoc]
            refine Pths.snoc hp9H npl9 (by rw [upd_ne npl9, h9, List.map_append]; rfl) (hpt6.mv fun a xs ha h => ?_)
            rw [upd_ne ha]
            refine E79 _ _ ?_
            rw [k7 a (nl7 _ _ h)]
            exact h
          · rw [upd_ne (nl7 _ _ hpl6).symm]
            exact E79 _ _ h7d
          · rcases List.mem_append.mp hz with hz | hz
            · exact hlt6 z hz
            · have e : z = y := by simpa using hz
              subst e
              exact hup.1 z hy
          · rw [upd_ne hne]
            exact E79 _ _ hpa7
          · have e1 : (R' ++ [y]).length = R'.length + 1 := by rw [List.length_append]; rfl
            have e2 : (Qs ++ (A ++ [p ++ [y]])).length = (Qs ++ A).length + 1 := by rw [← List.append_assoc, List.length_append]; rfl
            rw [e1, e2]
            omega
        · walk_at "rd"
          exact ⟨A, R', as', _, by rw [et]; exact I6.old hs ny h8, E6, hpl6, hpt6, ⟨kvs, hdl6, hks6⟩, hlt6, hpa6, rfl, hm6⟩
    · rintro σ H6 ⟨A, R', as', y0, I6, E6, hpl6, hpt6, hd6, hlt6, hpa6, rfl, hm6⟩
      walk_at "rd"
      rw [List.length_map, List.take_length] at I6
      exact ⟨_, hm6, D ++ [p], Qs ++ A, R', _, _, I6.close hw fun y hy => hy, ⟨E6, ⟨as', hpl6, hpt6⟩, hd6, hlt6⟩, rfl, rfl⟩
def spRingOf (K : PySem.W.Frag) : Sp := sp1 fun a H Q => ∃ l vs ts sz, a = .ref l ∧ SqL K H l vs ∧ TvA K H vs ts ∧ (∀ t ∈ ts, isRule sz 8 t = true) ∧ ts.length ≤ 40 ∧ ∀ p r H', Best (nmOf ts) ts.length r → H p = none → Ex H H' → H' p = some (.lst (r.map iv)) → Q (.ref p) H'
theorem k_ring_of (T : Tx K w mg) (c__lines_named : Cal P w K mg base "_lines_named" 11 p_lines_named (spLinesNamed K)) (c__ring_from : Cal P w K mg base "_ring_from" 1 p_ring_from (spRingFrom K)) : Cal P w K mg base "ring_of" 12 pring_of (spRingOf K) := by
  refine cal1 T.F_ring_of scring_of bring_of rfl fun g cdv A outer s H a Q E hr h => ?_
  obtain ⟨l, vs, ts, sz, rfl, hl, hts, hru, hn, q⟩ := h
  refine ⟨_, (pss_cons (ps_set (i := 1) (scring_of).nd rfl (by first | exact Or.inl rfl | exact Or.inr rfl) (pe_cal c__lines_named (hr.mono (by omega)) (pa_cons (pv 0) pa_nil))) (pss_cons (ps_set (i := 2) (scring_of).nd rfl (by first | exact Or.inl rfl | exact Or.inr rfl) (pe_lst pa_nil)) (pss_cons (ps_for PassesOwn.never rfl (pi_range1 (by rfl) T.m_range (pa_cons (pe_callB cr_lenA (by rfl) T.m_len (by decide +kernel) (pa_cons (pv 1) pa_nil)) pa_nil)) (pg_name (i := 3) (scring_of).nd rfl (by first | exact Or.inl rfl | exact Or.inr rfl)) (pss_cons (ps_set (i := 4) (scring_of).nd rfl (by first | exact Or.inl rfl | exact Or.inr rfl) (pe_cal c__ring_from (hr.mono (by omega)) (pa_cons (pv 1) (pa_cons (pv 3) pa_nil)))) (pss_one (ps_if (PW.pt (pw_and (pt_tru (pv 4)) (pw_and1 (PW.pt (pw_or (pt_not (pt_tru (pv 2))) (pw_or1 (pt_cmpR op_lt (pe_callB cr_lenA (by rfl) T.m_len (by decide +kernel) (pa_cons (pv 4) pa_nil)) (pe_callB cr_lenA (by rfl) T.m_len (by decide +kernel) (pa_cons (pv 2) pa_nil)) (nomark _)))))))) (pss_one (ps_set (i := 2) (scring_of).nd rfl (by first | exact Or.inl rfl | exact Or.inr rfl) (pv 4))) pss_nil)))) (pss_one (ps_ret (pv 2)))))), ?_⟩
  rw [tring_of]
  try dsimp only [cxOf, Cx.nox, Cx.wish]
  walk_at "rd"
  refine rd_sp1 ⟨l, vs, ts, sz, rfl, hl, hts, hru, hn, fun nl H1 hnm hnl E1 => ?_⟩
  walk_at "rd"
  refine new_lst fun s0 H2 hs0 E2 h2 => ?_
  walk_at "rd"
  obtain ⟨as, hnl1, las, _⟩ := id hnm
  rw [nmOf_len] at las
  refine rd_lenL (.of (E2 _ _ hnl1)) ?_
  rw [List.length_map, las]
  walk_at "rd"
  refine forW_R (fun i σ H' => ∃ acc sa x y, Best (nmOf ts) i acc ∧ σ = [some (.ref l), some (.ref nl), some (.ref sa), x, y] ∧ Ex H1 H' ∧ H sa = none ∧ H' sa = some (.lst (acc.map iv))) ?_ ?_ ?_
  · exact ⟨[], s0, _, _, .zero, rfl, E2, free_of E1 hs0, h2⟩
  · rintro i σ H3 hi ⟨acc, sa, x0, y0, hb, rfl, E3, hsa, h3⟩
    have ei : (0 : Int) + (i : Int) = ((i : Nat) : Int) := by omega
    rw [ei]
    rw [Int.toNat_natCast] at hi
    walk_at "rd"
    refine rd_sp2 ⟨nl, nmOf ts, i, rfl, rfl, hnm.ex E3, rows_nmOf ts, by rw [nmOf_len]; exact hi, by rw [nmOf_len]; exact hn, fun p r H4 hbst hp E4 h4 => ?_⟩
    walk_at "rd"
    have hb' : Best (nmOf ts) (i + 1) (better acc r) := .succ hb hbst
    have h34 : H4 sa = some (.lst (acc.map iv)) := E4 _ _ h3
    refine rd_truL (.of h4) ?_
    have keep : r = [] ∨ (r ≠ [] ∧ acc ≠ [] ∧ ¬ r.length < acc.length) → better acc r = acc := by
      unfold better
      rintro (e | ⟨_, e2, e3⟩)
      · rw [if_neg (fun z => z.1 e)]
      · rw [if_neg (fun z => z.2.elim e2 e3)]
    have take : r ≠ [] → (acc = [] ∨ r.length < acc.length) → better acc r = r := fun a b => by unfold better; rw [if_pos ⟨a, b⟩]
    have fin : ∀ (e : better acc r = acc), ∃ acc' sa' x y, Best (nmOf ts) (i + 1) acc' ∧ [some (.ref l), some (.ref nl), some (.ref sa), some (iv i), some (.ref p)] = [some (.ref l), some (.ref nl), some (.ref sa'), x, y] ∧ Ex H1 H4 ∧ H sa' = none ∧ H4 sa' = some (.lst (acc'.map iv)) :=
      fun e => ⟨acc, sa, _, _, by rw [e] at hb'; exact hb', rfl, E3.trans E4, hsa, h34⟩
    have fin2 : ∀ (e : better acc r = r), ∃ acc' sa' x y, Best (nmOf ts) (i + 1) acc' ∧ [some (.ref l), some (.ref nl), some (.ref p), some (iv i), some (.ref p)] = [some (.ref l), some (.ref nl), some (.ref sa'), x, y] ∧ Ex H1 H4 ∧ H sa' = none ∧ H4 sa' = some (.lst (acc'.map iv)) :=
      fun e => ⟨r, p, _, _, by rw [e] at hb'; exact hb', rfl, E3.trans E4, free_of (E1.trans E3) hp, h4⟩
    cases er : r with
    | nil =>
      rw [List.map_nil]
      walk_at "rd"
      exact fin (keep (.inl er))
    | cons r0 rs =>
      rw [List.map_cons]
      walk_at "rd"
      refine rd_truL (.of h34) ?_
      cases ea : acc with
      | nil =>
        rw [List.map_nil]
        walk_at "rd"
        exact fin2 (take (by rw [er]; simp) (.inl ea))
      | cons a0 acc0 =>
        rw [List.map_cons]
        walk_at "rd"
        refine rd_lenL (.of h4) ?_
        walk_at "rd"
        refine rd_lenL (.of h34) ?_
        walk_at "rd"
        rw [List.length_map, List.length_map]
        refine rd_ite (fun h5 => ?_) (fun h5 => ?_)
        · walk_at "rd"
          exact fin2 (take (by rw [er]; simp) (.inr (by omega)))
        · walk_at "rd"
          exact fin (keep (.inr ⟨by rw [er]; simp, by rw [ea]; simp, by omega⟩))
  · rintro σ H3 ⟨acc, sa, x0, y0, hb, rfl, E3, hsa, h3⟩
    walk_at "rd"
    exact q sa acc H3 hb hsa (E1.trans E3) h3
end
end KF
open PySem PySem.Spec PyProof.Rows L2 Qa Qr


namespace KF
section
variable {P : Program} {w : World} {K : PySem.W.Frag} {mg : Str → Option Value} {base : Heap} {H : Hp} {Q : VK} {E : XK}
def spRow (K : PySem.W.Frag) : Sp := sp1 fun a H Q => ∃ t, Tv K H a t ∧ Q (.bl (isRow t)) H
theorem k__is_row (T : Tx K w mg) (c_is_number : Cal P w K mg base "is_number" 3 pis_number (spNum K)) (c_is_percent : Cal P w K mg base "is_percent" 3 pis_percent (spPct K)) : Cal P w K mg base "_is_row" 4 p_is_row (spRow K) := by
  refine cal1 T.F__is_row sc_is_row b_is_row rfl fun g cdv A outer s H a Q E hr h => ?_
  obtain ⟨t, ht, q⟩ := h
  refine ⟨_, (pss_cons (ps_if (PW.pt (pw_or (pt_not (pt_tru (pe_callB call_isi (by rfl) T.m_isinstance (by decide +kernel) (pa_cons (pv 0) (pa_cons (pe_ty (n := "tuple") T.m_tuple (by decide +kernel)) pa_nil))))) (pw_or1 (pt_cmpR (op_neA hr) (pe_callB cr_lenA (by rfl) T.m_len (by decide +kernel) (pa_cons (pv 0) pa_nil)) (pe_gint T.g_ROW_PARTS) (nomark _))))) (pss_one (ps_ret pe_bl)) pss_nil) (pss_cons (ps_asg (pv 0) (pg_tup (n := 3) rfl (pgs_cons (pg_name (i := 1) (sc_is_row).nd rfl (by first | exact Or.inl rfl | exact Or.inr rfl)) (pgs_cons (pg_name (i := 2) (sc_is_row).nd rfl (by first | exact Or.inl rfl | exact Or.inr rfl)) (pgs_cons (pg_name (i := 3) (sc_is_row).nd rfl (by first | exact Or.inl rfl | exact Or.inr rfl)) pgs_nil))))) (pss_one (ps_ret (pe_and (pe_cal c_is_number (hr.mono (by omega)) (pa_cons (pv 1) pa_nil)) (pe_and (pe_cal c_is_number (hr.mono (by omega)) (pa_cons (pv 2) pa_nil)) (pe_one (pe_cal c_is_percent (hr.mono (by omega)) (pa_cons (pv 3) pa_nil))))))))), ?_⟩
  rw [t_is_row]
  try dsimp only [cxOf, Cx.nox, Cx.wish]
  walk_at "rd"
  cases t with
  | tup ts =>
    walk_at "rd"
    refine rd_lenD ht ?_
    walk_at "rd"
    refine rd_iteN (fun h1 => ?_) (fun h1 => ?_)
    · walk_at "rd"
      rw [notRow (by omega)] at q
      exact q
    · obtain ⟨ta, tb, tc, rfl⟩ := row3 (ts := ts) (by omega)
      obtain ⟨p, xs, rfl, hs, ha⟩ := ht.tupE
      obtain ⟨x, xs, rfl, hx, ha⟩ := ha.consE
      obtain ⟨y, xs, rfl, hy, ha⟩ := ha.consE
      obtain ⟨z, xs, rfl, hz, ha⟩ := ha.consE
      cases ha.nilE
      walk_at "rd"
      refine rd_gtup hs rfl ?_
      walk_at "rd"
      refine rd_sp1 ⟨ta, hx, ?_⟩
      walk_at "rd"
      refine rd_iteB (fun e1 => ?_) (fun e1 => ?_)
      · walk_at "rd"
        refine rd_sp1 ⟨tb, hy, ?_⟩
        walk_at "rd"
        refine rd_iteB (fun e2 => ?_) (fun e2 => ?_)
        · walk_at "rd"
          refine rd_sp1 ⟨tc, hz, ?_⟩
          simpa [isRow, e1, e2] using q
        · simpa [isRow, e1, e2] using q
      · simpa [isRow, e1] using q
  | _ => walk_at "rd"; exact q
def spRise (K : PySem.W.Frag) : Sp := sp1 fun a H Q => ∃ ts, Tv K H a (.tup ts) ∧ ts.length ≤ 20 ∧ ts.all isRow = true ∧ ∀ H', Ex H H' → Q (.bl (rise ts)) H'
theorem k__starts_rise (T : Tx K w mg) : Cal P w K mg base "_starts_rise" 1 p_starts_rise (spRise K) := by
  refine cal1 T.F__starts_rise sc_starts_rise b_starts_rise rfl fun g cdv A outer s H a Q E hr h => ?_
  obtain ⟨ts, ht, hl, hall, q⟩ := h
  refine ⟨_, (pss_cons (ps_for PassesOwn.never rfl (RZ.pi_zipA (by rfl) T.m_zip (pa_cons (pv 0) (pa_cons (pe_slice sl_any (pv 0) (po_some pe_int) po_none) pa_nil))) (pg_tup (n := 2) rfl (pgs_cons (pg_name (i := 1) (sc_starts_rise).nd rfl (by first | exact Or.inl rfl | exact Or.inr rfl)) (pgs_cons (pg_name (i := 2) (sc_starts_rise).nd rfl (by first | exact Or.inl rfl | exact Or.inr rfl)) pgs_nil))) (pss_one (ps_if (pt_cmpR op_ge (pe_ix ix_seq (pv 1) pe_int (fun _ _ => rfl)) (pe_ix ix_seq (pv 2) pe_int (fun _ _ => rfl)) (nomark _)) (pss_one (ps_ret pe_bl)) pss_nil))) (pss_one (ps_ret pe_bl))), ?_⟩
  rw [t_starts_rise]
  try dsimp only [cxOf, Cx.nox, Cx.wish]
  obtain ⟨p, xs, rfl, hs, ha⟩ := ht.tupE
  walk_at "rd"
  refine rd_slT hs fun r H1 e1 hr1 => ?_
  walk_at "rd"
  have hs1 : SqT K H1 p xs := by walk_at "sqt"
  have ha1 : TvA K H1 xs ts := by walk_at "tva"
  refine rd_fzT hs1 hr1 ?_
  have el : xs.length = ts.length := ha.len
  rw [cutV_tail] at hr1
  refine forW_Z xs (xs.drop 1) (n := ts.length - 1) (by rw [List.length_drop]; omega) (fun i σ H2 => (∃ y z, σ = [some (.ref p), y, z]) ∧ Ex H1 H2 ∧ rise ts = rise (ts.drop i)) ?_ ?_ ?_ ?_
  · exact ⟨⟨_, _, rfl⟩, Evl.Ex.refl _, rfl⟩
  · rintro i σ H2 hi ⟨_, e2, _⟩
    exact ⟨sqt_ex hs1 e2, sqt_ex hr1 e2⟩
  · rintro i x y c σ H2 H3 hi ⟨⟨y0, z0, rfl⟩, e2, hrise⟩ hx hy hc e3 hcT
    rw [List.getElem?_drop, Nat.add_comm] at hy
    have a3 : TvA K H3 xs ts := tva_ex (tva_ex ha1 e2) e3
    obtain ⟨tx, htx, vx⟩ := a3.getV hx
    obtain ⟨ty, hty, vy⟩ := a3.getV hy
    obtain ⟨px, x1, x2, rfl, sx⟩ := row_start vx (List.all_eq_true.mp hall tx (List.mem_of_getElem? htx))
    obtain ⟨py, y1, y2, rfl, sy⟩ := row_start vy (List.all_eq_true.mp hall ty (List.mem_of_getElem? hty))
    refine rd_gtup (SqT.of hcT) rfl ?_
    walk_at "rd"
    refine rd_ixT sx (atI_nat (j := 0) rfl) ?_
    walk_at "rd"
    refine rd_ixT sy (atI_nat (j := 0) rfl) ?_
    walk_at "rd"
    have e4 := rise_drop ts i tx ty htx hty
    refine rd_ite (fun h1 => ?_) (fun h1 => ?_)
    · walk_at "rd"
      have e5 : rise ts = false := by
        rw [hrise, e4, decide_eq_false (by omega)]
        rfl
      rw [e5] at q
      exact q _ ((e1.trans e2).trans e3)
    · walk_at "rd"
      refine ⟨⟨_, _, rfl⟩, e2.trans e3, ?_⟩
      rw [hrise, e4, decide_eq_true (by omega)]
      rfl
  · rintro σ H2 ⟨_, e2, hrise⟩
    walk_at "rd"
    have e5 : rise ts = true := by
      rw [hrise]
      exact rise_end ts _ (by omega)
    rw [e5] at q
    exact q _ (e1.trans e2)
def spTab (K : PySem.W.Frag) : Sp := sp1 fun a H Q => ∃ t, Tv K H a t ∧ ∀ H', Ex H H' → Q (.bl (isTable t)) H'
theorem k_is_table (T : Tx K w mg) (c__is_row : Cal P w K mg base "_is_row" 4 p_is_row (spRow K)) (c__starts_rise : Cal P w K mg base "_starts_rise" 1 p_starts_rise (spRise K)) : Cal P w K mg base "is_table" 5 pis_table (spTab K) := by
  refine cal1 T.F_is_table scis_table bis_table rfl fun g cdv A outer s H a Q E hr h => ?_
  obtain ⟨t, ht, q⟩ := h
  refine ⟨_, (pss_cons (ps_if (PW.pt (pw_or (pt_not (pt_tru (pe_callB call_isi (by rfl) T.m_isinstance (by decide +kernel) (pa_cons (pv 0) (pa_cons (pe_ty (n := "tuple") T.m_tuple (by decide +kernel)) pa_nil))))) (pw_or1 (pt_not (pt_chain op_le op_le pe_int (pe_callB cr_lenA (by rfl) T.m_len (by decide +kernel) (pa_cons (pv 0) pa_nil)) (pe_gint T.g_MOST_ROWS)))))) (pss_one (ps_ret pe_bl)) pss_nil) (pss_cons (ps_for PassesOwn.never rfl (pi_seq (pv 0)) (pg_name (i := 1) (scis_table).nd rfl (by first | exact Or.inl rfl | exact Or.inr rfl)) (pss_one (ps_if (pt_not (pt_tru (pe_cal c__is_row (hr.mono (by omega)) (pa_cons (pv 1) pa_nil)))) (pss_one (ps_ret pe_bl)) pss_nil))) (pss_one (ps_ret (pe_cal c__starts_rise (hr.mono (by omega)) (pa_cons (pv 0) pa_nil)))))), ?_⟩
  rw [tis_table]
  try dsimp only [cxOf, Cx.nox, Cx.wish]
  walk_at "rd"
  cases t with
  | tup ts =>
    walk_at "rd"
    refine rd_lenD ht ?_
    walk_at "rd"
    refine rd_ite (fun h1 => ?_) (fun h1 => ?_)
    · walk_at "rd"
      refine rd_iteN (fun h2 => ?_) (fun h2 => ?_)
      · walk_at "rd"
        have e : isTable (.tup ts) = false := by
          rw [isTable_tup]
          rw [decide_eq_false (show ¬ ts.length ≤ 20 by omega), Bool.and_false, Bool.false_and]
        rw [e] at q
        exact q H (Evl.Ex.refl H)
      · obtain ⟨p, xs, rfl, hs, ha⟩ := ht.tupE
        walk_at "rd"
        have el : xs.length = ts.length := ha.len
        refine forW_T xs (fun i σ H2 => (∃ y, σ = [some (.ref p), y]) ∧ H2 = H ∧ (ts.take i).all isRow = true) ?_ ?_ ?_ ?_
        · exact ⟨⟨_, rfl⟩, rfl, rfl⟩
        · rintro i σ H2 hi ⟨_, rfl, _⟩
          exact hs
        · rintro i x σ H2 hx ⟨⟨y, rfl⟩, rfl, hall⟩
          obtain ⟨tx, htx, vx⟩ := ha.getV hx
          walk_at "rd"
          refine rd_sp1 ⟨tx, vx, ?_⟩
          walk_at "rd"
          cases e1 : isRow tx with
          | true =>
            walk_at "rd"
            refine ⟨⟨_, rfl⟩, rfl, ?_⟩
            rw [all_take htx, hall, e1]
            rfl
          | false =>
            walk_at "rd"
            have e : isTable (.tup ts) = false := by
              have e2 : ts.all isRow = false := by
                rw [Bool.eq_false_iff]
                intro z
                have z' := List.all_eq_true.mp z tx (List.mem_of_getElem? htx)
                rw [e1] at z'; cases z'
              rw [isTable_tup]
              rw [e2, Bool.false_and, Bool.and_false]
            rw [e] at q
            exact q H2 (Evl.Ex.refl H2)
        · rintro σ H2 ⟨⟨y, rfl⟩, rfl, hall⟩
          rw [el, List.take_length] at hall
          walk_at "rd"
          refine rd_sp1 ⟨ts, ht, by omega, hall, fun H' e => ?_⟩
          have e : isTable (.tup ts) = rise ts := by
            rw [isTable_tup]
            rw [decide_eq_true (show 1 ≤ ts.length by omega), decide_eq_true (show ts.length ≤ 20 by omega), hall]
            rfl
          rw [e] at q
          exact q H' (by assumption)
    · walk_at "rd"
      have e : isTable (.tup ts) = false := by
        rw [isTable_tup]
        rw [decide_eq_false (show ¬ 1 ≤ ts.length by omega), Bool.false_and, Bool.false_and]
      rw [e] at q
      exact q H (Evl.Ex.refl H)
  | _ => walk_at "rd"; exact q H (Evl.Ex.refl H)
end
end KF
open PySem PySem.Spec PyProof.Rows L2 Qa Qr


namespace KF
section
variable {P : Program} {w : World} {K : PySem.W.Frag} {mg : Str → Option Value} {base : Heap} {H : Hp} {Q : VK} {E : XK}
def spForm (K : PySem.W.Frag) : Sp := sp1 fun a H Q => ∃ t, Tv K H a t ∧ Q (.bl (hasForm t)) H
theorem k__has_form (T : Tx K w mg) : Cal P w K mg base "_has_form" 1 p_has_form (spForm K) := by
  refine cal1 T.F__has_form sc_has_form b_has_form rfl fun g cdv A outer s H a Q E hr h => ?_
  obtain ⟨t, ht, q⟩ := h
  obtain ⟨dP, h_PARTS, tP⟩ := T.g_PARTS
  refine ⟨_, (pss_cons (ps_if (PW.pt (pw_or (pt_not (pt_tru (pe_callB call_isi (by rfl) T.m_isinstance (by decide +kernel) (pa_cons (pv 0) (pa_cons (pe_ty (n := "tuple") T.m_tuple (by decide +kernel)) pa_nil))))) (pw_or1 (pt_not (pt_tru (pv 0)))))) (pss_one (ps_ret pe_bl)) pss_nil) (pss_cons (ps_set (i := 1) (sc_has_form).nd rfl (by first | exact Or.inl rfl | exact Or.inr rfl) (pe_ix ix_seq (pv 0) pe_int (fun _ _ => rfl))) (pss_cons (ps_if (PW.pt (pw_or (pt_not (pt_tru (pe_callB call_isi (by rfl) T.m_isinstance (by decide +kernel) (pa_cons (pv 1) (pa_cons (pe_ty (n := "str") T.m_str (by decide +kernel)) pa_nil))))) (pw_or1 (pt_cmpR op_notinTab (pv 1) (pe_gtab h_PARTS) (by rfl))))) (pss_one (ps_ret pe_bl)) pss_nil) (pss_one (ps_ret (pe_cmpR (op_eqA hr) (pe_callB cr_lenA (by rfl) T.m_len (by decide +kernel) (pa_cons (pv 0) pa_nil)) (pe_op op_addA pe_int (pe_callB cr_lenA (by rfl) T.m_len (by decide +kernel) (pa_cons (pe_ix ix_kdict (pe_gtab h_PARTS) (pv 1) (fun _ _ => rfl)) pa_nil))) (nomark _))))))), ?_⟩
  rw [t_has_form]
  try dsimp only [cxOf, Cx.nox, Cx.wish]
  walk_at "rd"
  cases t with
  | tup ts =>
    walk_at "rd"
    refine rd_truT ht ?_
    cases ts with
    | nil => walk_at "rd"; exact q
    | cons t0 ts =>
      walk_at "rd"
      refine rd_ixD (n := 0) ht rfl rfl fun x hx => ?_
      walk_at "rd"
      cases t0 with
      | str z =>
        cases hx
        walk_at "rd"
        rw [hasForm_str] at q
        cases e : kindsOf z with
        | none =>
          rw [show tPARTS.lookup z = none from e]
          rw [e] at q
          walk_at "rd"
          exact q
        | some ks =>
          rw [show tPARTS.lookup z = some ks from e]
          rw [e] at q
          walk_at "rd"
          refine rd_lenD ht ?_
          walk_at "rd"
          refine rd_ixTab tP e fun a ha => ?_
          walk_at "rd"
          refine rd_lenT ha ?_
          walk_at "rd"
          have e2 : decide (((.str z :: ts : List Qa.T).length : Int) = 1 + (((ks.map V.str).length : Nat) : Int)) = decide (ts.length = ks.length) := by
            rw [decide_eq_decide, List.length_cons, List.length_map]
            omega
          rw [e2]
          exact q
      | _ => walk_at "rd"; exact q
  | _ => walk_at "rd"; exact q
def cnt (s : Sz) : List (Key × V) := [(.inr "line", .int s.l), (.inr "table", .int s.tb), (.inr "choice", .int s.ch)]
def spRW (K : PySem.W.Frag) (n : Nat) : Sp := sp3 fun a b c H Q => ∃ t d s, Tv K H a t ∧ b = .ref d ∧ H d = some (.dK (cnt s)) ∧ c = .int ((n : Nat) : Int) ∧ ∀ H', Ex H H' → Q (.bl (isRule s n t)) H'
def spPart (K : PySem.W.Frag) (n : Nat) : Sp := sp4 fun a b c d H Q => ∃ t k dd s, Tv K H a t ∧ b = .str k ∧ k ∈ kinds ∧ c = .ref dd ∧ H dd = some (.dK (cnt s)) ∧ d = .int (((n + 1 : Nat)) : Int) ∧ ∀ H', Ex H H' → Q (.bl (partOk (isRule s n) s k t)) H'
theorem k__is_part (T : Tx K w mg) {n m : Nat} (c__is_rule_within : Cal P w K mg base "_is_rule_within" m p_is_rule_within (spRW K n)) (hm : 3 ≤ m) (c_is_number : Cal P w K mg base "is_number" 3 pis_number (spNum K)) (c_is_percent : Cal P w K mg base "is_percent" 3 pis_percent (spPct K))
    (c_is_word : Cal P w K mg base "is_word" 1 pis_word (spWord K)) (c_is_place : Cal P w K mg base "is_place" 3 pis_place (spPlace K)) : Cal P w K mg base "_is_part" (m + 1) p_is_part (spPart K n) := by
  refine cal4 T.F__is_part sc_is_part b_is_part rfl fun g cdv A outer s H a b c d Q E hr h => ?_
  obtain ⟨t, k, dd, sz, ht, rfl, hk, rfl, hd, rfl, q⟩ := h
  refine ⟨_, (pss_cons (ps_if (pt_cmpR (op_eqA hr) (pv 1) pe_str (nomark _)) (pss_one (ps_ret (pe_cal c__is_rule_within (hr.mono (by omega)) (pa_cons (pv 0) (pa_cons (pv 2) (pa_cons (pe_op op_sub (pv 3) pe_int) pa_nil)))))) pss_nil) (pss_cons (ps_if (pt_cmpR (op_eqA hr) (pv 1) pe_str (nomark _)) (pss_one (ps_ret (pe_cal c_is_number (hr.mono (by omega)) (pa_cons (pv 0) pa_nil)))) pss_nil) (pss_cons (ps_if (pt_cmpR (op_eqA hr) (pv 1) pe_str (nomark _)) (pss_one (ps_ret (pe_cal c_is_percent (hr.mono (by omega)) (pa_cons (pv 0) pa_nil)))) pss_nil) (pss_cons (ps_if (pt_cmpR (op_eqA hr) (pv 1) pe_str (nomark _)) (pss_one (ps_ret (pe_cal c_is_word (hr.mono (by omega)) (pa_cons (pv 0) pa_nil)))) pss_nil) (pss_one (ps_ret (pe_cal c_is_place (hr.mono (by omega)) (pa_cons (pv 0) (pa_cons (pe_dget (hu_of hr) (pv 2) (pv 1) (fun _ _ => rfl)) pa_nil))))))))), ?_⟩
  rw [t_is_part]
  try dsimp only [cxOf, Cx.nox, Cx.wish]
  have q0 := q H (Evl.Ex.refl H)
  unfold partOk at q0
  walk_at "rd"
  refine rd_ite (fun h1 => ?_) (fun h1 => ?_)
  · walk_at "rd"
    refine rd_sp3 ⟨t, dd, sz, ht, rfl, hd, by congr 1; omega, fun H' e => ?_⟩
    have q1 := q H' e
    unfold partOk at q1
    rw [if_pos h1] at q1
    exact q1
  rw [if_neg h1] at q0
  walk_at "rd"
  refine rd_ite (fun h2 => ?_) (fun h2 => ?_)
  · rw [if_pos h2] at q0
    walk_at "rd"
    exact rd_sp1 ⟨t, ht, q0⟩
  rw [if_neg h2] at q0
  walk_at "rd"
  refine rd_ite (fun h3 => ?_) (fun h3 => ?_)
  · rw [if_pos h3] at q0
    walk_at "rd"
    exact rd_sp1 ⟨t, ht, q0⟩
  rw [if_neg h3] at q0
  walk_at "rd"
  refine rd_ite (fun h4 => ?_) (fun h4 => ?_)
  · rw [if_pos h4] at q0
    walk_at "rd"
    exact rd_sp1 ⟨t, ht, q0⟩
  rw [if_neg h4] at q0
  walk_at "rd"
  have hv : valV (cnt sz) (.inr k) = some (.int (sizeOf' sz k)) := by
    simp only [kinds, List.mem_cons, List.not_mem_nil, or_false] at hk
    rcases hk with rfl | rfl | rfl | rfl | rfl | rfl | rfl
    · exact absurd rfl h2
    · exact absurd rfl h4
    · rfl
    · exact absurd rfl h1
    · exact absurd rfl h3
    · rfl
    · rfl
  refine rd_dgetK hd hv ?_
  walk_at "rd"
  exact rd_sp2 ⟨t, _, ht, rfl, q0⟩
theorem k_rw0 (T : Tx K w mg) (c__has_form : Cal P w K mg base "_has_form" 1 p_has_form (spForm K)) : Cal P w K mg base "_is_rule_within" 2 p_is_rule_within (spRW K 0) := by
  have c__is_part : Cal P w K mg base "_is_part" 1 p_is_part spNo := cal_no T.F__is_part sc_is_part b_is_part
  refine cal3 T.F__is_rule_within sc_is_rule_within b_is_rule_within rfl fun g cdv A outer s H a b c Q E hr h => ?_
  obtain ⟨t, d, sz, ht, rfl, hd, rfl, q⟩ := h
  obtain ⟨dP, h_PARTS, tP⟩ := T.g_PARTS
  refine ⟨_, (pss_cons (ps_if (PW.pt (pw_or (pt_cmpR (op_eqA hr) (pv 2) pe_int (nomark _)) (pw_or1 (pt_not (pt_tru (pe_cal c__has_form (hr.mono (by omega)) (pa_cons (pv 0) pa_nil))))))) (pss_one (ps_ret pe_bl)) pss_nil) (pss_cons (ps_for PassesOwn.never rfl (RZ.pi_zipA (by rfl) T.m_zip (pa_cons (pe_slice sl_any (pv 0) (po_some pe_int) po_none) (pa_cons (pe_ix ix_kdict (pe_gtab h_PARTS) (pe_ix ix_seq (pv 0) pe_int (fun _ _ => rfl)) (fun _ _ => rfl)) pa_nil))) (pg_tup (n := 2) rfl (pgs_cons (pg_name (i := 3) (sc_is_rule_within).nd rfl (by first | exact Or.inl rfl | exact Or.inr rfl)) (pgs_cons (pg_name (i := 4) (sc_is_rule_within).nd rfl (by first | exact Or.inl rfl | exact Or.inr rfl)) pgs_nil))) (pss_one (ps_if (pt_not (pt_tru (pe_cal c__is_part (hr.mono (by omega)) (pa_cons (pv 3) (pa_cons (pv 4) (pa_cons (pv 1) (pa_cons (pv 2) pa_nil))))))) (pss_one (ps_ret pe_bl)) pss_nil))) (pss_one (ps_ret pe_bl)))), ?_⟩
  rw [t_is_rule_within]
  try dsimp only [cxOf, Cx.nox, Cx.wish]
  walk_at "rd"
  exact q _ (Evl.Ex.refl _)
theorem k_rw {n m : Nat} (T : Tx K w mg) (c__has_form : Cal P w K mg base "_has_form" 1 p_has_form (spForm K)) (c__is_part : Cal P w K mg base "_is_part" m p_is_part (spPart K n)) (hm : 1 ≤ m) : Cal P w K mg base "_is_rule_within" (m + 1) p_is_rule_within (spRW K (n + 1)) := by
  refine cal3 T.F__is_rule_within sc_is_rule_within b_is_rule_within rfl fun g cdv A outer s H a b c Q E hr h => ?_
  obtain ⟨t, d, sz, ht, rfl, hd, rfl, q⟩ := h
  obtain ⟨dP, h_PARTS, tP⟩ := T.g_PARTS
  refine ⟨_, (pss_cons (ps_if (PW.pt (pw_or (pt_cmpR (op_eqA hr) (pv 2) pe_int (nomark _)) (pw_or1 (pt_not (pt_tru (pe_cal c__has_form (hr.mono (by omega)) (pa_cons (pv 0) pa_nil))))))) (pss_one (ps_ret pe_bl)) pss_nil) (pss_cons (ps_for PassesOwn.never rfl (RZ.pi_zipA (by rfl) T.m_zip (pa_cons (pe_slice sl_any (pv 0) (po_some pe_int) po_none) (pa_cons (pe_ix ix_kdict (pe_gtab h_PARTS) (pe_ix ix_seq (pv 0) pe_int (fun _ _ => rfl)) (fun _ _ => rfl)) pa_nil))) (pg_tup (n := 2) rfl (pgs_cons (pg_name (i := 3) (sc_is_rule_within).nd rfl (by first | exact Or.inl rfl | exact Or.inr rfl)) (pgs_cons (pg_name (i := 4) (sc_is_rule_within).nd rfl (by first | exact Or.inl rfl | exact Or.inr rfl)) pgs_nil))) (pss_one (ps_if (pt_not (pt_tru (pe_cal c__is_part (hr.mono (by omega)) (pa_cons (pv 3) (pa_cons (pv 4) (pa_cons (pv 1) (pa_cons (pv 2) pa_nil))))))) (pss_one (ps_ret pe_bl)) pss_nil))) (pss_one (ps_ret pe_bl)))), ?_⟩
  rw [t_is_rule_within]
  try dsimp only [cxOf, Cx.nox, Cx.wish]
  walk_at "rd"
  refine rd_sp1 ⟨t, ht, ?_⟩
  walk_at "rd"
  cases hf : hasForm t with
  | false =>
    walk_at "rd"
    rw [isRule_noform sz n hf] at q
    exact q _ (Evl.Ex.refl _)
  | true =>
    walk_at "rd"
    obtain ⟨x, ts, ks, rfl, e, hl⟩ := form_of hf
    rw [isRule_form sz n e hl] at q
    obtain ⟨p, xs, rfl, hs, ha⟩ := ht.tupE
    have hix : ∀ H2, Ex H H2 → Tv K H2 (.ref p) (.tup (.str x :: ts)) := fun H2 e2 => tv_ex ht e2
    refine rd_slT hs fun r H1 e1 hr1 => ?_
    rw [cutV_tail] at hr1
    walk_at "rd"
    refine rd_ixD (n := 0) (hix H1 e1) rfl rfl fun v hv => ?_
    cases hv
    walk_at "rd"
    refine rd_ixTab tP e fun r2 hr2 => ?_
    walk_at "rd"
    refine rd_fzT hr1 hr2 ?_
    have ha' : TvA K H (xs.drop 1) ts := ha.drop 1
    have lx : (xs.drop 1).length = ts.length := ha'.len
    refine forW_Z (xs.drop 1) (ks.map V.str) (n := ts.length) (by rw [List.length_map, lx]; omega) (fun i σ H2 => (∃ y z, σ = [some (.ref p), some (.ref d), some (.int ((n + 1 : Nat) : Int)), y, z]) ∧ Ex H1 H2 ∧ zipOk (partOk (isRule sz n) sz) ts ks = zipOk (partOk (isRule sz n) sz) (ts.drop i) (ks.drop i)) ?_ ?_ ?_ ?_
    · exact ⟨⟨_, _, rfl⟩, Evl.Ex.refl _, rfl⟩
    · rintro i σ H2 hi ⟨_, e2, _⟩
      exact ⟨sqt_ex hr1 e2, sqt_ex hr2 e2⟩
    · rintro i y z c σ H2 H3 hi ⟨⟨y0, z0, rfl⟩, e2, hz⟩ hy hzz hc e3 hcT
      have a3 : TvA K H3 (xs.drop 1) ts := tva_ex (tva_ex (tva_ex ha' e1) e2) e3
      obtain ⟨ty, hty, vy⟩ := a3.getV hy
      rw [List.getElem?_map] at hzz
      cases ek : ks[i]? with
      | none => rw [ek] at hzz; cases hzz
      | some k =>
        rw [ek] at hzz
        cases (Option.some.inj hzz)
        refine rd_gtup (SqT.of hcT) rfl ?_
        walk_at "rd"
        have EE : Ex H H3 := by walk_at "exx"
        refine rd_sp4 ⟨ty, k, d, sz, vy, rfl, kinds_of e k (List.mem_of_getElem? ek), rfl, dK_ex hd EE, rfl, fun H4 e4 => ?_⟩
        have e5 := zipOk_drop (partOk (isRule sz n) sz) ts ks i ty k hty ek
        walk_at "rd"
        cases hp : partOk (isRule sz n) sz k ty with
        | true =>
          walk_at "rd"
          refine ⟨⟨_, _, rfl⟩, (e2.trans e3).trans e4, ?_⟩
          rw [hz, e5, hp, Bool.true_and]
        | false =>
          walk_at "rd"
          rw [hz, e5, hp, Bool.false_and] at q
          exact q _ (EE.trans e4)
    · rintro σ H2 ⟨_, e2, hz⟩
      walk_at "rd"
      rw [hz, zipOk_end _ _ _ _ (by omega)] at q
      exact q _ (e1.trans e2)
theorem k_rwn (T : Tx K w mg) (c__has_form : Cal P w K mg base "_has_form" 1 p_has_form (spForm K)) (c_is_number : Cal P w K mg base "is_number" 3 pis_number (spNum K)) (c_is_percent : Cal P w K mg base "is_percent" 3 pis_percent (spPct K))
    (c_is_word : Cal P w K mg base "is_word" 1 pis_word (spWord K)) (c_is_place : Cal P w K mg base "is_place" 3 pis_place (spPlace K)) : ∀ n : Nat, Cal P w K mg base "_is_rule_within" (3 + 2 * n) p_is_rule_within (spRW K n)
  | 0 => (k_rw0 T c__has_form).mono (by omega)
  | n + 1 => (k_rw T c__has_form (k__is_part T (k_rwn T c__has_form c_is_number c_is_percent c_is_word c_is_place n) (by omega) c_is_number c_is_percent c_is_word c_is_place) (by omega)).mono (by omega)
def spIsRule (K : PySem.W.Frag) : Sp := sp4 fun a b c d H Q => ∃ t sz, Tv K H a t ∧ b = .int sz.l ∧ c = .int sz.tb ∧ d = .int sz.ch ∧ ∀ H', Ex H H' → Q (.bl (isRule sz 8 t)) H'
theorem k_is_rule (T : Tx K w mg) (c__is_rule_within : Cal P w K mg base "_is_rule_within" 19 p_is_rule_within (spRW K 8)) : Cal P w K mg base "is_rule" 20 pis_rule (spIsRule K) := by
  refine cal4 T.F_is_rule scis_rule bis_rule rfl fun g cdv A outer s H a b c d Q E hr h => ?_
  obtain ⟨t, sz, ht, rfl, rfl, rfl, q⟩ := h
  refine ⟨_, (pss_cons (ps_set (i := 4) (scis_rule).nd rfl (by first | exact Or.inl rfl | exact Or.inr rfl) (pe_disp (pps_cons pe_str (pv 1) (pps_cons pe_str (pv 2) (pps_cons pe_str (pv 3) pps_nil))) (by rfl) (by rfl) (fun z => by cases z) (by decide))) (pss_one (ps_ret (pe_cal c__is_rule_within (hr.mono (by omega)) (pa_cons (pv 0) (pa_cons (pv 4) (pa_cons (pe_gint T.g_DEEPEST) pa_nil))))))), ?_⟩
  rw [tis_rule]
  try dsimp only [cxOf, Cx.nox, Cx.wish]
  walk_at "rd"
  refine rd_disp fun p hp => ?_
  refine rd_pcons ?_
  walk_at "rd"
  refine rd_pcons ?_
  walk_at "rd"
  refine rd_pcons ?_
  walk_at "rd"
  refine rd_pnil ⟨upd_same, cnt sz, rfl, by show 3 ≤ 15; decide, ?_⟩
  have e : mergeK [] (cnt sz) = cnt sz := rfl
  rw [e]
  generalize eH : upd (upd H p (.dK [])) p (.dK (cnt sz)) = H1
  have h1 : H1 p = some (.dK (cnt sz)) := by rw [← eH]; exact upd_same
  have E1 : Ex H H1 := by
    intro b o hb
    have ne : b ≠ p := by rintro rfl; rw [hp] at hb; cases hb
    rw [← eH, upd_ne ne, upd_ne ne]
    exact hb
  walk_at "rd"
  exact rd_sp3 ⟨t, p, sz, tv_ex ht E1, rfl, h1, rfl, fun H' e => q H' (E1.trans e)⟩
end
end KF
open PySem PySem.Spec PyProof.Rows L2 Qa Qr


namespace KF
section
variable {P : Program} {w : World} {K : PySem.W.Frag} {mg : Str → Option Value} {base : Heap} {H : Hp} {Q : VK} {E : XK}
def spNumb (K : PySem.W.Frag) : Sp := sp1 fun a H Q => ∃ l, a = .ref l ∧ (∃ s, H l = some (.lst [.int s])) ∧ ∀ r H', -1000000000 ≤ r → r ≤ 1000000000 → St1 l H H' → Q (.int r) H'
theorem k__law_number (T : Tx K w mg) (c__law_next : Cal P w K mg base "_law_next" 1 p_law_next (spNext K)) : Cal P w K mg base "_law_number" 2 p_law_number (spNumb K) := by
  refine cal1 T.F__law_number sc_law_number b_law_number rfl fun g cdv A outer s H a Q E hr h => ?_
  obtain ⟨l, rfl, hl, q⟩ := h
  refine ⟨_, (pss_cons (ps_set (i := 1) (sc_law_number).nd rfl (by first | exact Or.inl rfl | exact Or.inr rfl) (pe_cal c__law_next (hr.mono (by omega)) (pa_cons (pv 0) (pa_cons pe_int pa_nil)))) (pss_cons (ps_if (pt_cmpR (op_eqA hr) (pv 1) pe_int (nomark _)) (pss_one (ps_ret (pe_ix ix_seq (pe_lst (pa_cons (pe_un un_neg (pe_op op_pow pe_int pe_int)) (pa_cons (pe_op op_pow pe_int pe_int) (pa_cons (pe_op op_sub (pe_op op_pow pe_int pe_int) pe_int) (pa_cons (pe_op op_sub pe_int (pe_op op_pow pe_int pe_int)) pa_nil))))) (pe_cal c__law_next (hr.mono (by omega)) (pa_cons (pv 0) (pa_cons pe_int pa_nil))) (fun _ _ => rfl)))) pss_nil) (pss_cons (ps_if (pt_cmpR (op_eqA hr) (pv 1) pe_int (nomark _)) (pss_one (ps_ret (pe_op op_sub (pe_cal c__law_next (hr.mono (by omega)) (pa_cons (pv 0) (pa_cons pe_int pa_nil))) pe_int))) pss_nil) (pss_one (ps_ret (pe_op op_sub (pe_cal c__law_next (hr.mono (by omega)) (pa_cons (pv 0) (pa_cons pe_int pa_nil))) pe_int)))))), ?_⟩
  rw [t_law_number]
  try dsimp only [cxOf, Cx.nox, Cx.wish]
  walk_at "rd"
  refine nx hl (by decide) fun r1 H1 a1 b1 S1 => ?_
  walk_at "rd"
  refine rd_ite (fun h1 => ?_) (fun h1 => ?_)
  · walk_at "rd"
    refine new_lst fun p H2 hp E2 h2 => ?_
    walk_at "rd"
    refine nx (by walk_at "sta") (by decide) fun r3 H3 a3 b3 S3 => ?_
    walk_at "rd"
    have hp3 : H3 p = _ := S3.fr p _ (ne_st S1.st hp) h2
    refine rd_ixLm (.of hp3) a3 (by simpa using b3) fun v hv => ?_
    have S : St1 l H H3 := (S1.trans (.ex S1.st E2)).trans S3
    simp only [List.mem_cons, List.not_mem_nil, or_false] at hv
    rcases hv with rfl | rfl | rfl | rfl <;> exact q _ _ (by decide) (by decide) S
  · walk_at "rd"
    refine rd_ite (fun h2 => ?_) (fun h2 => ?_)
    · walk_at "rd"
      refine nx S1.st (by decide) fun r2 H2 a2 b2 S2 => ?_
      walk_at "rd"
      exact q _ _ (by omega) (by omega) (S1.trans S2)
    · walk_at "rd"
      refine nx S1.st (by decide) fun r2 H2 a2 b2 S2 => ?_
      walk_at "rd"
      exact q _ _ (by omega) (by omega) (S1.trans S2)
def spTable (K : PySem.W.Frag) : Sp := sp1 fun a H Q => ∃ l, a = .ref l ∧ (∃ s, H l = some (.lst [.int s])) ∧ ∀ v rows H', GoodTab rows → Tv K H' v (.tup (rows.map rowT)) → St1 l H H' → Q v H'
theorem k__law_table (T : Tx K w mg) (c__law_next : Cal P w K mg base "_law_next" 1 p_law_next (spNext K)) (c__law_number : Cal P w K mg base "_law_number" 2 p_law_number (spNumb K)) : Cal P w K mg base "_law_table" 3 p_law_table (spTable K) := by
  refine cal1 T.F__law_table sc_law_table b_law_table rfl fun g cdv A outer s H a Q E hr h => ?_
  obtain ⟨l, rfl, hl, q⟩ := h
  refine ⟨_, (pss_cons (ps_set (i := 1) (sc_law_table).nd rfl (by first | exact Or.inl rfl | exact Or.inr rfl) (pe_op op_addA pe_int (pe_cal c__law_next (hr.mono (by omega)) (pa_cons (pv 0) (pa_cons pe_int pa_nil))))) (Evl.pss_cut (ps_if (pt_cmpR (op_eqA hr) (pe_cal c__law_next (hr.mono (by omega)) (pa_cons (pv 0) (pa_cons pe_int pa_nil))) pe_int (nomark _)) (pss_one (ps_set (i := 1) (sc_law_table).nd rfl (by first | exact Or.inl rfl | exact Or.inr rfl) (pe_op op_addA pe_int (pe_cal c__law_next (hr.mono (by omega)) (pa_cons (pv 0) (pa_cons pe_int pa_nil)))))) pss_nil) (pss_cons (ps_set (i := 2) (sc_law_table).nd rfl (by first | exact Or.inl rfl | exact Or.inr rfl) (pe_ix ix_seq (pe_lst (pa_cons (pe_un un_neg (pe_op op_pow pe_int pe_int)) (pa_cons (pe_op op_sub (pe_cal c__law_next (hr.mono (by omega)) (pa_cons (pv 0) (pa_cons pe_int pa_nil))) pe_int) (pa_cons (pe_op op_sub (pe_op op_pow pe_int pe_int) (pe_op op_mul pe_int (pv 1))) pa_nil)))) (pe_op op_fdiv (pe_cal c__law_next (hr.mono (by omega)) (pa_cons (pv 0) (pa_cons pe_int pa_nil))) pe_int) (fun _ _ => rfl))) (pss_cons (ps_set (i := 3) (sc_law_table).nd rfl (by first | exact Or.inl rfl | exact Or.inr rfl) (pe_lst pa_nil)) (pss_cons (ps_for PassesOwn.never rfl (pi_range1 (by rfl) T.m_range (pa_cons (pv 1) pa_nil)) (pg_name (i := 4) (sc_law_table).nd rfl (by first | exact Or.inl rfl | exact Or.inr rfl)) (pss_cons (ps_set (i := 5) (sc_law_table).nd rfl (by first | exact Or.inl rfl | exact Or.inr rfl) (pe_ix ix_seq (pe_lst (pa_cons pe_int (pa_cons pe_int (pa_cons (pe_cal c__law_next (hr.mono (by omega)) (pa_cons (pv 0) (pa_cons pe_int pa_nil))) pa_nil)))) (pe_cal c__law_next (hr.mono (by omega)) (pa_cons (pv 0) (pa_cons pe_int pa_nil))) (fun _ _ => rfl))) (pss_cons (ps_expr (pe_bm PySem.F.plainAttrs_list PySem.F.slot_list_append PySem.F.type_list_append mt_append (pv 3) (pa_cons (pe_tup (pa_cons (pv 2) (pa_cons (pe_cal c__law_number (hr.mono (by omega)) (pa_cons (pv 0) pa_nil)) (pa_cons (pv 5) pa_nil)))) pa_nil))) (pss_one (ps_set (i := 2) (sc_law_table).nd rfl (by first | exact Or.inl rfl | exact Or.inr rfl) (pe_op op_addA (pe_op op_addA (pv 2) pe_int) (pe_ix ix_seq (pe_lst (pa_cons (pe_cal c__law_next (hr.mono (by omega)) (pa_cons (pv 0) (pa_cons pe_int pa_nil))) (pa_cons (pe_cal c__law_next (hr.mono (by omega)) (pa_cons (pv 0) (pa_cons pe_int pa_nil))) pa_nil))) (pe_cal c__law_next (hr.mono (by omega)) (pa_cons (pv 0) (pa_cons pe_int pa_nil))) (fun _ _ => rfl)))))))) (pss_one (ps_ret (pe_callTy cr_tupOf (by rfl) T.m_tuple (by decide +kernel) (pa_cons (pv 3) pa_nil))))))))), ?_⟩
  rw [t_law_table]
  try dsimp only [cxOf, Cx.nox, Cx.wish]
  walk_at "rd"
  refine nx hl (by decide) fun r1 H1 a1 b1 S1 => ?_
  walk_at "rd"
  refine rd_cut (fun σ H' => ∃ m, σ = [some (.ref l), some (.int m), none, none, none, none] ∧ 1 ≤ m ∧ m ≤ 20 ∧ St1 l H H') ?_ ?_
  · walk_at "rd"
    refine nx S1.st (by decide) fun r2 H2 a2 b2 S2 => ?_
    walk_at "rd"
    refine rd_ite (fun h1 => ?_) (fun h1 => ?_)
    · walk_at "rd"
      refine nx S2.st (by decide) fun r3 H3 a3 b3 S3 => ?_
      walk_at "rd"
      exact ⟨_, rfl, by omega, by omega, (S1.trans S2).trans S3⟩
    · walk_at "rd"
      exact ⟨_, rfl, by omega, by omega, S1.trans S2⟩
  rintro σ H4 ⟨m, rfl, m0, m1, S4⟩
  walk_at "rd"
  refine nx S4.st (by decide) fun r5 H5 a5 b5 S5 => ?_
  walk_at "rd"
  refine new_lst fun p H6 hp E6 h6 => ?_
  walk_at "rd"
  refine nx (by walk_at "sta") (by decide) fun r7 H7 a7 b7 S7 => ?_
  walk_at "rd"
  have h7 : H7 p = _ := S7.fr p _ (ne_st S5.st hp) h6
  refine rd_ixLm (.of h7) (by omega) (by simp; omega) fun v hv => ?_
  obtain ⟨z, rfl, z0, z1⟩ : ∃ z : Int, v = .int z ∧ -1000000000 ≤ z ∧ z + 20000 * m ≤ 1000000000 := by
    simp only [List.mem_cons, List.not_mem_nil, or_false] at hv
    rcases hv with rfl | rfl | rfl
    · exact ⟨_, rfl, by omega, by omega⟩
    · exact ⟨_, rfl, by omega, by omega⟩
    · exact ⟨_, rfl, by omega, by omega⟩
  have S : St1 l H H7 := ((S4.trans S5).trans (.ex S5.st E6)).trans S7
  walk_at "rd"
  refine new_lst fun o H8 ho E8 h8 => ?_
  walk_at "rd"
  have hne : o ≠ l := ne_st S.st ho
  refine forW_R (fun i σ H' => ∃ rows st y w, σ = [some (.ref l), some (.int m), some (.int st), some (.ref o), y, w] ∧ Drawn K H' o rows i st z ∧ St1 l H H') ?_ ?_ ?_
  · exact ⟨[], _, _, _, rfl, ⟨⟨_, h8, .nil⟩, rfl, by simp, trivial, by simp, z0, by simp⟩, S.trans (.ex S.st E8)⟩
  · rintro i σ H9 hi ⟨rows, st, y, w, rfl, D, S9⟩
    obtain ⟨vs, ho9, hvs⟩ := D.at_
    have hi' : (i : Int) < m := by omega
    walk_at "rd"
    refine nx S9.st (by decide) fun r1 H10 a10 b10 S10 => ?_
    walk_at "rd"
    refine new_lst fun c H11 hc E11 h11 => ?_
    walk_at "rd"
    refine nx (by walk_at "sta") (by decide) fun r2 H12 a12 b12 S12 => ?_
    walk_at "rd"
    have h12 : H12 c = _ := S12.fr c _ (ne_st S10.st hc) h11
    refine rd_ixLm (.of h12) (by omega) (by simp; omega) fun v hv => ?_
    obtain ⟨pc, rfl, pc0, pc1⟩ : ∃ z : Int, v = .int z ∧ 0 ≤ z ∧ z ≤ 100 := by
      simp only [List.mem_cons, List.not_mem_nil, or_false] at hv
      rcases hv with rfl | rfl | rfl
      · exact ⟨_, rfl, by omega, by omega⟩
      · exact ⟨_, rfl, by omega, by omega⟩
      · exact ⟨_, rfl, by omega, by omega⟩
    clear hv
    have T12 : St1 l H9 H12 := (S10.trans (.ex S10.st E11)).trans S12
    have ho12 : H12 o = some (.lst vs) := T12.fr o _ hne ho9
    walk_at "rd"
    refine rd_sp1 ⟨l, rfl, T12.st, fun pl H13 p0 p1 S13 => ?_⟩
    walk_at "rd"
    refine new_tup fun t H14 ht E14 h14 => ?_
    walk_at "rd"
    have T14 : St1 l H9 H14 := (T12.trans S13).trans (.ex S13.st E14)
    have ho14 : H14 o = some (.lst vs) := T14.fr o _ hne ho9
    have lvs : vs.length = i := by rw [hvs.len, List.length_map, D.len]
    refine rd_append ho14 (by omega) ?_
    generalize eH : upd H14 o (.lst (vs ++ [.ref t])) = H15
    have T15 : Tame H14 H15 := by rw [← eH]; exact Tame.upd ho14
    have ho15 : H15 o = some (.lst (vs ++ [.ref t])) := by rw [← eH]; exact upd_same
    have hl15 : ∃ s, H15 l = some (.lst [.int s]) := by
      obtain ⟨s, hs⟩ := T14.st
      exact ⟨s, by rw [← eH, upd_ne (Ne.symm hne)]; exact hs⟩
    walk_at "rd"
    refine nx hl15 (by decide) fun r4 H16 a16 b16 S16 => ?_
    walk_at "rd"
    refine nx S16.st (by decide) fun r5 H17 a17 b17 S17 => ?_
    walk_at "rd"
    refine new_lst fun d H18 hd E18 h18 => ?_
    walk_at "rd"
    refine nx (by walk_at "sta") (by decide) fun r6 H19 a19 b19 S19 => ?_
    walk_at "rd"
    have h19 : H19 d = _ := S19.fr d _ (ne_st S17.st hd) h18
    refine rd_ixLm (.of h19) (by omega) (by simp; omega) fun v hv => ?_
    obtain ⟨up, rfl, up0, up1⟩ : ∃ z : Int, v = .int z ∧ 0 ≤ z ∧ z ≤ 19999 := by
      simp only [List.mem_cons, List.not_mem_nil, or_false] at hv
      rcases hv with rfl | rfl
      · exact ⟨_, rfl, by omega, by omega⟩
      · exact ⟨_, rfl, by omega, by omega⟩
    clear hv
    walk_at "rd"
    have T19 : St1 l H15 H19 := (((S16.trans S17).trans (.ex S17.st E18)).trans S19)
    have hrow : Tv K H15 (.ref t) (rowT ⟨st, pl, pc⟩) := .tup (SqT.of (by rw [← eH, upd_ne (by rintro rfl; rw [h14] at ho14; cases ho14)]; exact h14)) (.cons (.int _) (.cons (.int _) (.cons (.int _) .nil)))
    refine ⟨rows ++ [⟨st, pl, pc⟩], _, _, _, rfl, ⟨⟨_, T19.fr o _ hne ho15, ?_⟩, by rw [List.length_append, D.len]; rfl, ?_, riseR_snoc _ _ D.rise D.low, ?_, by have := D.s0; omega, by have := D.s1; omega⟩, ?_⟩
    · rw [List.map_append]
      exact T19.tame.tvA ((T15.tvA (T14.tame.tvA hvs)).append (.one hrow))
    · intro r hr
      rcases List.mem_append.mp hr with hr | hr
      · exact D.good r hr
      · cases List.mem_singleton.mp hr
        have := D.s0
        have := D.s1
        exact ⟨by show -1000000000 ≤ st; omega, by show st ≤ 1000000000; omega, p0, p1, pc0, pc1⟩
    · intro r hr
      rcases List.mem_append.mp hr with hr | hr
      · have := D.low r hr
        omega
      · cases List.mem_singleton.mp hr
        show st < _
        omega
    · have T : St1 l H H15 := by
        rw [← eH]
        exact (S9.trans T14).upd (S.free ho) ho14 hne
      exact T.trans T19
  · rintro σ H9 ⟨rows, st, y, w, rfl, D, S9⟩
    obtain ⟨vs, ho9, hvs⟩ := D.at_
    walk_at "rd"
    refine rd_tupOfL (.of ho9) fun t H10 ht E10 h10 => ?_
    refine q _ rows _ ⟨by have := D.len; omega, D.good, D.rise⟩ (.tup (SqT.of h10) ((Tame.ex E10).tvA hvs)) (S9.trans (.ex S9.st E10))
structure Words (K : PySem.W.Frag) (H : Hp) (p : Addr) (ws : List Str) : Prop where
  at_ : H p = some (.lst (ws.map V.str))
  one : 1 ≤ ws.length
  few : ws.length ≤ 100
  good : ∀ z ∈ ws, isWord (.str z) = true
theorem word_len {z : Str} (h : isWord (.str z) = true) : 1 ≤ z.length ∧ z.length ≤ 8 := by
  rw [isWord_str, Bool.and_eq_true, Bool.and_eq_true, decide_eq_true_iff, decide_eq_true_iff] at h
  exact h.1
def spWords (K : PySem.W.Frag) : Sp := sp1 fun a H Q => ∃ l, a = .ref l ∧ (∃ s, H l = some (.lst [.int s])) ∧ ∀ p ws H', Words K H' p ws → p ≠ l → H p = none → St1 l H H' → Q (.ref p) H'

theorem k__law_words (T : Tx K w mg) (c__law_next : Cal P w K mg base "_law_next" 1 p_law_next (spNext K)) : Cal P w K mg base "_law_words" 2 p_law_words (spWords K) := by
  refine cal1 T.F__law_words sc_law_words b_law_words rfl fun g cdv A outer s H a Q E hr h => ?_
  obtain ⟨l, rfl, hl, q⟩ := h
  refine ⟨_, (pss_cons (ps_set (i := 1) (sc_law_words).nd rfl (by first | exact Or.inl rfl | exact Or.inr rfl) pe_str) (pss_cons (ps_set (i := 2) (sc_law_words).nd rfl (by first | exact Or.inl rfl | exact Or.inr rfl) pe_str) (pss_cons (ps_for PassesOwn.never rfl (pi_range1 (by rfl) T.m_range (pa_cons pe_int pa_nil)) (pg_name (i := 3) (sc_law_words).nd rfl (by first | exact Or.inl rfl | exact Or.inr rfl)) (pss_one (ps_set (i := 2) (sc_law_words).nd rfl (by first | exact Or.inl rfl | exact Or.inr rfl) (pe_op op_addA (pv 2) (pe_ix ix_seq (pv 1) (pe_cal c__law_next (hr.mono (by omega)) (pa_cons (pv 0) (pa_cons pe_int pa_nil))) (fun _ _ => rfl)))))) (pss_cons (ps_set (i := 4) (sc_law_words).nd rfl (by first | exact Or.inl rfl | exact Or.inr rfl) (pe_lst (pa_cons (pe_slice sl_any (pv 2) po_none (po_some (pe_op op_addA pe_int (pe_cal c__law_next (hr.mono (by omega)) (pa_cons (pv 0) (pa_cons pe_int pa_nil)))))) (pa_cons (pv 2) pa_nil)))) (pss_cons (ps_for PassesOwn.never rfl (pi_range1 (by rfl) T.m_range (pa_cons pe_int pa_nil)) (pg_name (i := 3) (sc_law_words).nd rfl (by first | exact Or.inl rfl | exact Or.inr rfl)) (pss_cons (ps_set (i := 5) (sc_law_words).nd rfl (by first | exact Or.inl rfl | exact Or.inr rfl) (pe_cal c__law_next (hr.mono (by omega)) (pa_cons (pv 0) (pa_cons pe_int pa_nil)))) (pss_one (ps_expr (pe_bm PySem.F.plainAttrs_list PySem.F.slot_list_append PySem.F.type_list_append mt_append (pv 4) (pa_cons (pe_op op_addA (pe_op op_addA (pe_slice sl_any (pv 2) po_none (po_some (pv 5))) (pe_ix ix_seq (pv 1) (pe_cal c__law_next (hr.mono (by omega)) (pa_cons (pv 0) (pa_cons pe_int pa_nil))) (fun _ _ => rfl))) (pe_slice sl_any (pv 2) (po_some (pe_op op_addA (pv 5) pe_int)) (po_some (pe_op op_addA (pe_op op_addA pe_int (pv 5)) (pe_cal c__law_next (hr.mono (by omega)) (pa_cons (pv 0) (pa_cons pe_int pa_nil))))))) pa_nil)))))) (pss_one (ps_ret (pe_op op_addA (pv 4) (pe_slice sl_any (pe_lst (pa_cons pe_str (pa_cons pe_str (pa_cons pe_str pa_nil)))) po_none (po_some (pe_cal c__law_next (hr.mono (by omega)) (pa_cons (pv 0) (pa_cons pe_int pa_nil))))))))))))), ?_⟩
  rw [t_law_words]
  try dsimp only [cxOf, Cx.nox, Cx.wish]
  walk_at "rd"
  refine forW_R (fun i σ H' => ∃ b y, σ = [some (.ref l), some (.str letters), some (.str b), y, none, none] ∧ b.length = i ∧ lets b ∧ St1 l H H') ?_ ?_ ?_
  · exact ⟨_, _, rfl, rfl, (fun c hc => by cases hc), .refl hl⟩
  · rintro i σ H1 hi ⟨b, y, rfl, hb, lb, S1⟩
    walk_at "rd"
    refine nx S1.st (by decide) fun r2 H2 a2 b2 S2 => ?_
    walk_at "rd"
    refine rd_ixLet (z := letters) (by decide) lets_letters a2 (by show r2 < (26 : Int); exact b2) fun c hc lc => ?_
    walk_at "rd"
    have hi8 : i < 8 := hi
    refine rd_addS (by omega) ?_
    walk_at "rd"
    exact ⟨_, _, rfl, by rw [str_app_len]; omega, lets_app lb lc, S1.trans S2⟩
  rintro σ H1 ⟨b, y, rfl, hb, lb, S1⟩
  have hb8 : b.length = 8 := hb
  walk_at "rd"
  refine nx S1.st (by decide) fun r2 H2 a2 b2 S2 => ?_
  walk_at "rd"
  refine rd_slS (by omega) ?_
  have hb2 := cut_to b (1 + r2) (by omega)
  have lb2 := lets_cut lb none (some (1 + r2))
  generalize cutS b none (some (1 + r2)) = w2 at hb2 lb2
  have wb2 : isWord (.str w2) = true := word_of (by omega) (by omega) lb2
  have wb : isWord (.str b) = true := word_of (by omega) (by omega) lb
  walk_at "rd"
  refine new_lst fun o H3 ho E3 h3 => ?_
  walk_at "rd"
  have S3 : St1 l H H3 := (S1.trans S2).trans (.ex S2.st E3)
  have hne : o ≠ l := ne_st S2.st ho
  have hoH : H o = none := (S1.trans S2).free ho
  refine forW_R (fun i σ H' => ∃ (ws : List Str) (y z : Option V), σ = [some (.ref l), some (.str letters), some (.str b), y, some (.ref o), z] ∧ H' o = some (.lst (ws.map V.str)) ∧ ws.length = 2 + i ∧ (∀ t ∈ ws, isWord (.str t) = true) ∧ St1 l H H') ?_ ?_ ?_
  · exact ⟨[w2, b], _, _, rfl, h3, rfl, by
      intro z hz
      simp only [List.mem_cons, List.not_mem_nil, or_false] at hz
      rcases hz with rfl | rfl <;> assumption, S3⟩
  · rintro i σ H4 hi ⟨ws, y, z, rfl, h4, hw, hs, S4⟩
    have hi3 : i < 3 := hi
    walk_at "rd"
    refine nx S4.st (by decide) fun r5 H5 a5 b5 S5 => ?_
    walk_at "rd"
    refine rd_slS (by omega) ?_
    have hu1 := cut_to b r5 a5
    have lu1 := lets_cut lb none (some r5)
    generalize cutS b none (some r5) = u1 at hu1 lu1
    walk_at "rd"
    refine nx S5.st (by decide) fun r6 H6 a6 b6 S6 => ?_
    walk_at "rd"
    refine rd_ixLet (z := letters) (by decide) lets_letters a6 (by show r6 < (26 : Int); exact b6) fun c hc lc => ?_
    walk_at "rd"
    refine rd_addS (by omega) ?_
    walk_at "rd"
    refine nx S6.st (by decide) fun r7 H7 a7 b7 S7 => ?_
    walk_at "rd"
    refine rd_slS (by omega) ?_
    have hu3 := cut_from_le b (r5 + 1) (some (1 + r5 + r7)) (by omega)
    have lu3 := lets_cut lb (some (r5 + 1)) (some (1 + r5 + r7))
    generalize cutS b (some (r5 + 1)) (some (1 + r5 + r7)) = u3 at hu3 lu3
    walk_at "rd"
    have l12 := str_app_len u1 c
    refine rd_addS (by omega) ?_
    walk_at "rd"
    have l4 := str_app_len (u1 ++ c) u3
    have w4 : isWord (.str (u1 ++ c ++ u3)) = true := word_of (by omega) (by omega) (lets_app (lets_app lu1 lc) lu3)
    generalize u1 ++ c ++ u3 = u4 at w4
    have S57 : St1 l H4 H7 := (S5.trans S6).trans S7
    have h7 : H7 o = some (.lst (ws.map V.str)) := lst_st h4 S57 hne
    refine rd_append h7 (by rw [List.length_map]; omega) ?_
    walk_at "rd"
    refine ⟨ws ++ [u4], _, _, rfl, by rw [upd_same, List.map_append]; rfl, by rw [List.length_append, hw]; rfl, ?_, (S4.trans S57).upd hoH h7 hne⟩
    intro z hz
    rcases List.mem_append.mp hz with hz | hz
    · exact hs z hz
    · cases List.mem_singleton.mp hz
      exact w4
  rintro σ H4 ⟨ws, y, z, rfl, h4, hw, hs, S4⟩
  have hw5 : ws.length = 5 := hw
  walk_at "rd"
  refine new_lst fun m H5 hm E5 h5 => ?_
  walk_at "rd"
  refine nx (by walk_at "sta") (by decide) fun r6 H6 a6 b6 S6 => ?_
  walk_at "rd"
  have S46 : St1 l H4 H6 := (St1.ex S4.st E5).trans S6
  refine rd_slL (.of (lst_st h5 S6 (ne_st S4.st hm))) fun m7 H7 hm7 E7 h7 => ?_
  obtain ⟨k, j, ek⟩ := cutV_map V.str (["line", "paper", "add"] : List Str) none (some r6)
  have ek' : cutV [V.str "line", V.str "paper", V.str "add"] none (some r6) = _ := ek
  rw [ek'] at h7
  have h47 : H7 o = some (.lst (ws.map V.str)) := lst_ex (lst_st h4 S46 hne) E7
  have lk : ((List.drop k (["line", "paper", "add"] : List Str)).take j).length ≤ 3 := by
    rw [List.length_take, List.length_drop]
    show min j (3 - k) ≤ 3
    omega
  refine rd_addL h47 h7 (by rw [List.length_map, List.length_map]; omega) fun p8 H8 hp8 E8 h8 => ?_
  have S8 : St1 l H H8 := (S4.trans S46).trans (.ex S46.st (E7.trans E8))
  refine q p8 (ws ++ (List.drop k (["line", "paper", "add"] : List Str)).take j) H8 ⟨by rw [h8, List.map_append], by rw [List.length_append]; omega, by rw [List.length_append]; omega, ?_⟩ ?_ ?_ S8
  · intro z hz
    rcases List.mem_append.mp hz with hz | hz
    · exact hs z hz
    · have h9 := List.mem_of_mem_drop (List.mem_of_mem_take hz)
      simp only [List.mem_cons, List.not_mem_nil, or_false] at h9
      rcases h9 with rfl | rfl | rfl <;> decide +kernel
  · exact ne_st (sta_ex S46.st E7) hp8
  · exact (S4.trans S46).free (Qg.free_of E7 hp8)
structure Dr (K : PySem.W.Frag) (H : Hp) (l sn dz wd : Addr) (sz : Sz) (ns : List Int) : Prop where
  st : ∃ s, H l = some (.lst [.int s])
  seen : H sn = some (.lst (ns.map V.int))
  seenL : ns.length ≤ 100
  seenP : ∀ x ∈ ns, isPlace (.int x) sz.l = true
  seenN : sn ≠ l
  sizes : SqT K H dz [.int sz.l, .int sz.tb, .int sz.ch]
  words : ∃ ws, Words K H wd ws
  wordsN : wd ≠ l
  pos : 0 < sz.l
theorem Dr.mv {K : PySem.W.Frag} {H H' : Hp} {l seen dz wd : Addr} {sz : Sz} {ns : List Int} (e : Dr K H l seen dz wd sz ns) (S : St1 l H H') : Dr K H' l seen dz wd sz ns := by
  obtain ⟨ws, W⟩ := e.words
  exact ⟨S.st, lst_st e.seen S e.seenN, e.seenL, e.seenP, e.seenN, sqt_st e.sizes S, ⟨ws, lst_st W.at_ S e.wordsN, W.one, W.few, W.good⟩, e.wordsN, e.pos⟩
abbrev inS (ns : List Int) : Key → Prop := fun k => k ∈ ns.map Sum.inl
theorem place_i {i n : Int} (h : 0 ≤ i) (h' : i < n) : isPlace (.int i) n = true := by
  show (decide (0 ≤ i) && decide (i ≤ n - 1)) = true
  simp; omega
theorem num_i {i : Int} (h : -1000000000 ≤ i) (h' : i ≤ 1000000000) : isNum (.int i) = true := by
  show (decide ((-1000000000 : Int) ≤ i) && decide (i ≤ 1000000000)) = true
  simp; omega
theorem pct_i {i : Int} (h : 0 ≤ i) (h' : i ≤ 100) : isPct (.int i) = true := by
  show (decide ((0 : Int) ≤ i) && decide (i ≤ 100)) = true
  simp; omega
def spPlain (K : PySem.W.Frag) : Sp := sp4 fun a b c d H Q => ∃ l seen dz wd sz ns, a = .ref l ∧ b = .ref seen ∧ c = .ref dz ∧ d = .ref wd ∧ Dr K H l seen dz wd sz ns ∧ ∀ v t H', Tv K H' v t → RB sz 1 (inS ns) t → St1 l H H' → Q v H'

theorem k__law_plain (T : Tx K w mg) (c__law_next : Cal P w K mg base "_law_next" 1 p_law_next (spNext K)) (c__law_number : Cal P w K mg base "_law_number" 2 p_law_number (spNumb K)) : Cal P w K mg base "_law_plain" 3 p_law_plain (spPlain K) := by
  refine cal4 T.F__law_plain sc_law_plain b_law_plain rfl fun g cdv A outer s H a b c d Q E hr h => ?_
  obtain ⟨l, seen, dz, wd, sz, ns, rfl, rfl, rfl, rfl, En, q⟩ := h
  refine ⟨_, (pss_cons (ps_set (i := 4) (sc_law_plain).nd rfl (by first | exact Or.inl rfl | exact Or.inr rfl) (pe_cal c__law_next (hr.mono (by omega)) (pa_cons (pv 0) (pa_cons pe_int pa_nil)))) (pss_cons (ps_if (pt_cmpR (op_eqA hr) (pv 4) pe_int (nomark _)) (pss_one (ps_ret (pe_tup (pa_cons pe_str (pa_cons (pe_cal c__law_number (hr.mono (by omega)) (pa_cons (pv 0) pa_nil)) pa_nil))))) pss_nil) (pss_cons (ps_if (PW.pt (pw_and (pt_cmpR op_lt (pv 4) pe_int (nomark _)) (pw_and1 (pt_cmpR op_gt (pe_callB cr_lenA (by rfl) T.m_len (by decide +kernel) (pa_cons (pv 1) pa_nil)) pe_int (nomark _))))) (pss_one (ps_ret (pe_tup (pa_cons pe_str (pa_cons (pe_ix ix_seq (pv 1) (pe_cal c__law_next (hr.mono (by omega)) (pa_cons (pv 0) (pa_cons (pe_callB cr_lenA (by rfl) T.m_len (by decide +kernel) (pa_cons (pv 1) pa_nil)) pa_nil))) (fun _ _ => rfl)) pa_nil))))) pss_nil) (pss_cons (ps_if (pt_cmpR (op_eqA hr) (pv 4) pe_int (nomark _)) (pss_one (ps_ret (pe_tup (pa_cons pe_str (pa_cons (pe_cal c__law_next (hr.mono (by omega)) (pa_cons (pv 0) (pa_cons (pe_ix ix_seq (pv 2) pe_int (fun _ _ => rfl)) pa_nil))) pa_nil))))) pss_nil) (pss_one (ps_ret (pe_tup (pa_cons pe_str (pa_cons (pe_ix ix_seq (pv 3) (pe_cal c__law_next (hr.mono (by omega)) (pa_cons (pv 0) (pa_cons (pe_callB cr_lenA (by rfl) T.m_len (by decide +kernel) (pa_cons (pv 3) pa_nil)) pa_nil))) (fun _ _ => rfl)) pa_nil))))))))), ?_⟩
  rw [t_law_plain]
  try dsimp only [cxOf, Cx.nox, Cx.wish]
  walk_at "rd"
  refine nx En.st (by decide) fun r1 H1 a1 b1 S1 => ?_
  have En1 := En.mv S1
  have hn := En1.seen
  have ln := En1.seenL
  obtain ⟨ws, W⟩ := En1.words
  walk_at "rd"
  refine rd_ite (fun h1 => ?_) (fun h1 => ?_)
  · walk_at "rd"
    refine rd_sp1 ⟨l, rfl, S1.st, fun r H2 a2 b2 S2 => ?_⟩
    walk_at "rd"
    refine new_tup fun p H3 hp E3 h3 => ?_
    exact q _ _ _ (.tup (.of h3) (.cons (.str _ (by decide)) (.cons (.int _) .nil))) (RB.number (num_i a2 b2)) ((S1.trans S2).trans (.ex S2.st E3))
  walk_at "rd"
  refine (fun rest => rd_ite (fun h2 => ?_) (fun _ => rest)) ?_
  · walk_at "rda"
    rw [List.length_map]
    refine rd_ite (fun h3 => ?_) (fun _ => rest)
    walk_at "rda"
    rw [List.length_map]
    refine nx En1.st h3 fun r2 H2 a2 b2 S2 => ?_
    walk_at "rda"
    have hn2 := (En1.mv S2).seen
    refine rd_ixLm (.of hn2) a2 (by rw [List.length_map]; omega) fun v hv => ?_
    obtain ⟨i, hi, rfl⟩ := List.mem_map.mp hv
    walk_at "rd"
    refine new_tup fun p H3 hp E3 h3 => ?_
    exact q _ _ _ (.tup (.of h3) (.cons (.str _ (by decide)) (.cons (.int _) .nil))) (RB.line (En1.seenP i hi) (List.mem_map.mpr ⟨i, hi, rfl⟩)) ((S1.trans S2).trans (.ex S2.st E3))
  walk_at "rd"
  refine rd_ite (fun h2 => ?_) (fun h2 => ?_)
  · walk_at "rd"
    have hz := En1.sizes
    walk_at "rda"
    refine nx En1.st En1.pos fun r2 H2 a2 b2 S2 => ?_
    walk_at "rd"
    refine new_tup fun p H3 hp E3 h3 => ?_
    exact q _ _ _ (.tup (.of h3) (.cons (.str _ (by decide)) (.cons (.int _) .nil))) (RB.earlier (place_i a2 b2)) ((S1.trans S2).trans (.ex S2.st E3))
  walk_at "rd"
  have hw1 := W.at_
  walk_at "rda"
  rw [List.length_map]
  have := W.one
  refine nx En1.st (by omega) fun r2 H2 a2 b2 S2 => ?_
  walk_at "rd"
  refine rd_ixLm (.of (lst_st hw1 S2 En1.wordsN)) a2 (by rw [List.length_map]; omega) fun v hv => ?_
  obtain ⟨z, hz, rfl⟩ := List.mem_map.mp hv
  have := word_len (W.good z hz)
  walk_at "rd"
  refine new_tup fun p H3 hp E3 h3 => ?_
  exact q _ _ _ (.tup (.of h3) (.cons (.str _ (by decide)) (.cons (.str _ (by omega)) .nil))) (RB.paper (W.good z hz)) ((S1.trans S2).trans (.ex S2.st E3))
def spRule (K : PySem.W.Frag) (N : Nat) : Sp := sp5 fun a b c d e H Q => ∃ l sn dz wd sz ns n, n ≤ N ∧ a = .ref l ∧ b = .int ((n : Nat) + 1 : Int) ∧ c = .ref sn ∧ d = .ref dz ∧ e = .ref wd ∧ Dr K H l sn dz wd sz ns ∧ ∀ v t H', Tv K H' v t → RB sz (n + 1) (inS ns) t → St1 l H H' → Q v H'

theorem k_lrule {N m : Nat} (T : Tx K w mg) (c__law_next : Cal P w K mg base "_law_next" 1 p_law_next (spNext K)) (c__law_plain : Cal P w K mg base "_law_plain" 3 p_law_plain (spPlain K)) (c__law_rule : Cal P w K mg base "_law_rule" m p_law_rule (spRule K N)) (hm : 3 ≤ m) :
    Cal P w K mg base "_law_rule" (m + 1) p_law_rule (spRule K (N + 1)) := by
  refine cal5 T.F__law_rule sc_law_rule b_law_rule rfl fun g cdv A outer s H a b c d e Q E hr h => ?_
  obtain ⟨l, sn, dz, wd, sz, ns, n, hn, rfl, rfl, rfl, rfl, rfl, En, q⟩ := h
  refine ⟨_, (pss_cons (ps_set (i := 5) (sc_law_rule).nd rfl (by first | exact Or.inl rfl | exact Or.inr rfl) (pe_cal c__law_next (hr.mono (by omega)) (pa_cons (pv 0) (pa_cons pe_int pa_nil)))) (pss_cons (ps_if (PW.pt (pw_or (pt_cmpR op_lt (pv 1) pe_int (nomark _)) (pw_or1 (pt_cmpR op_lt (pv 5) pe_int (nomark _))))) (pss_one (ps_ret (pe_cal c__law_plain (hr.mono (by omega)) (pa_cons (pv 0) (pa_cons (pv 2) (pa_cons (pv 3) (pa_cons (pv 4) pa_nil))))))) pss_nil) (pss_cons (ps_set (i := 6) (sc_law_rule).nd rfl (by first | exact Or.inl rfl | exact Or.inr rfl) (pe_cal c__law_rule (hr.mono (by omega)) (pa_cons (pv 0) (pa_cons (pe_op op_sub (pv 1) pe_int) (pa_cons (pv 2) (pa_cons (pv 3) (pa_cons (pv 4) pa_nil))))))) (pss_cons (ps_if (pt_cmpR (op_eqA hr) (pv 5) pe_int (nomark _)) (pss_one (ps_ret (pe_tup (pa_cons pe_str (pa_cons (pv 6) (pa_cons (pe_ix ix_seq (pe_lst (pa_cons pe_int (pa_cons pe_int (pa_cons (pe_cal c__law_next (hr.mono (by omega)) (pa_cons (pv 0) (pa_cons pe_int pa_nil))) pa_nil)))) (pe_cal c__law_next (hr.mono (by omega)) (pa_cons (pv 0) (pa_cons pe_int pa_nil))) (fun _ _ => rfl)) pa_nil)))))) pss_nil) (pss_cons (ps_if (PW.pt (pw_and (pt_cmpR (op_eqA hr) (pv 5) pe_int (nomark _)) (pw_and1 (pt_cmpR op_gt (pe_ix ix_seq (pv 3) pe_int (fun _ _ => rfl)) pe_int (nomark _))))) (pss_one (ps_ret (pe_tup (pa_cons pe_str (pa_cons (pe_cal c__law_next (hr.mono (by omega)) (pa_cons (pv 0) (pa_cons (pe_ix ix_seq (pv 3) pe_int (fun _ _ => rfl)) pa_nil))) (pa_cons (pv 6) pa_nil)))))) pss_nil) (pss_cons (ps_if (pt_cmpR (op_eqA hr) (pv 5) pe_int (nomark _)) (pss_one (ps_ret (pv 6))) pss_nil) (pss_cons (ps_set (i := 7) (sc_law_rule).nd rfl (by first | exact Or.inl rfl | exact Or.inr rfl) (pe_cal c__law_rule (hr.mono (by omega)) (pa_cons (pv 0) (pa_cons (pe_callB (cr_min2 rfl) (by rfl) T.m_min (by decide +kernel) (pa_cons (pe_op op_sub (pv 1) pe_int) (pa_cons pe_int pa_nil))) (pa_cons (pv 2) (pa_cons (pv 3) (pa_cons (pv 4) pa_nil))))))) (Evl.pss_cut (ps_if (pt_cmpR (op_eqA hr) (pe_cal c__law_next (hr.mono (by omega)) (pa_cons (pv 0) (pa_cons pe_int pa_nil))) pe_int (nomark _)) (pss_one (ps_par (i := 6) (j := 7) rfl (sc_law_rule).nd rfl rfl (by decide) rfl rfl (pa_cons (pv 7) (pa_cons (pv 6) pa_nil)) (by rfl))) pss_nil) (pss_cons (ps_if (pt_cmpR op_lt (pv 5) pe_int (nomark _)) (pss_one (ps_ret (pe_tup (pa_cons (pe_ix ix_seq (pe_lst (pa_cons pe_str (pa_cons pe_str (pa_cons pe_str (pa_cons pe_str pa_nil))))) (pe_op op_sub (pv 5) pe_int) (fun _ _ => rfl)) (pa_cons (pv 6) (pa_cons (pv 7) pa_nil)))))) pss_nil) (pss_cons (ps_if (pt_cmpR op_lt (pv 5) pe_int (nomark _)) (pss_one (ps_ret (pe_tup (pa_cons pe_str (pa_cons (pv 6) (pa_cons (pv 7) (pa_cons (pe_cal c__law_rule (hr.mono (by omega)) (pa_cons (pv 0) (pa_cons (pe_callB (cr_min2 rfl) (by rfl) T.m_min (by decide +kernel) (pa_cons (pe_op op_sub (pv 1) pe_int) (pa_cons pe_int pa_nil))) (pa_cons (pv 2) (pa_cons (pv 3) (pa_cons (pv 4) pa_nil)))))) pa_nil))))))) pss_nil) (pss_cons (ps_if (pt_cmpR op_gt (pe_ix ix_seq (pv 3) pe_int (fun _ _ => rfl)) pe_int (nomark _)) (pss_one (ps_ret (pe_tup (pa_cons pe_str (pa_cons (pe_cal c__law_next (hr.mono (by omega)) (pa_cons (pv 0) (pa_cons (pe_ix ix_seq (pv 3) pe_int (fun _ _ => rfl)) pa_nil))) (pa_cons (pv 6) (pa_cons (pv 7) pa_nil))))))) pss_nil) (pss_one (ps_ret (pe_tup (pa_cons pe_str (pa_cons (pv 7) (pa_cons (pv 6) pa_nil))))))))))))))))), ?_⟩
  rw [t_law_rule]
  try dsimp only [cxOf, Cx.nox, Cx.wish]
  walk_at "rd"
  refine nx En.st (by decide) fun kd H1 a1 b1 S1 => ?_
  have En1 := En.mv S1
  walk_at "rd"
  refine rd_ite (fun h1 => ?_) (fun h1 => ?_)
  · walk_at "rd"
    exact rd_sp4 ⟨l, sn, dz, wd, sz, ns, rfl, rfl, rfl, rfl, En1, fun v t H2 tv sh S2 => q v t H2 tv (RB.mono sh (by omega)) (S1.trans S2)⟩
  walk_at "rd"
  refine rd_ite (fun h2 => ?_) (fun h2 => ?_)
  · walk_at "rd"
    exact rd_sp4 ⟨l, sn, dz, wd, sz, ns, rfl, rfl, rfl, rfl, En1, fun v t H2 tv sh S2 => q v t H2 tv (RB.mono sh (by omega)) (S1.trans S2)⟩
  walk_at "rd"
  obtain ⟨k, rfl⟩ : ∃ k, n = k + 1 := ⟨n - 1, by omega⟩
  refine rd_sp5 ⟨l, sn, dz, wd, sz, ns, k, by omega, rfl, by congr 1; omega, rfl, rfl, rfl, En1, fun v1 t1 H2 tv1 sh1 S2 => ?_⟩
  have En2 := En1.mv S2
  have S02 := S1.trans S2
  have hz := En2.sizes
  walk_at "rd"
  refine rd_ite (fun h3 => ?_) (fun h3 => ?_)
  · walk_at "rd"
    refine nx En2.st (by decide) fun r3 H3 a3 b3 S3 => ?_
    walk_at "rd"
    refine new_lst fun o H4 ho E4 h4 => ?_
    walk_at "rd"
    refine nx (by walk_at "sta") (by decide) fun r5 H5 a5 b5 S5 => ?_
    walk_at "rd"
    refine rd_ixLm (.of (lst_st h4 S5 (ne_st S3.st ho))) a5 (by simp; omega) fun v hv => ?_
    have S25 : St1 l H2 H5 := (S3.trans (.ex S3.st E4)).trans S5
    obtain ⟨i, rfl, i0, i1⟩ : ∃ i, v = V.int i ∧ 0 ≤ i ∧ i ≤ 100 := by
      simp only [List.mem_cons, List.not_mem_nil, or_false] at hv
      rcases hv with rfl | rfl | rfl
      · exact ⟨_, rfl, by decide, by decide⟩
      · exact ⟨_, rfl, by decide, by decide⟩
      · exact ⟨_, rfl, by omega, by omega⟩
    walk_at "rd"
    refine new_tup fun p H6 hp E6 h6 => ?_
    exact q _ _ _ (.tup (.of h6) (.cons (.str _ (by decide)) (.cons (tv_ex (tv_st tv1 S25) E6) (.cons (.int i) .nil)))) (RB.part sh1 (pct_i i0 i1)) ((S02.trans S25).trans (.ex S25.st E6))
  walk_at "rd"
  refine (fun rest => rd_ite (fun h4 => ?_) (fun _ => rest)) ?_
  · walk_at "rda"
    refine rd_ite (fun h5 => ?_) (fun _ => rest)
    walk_at "rda"
    refine nx En2.st (by omega) fun r3 H3 a3 b3 S3 => ?_
    walk_at "rda"
    rename_i p H4 _ E4 h4
    exact q _ _ _ (.tup (.of h4) (.cons (.str _ (by decide)) (.cons (.int _) (.cons (tv_ex (tv_st tv1 S3) E4) .nil)))) (RB.table (place_i a3 b3) sh1) ((S02.trans S3).trans (.ex S3.st E4))
  walk_at "rd"
  refine rd_ite (fun h4 => ?_) (fun h4 => ?_)
  · walk_at "rd"
    exact q _ _ _ tv1 (RB.mono sh1 (by omega)) S02
  walk_at "rd"
  obtain ⟨j, hj, ej⟩ : ∃ j : Nat, j ≤ k ∧ (if (2 : Int) < ((k + 1 : Nat) : Int) + 1 - 1 then (2 : Int) else ((k + 1 : Nat) : Int) + 1 - 1) = (j : Nat) + 1 := by
    by_cases h : 2 < k + 1
    · exact ⟨1, by omega, by rw [if_pos (by omega)]; rfl⟩
    · exact ⟨k, by omega, by rw [if_neg (by omega)]; omega⟩
  rw [ej]
  refine rd_sp5 ⟨l, sn, dz, wd, sz, ns, j, by omega, rfl, rfl, rfl, rfl, rfl, En2, fun v2 t2 H3 tv2 sh2 S3 => ?_⟩
  have En3 := En2.mv S3
  have S03 := S02.trans S3
  walk_at "rd"
  refine rd_cut (fun σ H' => ∃ u v tu tv, σ = [some (.ref l), some (.int (((k + 1 : Nat) : Int) + 1)), some (.ref sn), some (.ref dz), some (.ref wd), some (.int kd), some u, some v] ∧ Tv K H' u tu ∧ Tv K H' v tv ∧ RB sz (k + 1) (inS ns) tu ∧ RB sz (k + 1) (inS ns) tv ∧ St1 l H H') ?_ ?_
  · walk_at "rd"
    refine nx En3.st (by decide) fun r4 H4 a4 b4 S4 => ?_
    walk_at "rd"
    have x1 := tv_st (tv_st tv1 S3) S4
    have x2 := tv_st tv2 S4
    refine rd_ite (fun h5 => ?_) (fun h5 => ?_)
    · walk_at "rd"
      refine rd_par2 rfl ?_
      exact ⟨_, _, _, _, rfl, x2, x1, RB.mono sh2 (by omega), sh1, S03.trans S4⟩
    · walk_at "rd"
      exact ⟨_, _, _, _, rfl, x1, x2, sh1, RB.mono sh2 (by omega), S03.trans S4⟩
  rintro σ H4 ⟨u, v, tu, tv, rfl, hu, hv, su, sv, S4⟩
  have En4 := En.mv S4
  have hz4 := En4.sizes
  walk_at "rd"
  refine rd_ite (fun h5 => ?_) (fun h5 => ?_)
  · walk_at "rd"
    refine new_lst fun o H5 ho E5 h5 => ?_
    walk_at "rd"
    refine rd_ixLm (.of h5) (by omega) (by simp; omega) fun y hy => ?_
    obtain ⟨z, rfl, hz, hz4⟩ : ∃ z : Str, y = V.str z ∧ z.length ≤ 1000 ∧ z ∈ (["add", "take", "least", "most"] : List Str) := by
      simp only [List.mem_cons, List.not_mem_nil, or_false] at hy
      rcases hy with rfl | rfl | rfl | rfl <;> exact ⟨_, rfl, by decide, by decide⟩
    walk_at "rd"
    refine new_tup fun p H6 hp E6 h6 => ?_
    have E46 : Ex H4 H6 := E5.trans E6
    exact q _ _ _ (.tup (.of h6) (.cons (.str z hz) (.cons (tv_ex hu E46) (.cons (tv_ex hv E46) .nil)))) (RB.two hz4 su sv) (S4.trans (.ex S4.st E46))
  walk_at "rd"
  refine rd_ite (fun h6 => ?_) (fun h6 => ?_)
  · walk_at "rd"
    rw [ej]
    refine rd_sp5 ⟨l, sn, dz, wd, sz, ns, j, by omega, rfl, rfl, rfl, rfl, rfl, En4, fun v3 t3 H5 tv3 sh3 S5 => ?_⟩
    walk_at "rd"
    refine new_tup fun p H6 hp E6 h6 => ?_
    exact q _ _ _ (.tup (.of h6) (.cons (.str _ (by decide)) (.cons (tv_ex (tv_st hu S5) E6) (.cons (tv_ex (tv_st hv S5) E6) (.cons (tv_ex tv3 E6) .nil))))) (RB.where_ su sv (RB.mono sh3 (by omega))) ((S4.trans S5).trans (.ex S5.st E6))
  walk_at "rda"
  refine rd_ite (fun h7 => ?_) (fun h7 => ?_)
  · walk_at "rda"
    refine nx En4.st (by omega) fun r5 H5 a5 b5 S5 => ?_
    walk_at "rd"
    refine new_tup fun p H6 hp E6 h6 => ?_
    exact q _ _ _ (.tup (.of h6) (.cons (.str _ (by decide)) (.cons (.int _) (.cons (tv_ex (tv_st hu S5) E6) (.cons (tv_ex (tv_st hv S5) E6) .nil))))) (RB.choose (place_i a5 b5) su sv) ((S4.trans S5).trans (.ex S5.st E6))
  · walk_at "rd"
    refine new_tup fun p H6 hp E6 h6 => ?_
    exact q _ _ _ (.tup (.of h6) (.cons (.str _ (by decide)) (.cons (tv_ex hv E6) (.cons (tv_ex hu E6) .nil)))) (RB.two (by decide) sv su) (S4.trans (.ex S4.st E6))
theorem k_lrule0 (T : Tx K w mg) (c__law_next : Cal P w K mg base "_law_next" 1 p_law_next (spNext K)) (c__law_plain : Cal P w K mg base "_law_plain" 3 p_law_plain (spPlain K)) : Cal P w K mg base "_law_rule" 4 p_law_rule (spRule K 0) := by
  have c__law_rule : Cal P w K mg base "_law_rule" 1 p_law_rule spNo := cal_no T.F__law_rule sc_law_rule b_law_rule
  refine cal5 T.F__law_rule sc_law_rule b_law_rule rfl fun g cdv A outer s H a b c d e Q E hr h => ?_
  obtain ⟨l, sn, dz, wd, sz, ns, n, hn, rfl, rfl, rfl, rfl, rfl, En, q⟩ := h
  obtain rfl : n = 0 := by omega
  refine ⟨_, (pss_cons (ps_set (i := 5) (sc_law_rule).nd rfl (by first | exact Or.inl rfl | exact Or.inr rfl) (pe_cal c__law_next (hr.mono (by omega)) (pa_cons (pv 0) (pa_cons pe_int pa_nil)))) (pss_cons (ps_if (PW.pt (pw_or (pt_cmpR op_lt (pv 1) pe_int (nomark _)) (pw_or1 (pt_cmpR op_lt (pv 5) pe_int (nomark _))))) (pss_one (ps_ret (pe_cal c__law_plain (hr.mono (by omega)) (pa_cons (pv 0) (pa_cons (pv 2) (pa_cons (pv 3) (pa_cons (pv 4) pa_nil))))))) pss_nil) (pss_cons (ps_set (i := 6) (sc_law_rule).nd rfl (by first | exact Or.inl rfl | exact Or.inr rfl) (pe_cal c__law_rule (hr.mono (by omega)) (pa_cons (pv 0) (pa_cons (pe_op op_sub (pv 1) pe_int) (pa_cons (pv 2) (pa_cons (pv 3) (pa_cons (pv 4) pa_nil))))))) (pss_cons (ps_if (pt_cmpR (op_eqA hr) (pv 5) pe_int (nomark _)) (pss_one (ps_ret (pe_tup (pa_cons pe_str (pa_cons (pv 6) (pa_cons (pe_ix ix_seq (pe_lst (pa_cons pe_int (pa_cons pe_int (pa_cons (pe_cal c__law_next (hr.mono (by omega)) (pa_cons (pv 0) (pa_cons pe_int pa_nil))) pa_nil)))) (pe_cal c__law_next (hr.mono (by omega)) (pa_cons (pv 0) (pa_cons pe_int pa_nil))) (fun _ _ => rfl)) pa_nil)))))) pss_nil) (pss_cons (ps_if (PW.pt (pw_and (pt_cmpR (op_eqA hr) (pv 5) pe_int (nomark _)) (pw_and1 (pt_cmpR op_gt (pe_ix ix_seq (pv 3) pe_int (fun _ _ => rfl)) pe_int (nomark _))))) (pss_one (ps_ret (pe_tup (pa_cons pe_str (pa_cons (pe_cal c__law_next (hr.mono (by omega)) (pa_cons (pv 0) (pa_cons (pe_ix ix_seq (pv 3) pe_int (fun _ _ => rfl)) pa_nil))) (pa_cons (pv 6) pa_nil)))))) pss_nil) (pss_cons (ps_if (pt_cmpR (op_eqA hr) (pv 5) pe_int (nomark _)) (pss_one (ps_ret (pv 6))) pss_nil) (pss_cons (ps_set (i := 7) (sc_law_rule).nd rfl (by first | exact Or.inl rfl | exact Or.inr rfl) (pe_cal c__law_rule (hr.mono (by omega)) (pa_cons (pv 0) (pa_cons (pe_callB (cr_min2 rfl) (by rfl) T.m_min (by decide +kernel) (pa_cons (pe_op op_sub (pv 1) pe_int) (pa_cons pe_int pa_nil))) (pa_cons (pv 2) (pa_cons (pv 3) (pa_cons (pv 4) pa_nil))))))) (Evl.pss_cut (ps_if (pt_cmpR (op_eqA hr) (pe_cal c__law_next (hr.mono (by omega)) (pa_cons (pv 0) (pa_cons pe_int pa_nil))) pe_int (nomark _)) (pss_one (ps_par (i := 6) (j := 7) rfl (sc_law_rule).nd rfl rfl (by decide) rfl rfl (pa_cons (pv 7) (pa_cons (pv 6) pa_nil)) (by rfl))) pss_nil) (pss_cons (ps_if (pt_cmpR op_lt (pv 5) pe_int (nomark _)) (pss_one (ps_ret (pe_tup (pa_cons (pe_ix ix_seq (pe_lst (pa_cons pe_str (pa_cons pe_str (pa_cons pe_str (pa_cons pe_str pa_nil))))) (pe_op op_sub (pv 5) pe_int) (fun _ _ => rfl)) (pa_cons (pv 6) (pa_cons (pv 7) pa_nil)))))) pss_nil) (pss_cons (ps_if (pt_cmpR op_lt (pv 5) pe_int (nomark _)) (pss_one (ps_ret (pe_tup (pa_cons pe_str (pa_cons (pv 6) (pa_cons (pv 7) (pa_cons (pe_cal c__law_rule (hr.mono (by omega)) (pa_cons (pv 0) (pa_cons (pe_callB (cr_min2 rfl) (by rfl) T.m_min (by decide +kernel) (pa_cons (pe_op op_sub (pv 1) pe_int) (pa_cons pe_int pa_nil))) (pa_cons (pv 2) (pa_cons (pv 3) (pa_cons (pv 4) pa_nil)))))) pa_nil))))))) pss_nil) (pss_cons (ps_if (pt_cmpR op_gt (pe_ix ix_seq (pv 3) pe_int (fun _ _ => rfl)) pe_int (nomark _)) (pss_one (ps_ret (pe_tup (pa_cons pe_str (pa_cons (pe_cal c__law_next (hr.mono (by omega)) (pa_cons (pv 0) (pa_cons (pe_ix ix_seq (pv 3) pe_int (fun _ _ => rfl)) pa_nil))) (pa_cons (pv 6) (pa_cons (pv 7) pa_nil))))))) pss_nil) (pss_one (ps_ret (pe_tup (pa_cons pe_str (pa_cons (pv 7) (pa_cons (pv 6) pa_nil))))))))))))))))), ?_⟩
  rw [t_law_rule]
  try dsimp only [cxOf, Cx.nox, Cx.wish]
  walk_at "rd"
  refine nx En.st (by decide) fun kd H1 a1 b1 S1 => ?_
  have En1 := En.mv S1
  walk_at "rd"
  first
  | exact rd_sp4 ⟨l, sn, dz, wd, sz, ns, rfl, rfl, rfl, rfl, En1, fun v t H2 tv sh S2 => q v t H2 tv (RB.mono sh (by omega)) (S1.trans S2)⟩
  | (refine rd_ite (fun h1 => ?_) (fun h1 => by omega)
     walk_at "rd"
     exact rd_sp4 ⟨l, sn, dz, wd, sz, ns, rfl, rfl, rfl, rfl, En1, fun v t H2 tv sh S2 => q v t H2 tv (RB.mono sh (by omega)) (S1.trans S2)⟩)
theorem k_lrulen (T : Tx K w mg) (c__law_next : Cal P w K mg base "_law_next" 1 p_law_next (spNext K)) (c__law_plain : Cal P w K mg base "_law_plain" 3 p_law_plain (spPlain K)) : ∀ n : Nat, Cal P w K mg base "_law_rule" (4 + n) p_law_rule (spRule K n)
  | 0 => k_lrule0 T c__law_next c__law_plain
  | n + 1 => k_lrule T c__law_next c__law_plain (k_lrulen T c__law_next c__law_plain n) (show 3 ≤ 4 + n by omega)
end
end KF
open PySem PySem.Spec PyProof.Rows L2 Qa Qr
open Qg


namespace KF
section
variable {P : Program} {w : World} {K : PySem.W.Frag} {mg : Str → Option Value} {base : Heap} {H : Hp} {Q : VK} {E : XK}
def spSizes (K : PySem.W.Frag) : Sp := sp2 fun a b H Q => ∃ (c : Int) (M : Nat), a = .int c ∧ b = .int M ∧ 7 ≤ M ∧ M ≤ 40 ∧ ∀ p H' (n tb ch : Nat), SqT K H' p [.int (n : Int), .int (tb : Int), .int (ch : Int)] → 1 ≤ n → n ≤ M → tb ≤ 5 → ch ≤ 8 → Ex H H' → Q (.ref p) H'
theorem k__law_sizes (T : Tx K w mg) : Cal P w K mg base "_law_sizes" 1 p_law_sizes (spSizes K) := by
  refine cal2 T.F__law_sizes sc_law_sizes b_law_sizes rfl fun g cdv A outer s H a b Q E hr h => ?_
  obtain ⟨c, M, rfl, rfl, hM, hM2, q⟩ := h
  refine ⟨_, (pss_cons (ps_set (i := 2) (sc_law_sizes).nd rfl (by first | exact Or.inl rfl | exact Or.inr rfl) (pe_op op_addA pe_int (pe_op op_mod (pv 0) pe_int))) (Evl.pss_cut (ps_if (pt_cmpR (op_eqA hr) (pe_op op_mod (pe_op op_fdiv (pv 0) pe_int) pe_int) pe_int (nomark _)) (pss_one (ps_set (i := 2) (sc_law_sizes).nd rfl (by first | exact Or.inl rfl | exact Or.inr rfl) (pe_op op_addA pe_int (pe_op op_mod (pe_op op_fdiv (pv 0) pe_int) (pe_op op_sub (pv 1) pe_int))))) pss_nil) (pss_cons (ps_set (i := 3) (sc_law_sizes).nd rfl (by first | exact Or.inl rfl | exact Or.inr rfl) (pe_op op_mod (pe_op op_fdiv (pv 0) pe_int) pe_int)) (Evl.pss_cut (ps_if (pt_cmpR (op_eqA hr) (pe_op op_mod (pe_op op_fdiv (pv 0) pe_int) pe_int) pe_int (nomark _)) (pss_one (ps_set (i := 3) (sc_law_sizes).nd rfl (by first | exact Or.inl rfl | exact Or.inr rfl) (pe_op op_addA pe_int (pe_op op_mod (pe_op op_fdiv (pv 0) pe_int) pe_int)))) pss_nil) (pss_cons (ps_set (i := 4) (sc_law_sizes).nd rfl (by first | exact Or.inl rfl | exact Or.inr rfl) (pe_op op_mod (pe_op op_fdiv (pv 0) pe_int) pe_int)) (Evl.pss_cut (ps_if (pt_cmpR (op_eqA hr) (pe_op op_mod (pe_op op_fdiv (pv 0) pe_int) pe_int) pe_int (nomark _)) (pss_one (ps_set (i := 4) (sc_law_sizes).nd rfl (by first | exact Or.inl rfl | exact Or.inr rfl) (pe_op op_addA pe_int (pe_op op_mod (pe_op op_fdiv (pv 0) pe_int) pe_int)))) pss_nil) (pss_one (ps_ret (pe_tup (pa_cons (pv 2) (pa_cons (pv 3) (pa_cons (pv 4) pa_nil)))))))))))), ?_⟩
  rw [t_law_sizes]
  try dsimp only [cxOf, Cx.nox, Cx.wish]
  walk_at "rd"
  refine rd_cut (fun σ H' => ∃ n : Nat, σ = [some (.int c), some (.int M), some (.int n), none, none] ∧ 1 ≤ n ∧ n ≤ M ∧ H = H') ?_ ?_
  · walk_at "rd"
    refine rd_ite (fun h => ?_) (fun h => ?_)
    · walk_at "rd"
      have a0 := Int.emod_nonneg (c / 36) (show (M : Int) - 6 ≠ 0 by omega)
      have a1 := Int.emod_lt_of_pos (c / 36) (show 0 < (M : Int) - 6 by omega)
      generalize c / 36 % ((M : Int) - 6) = x at a0 a1
      exact ⟨(7 + x).toNat, by rw [show (((7 + x).toNat : Nat) : Int) = 7 + x by omega], by omega, by omega, rfl⟩
    · walk_at "rd"
      exact ⟨(1 + c % 6).toNat, by rw [show (((1 + c % 6).toNat : Nat) : Int) = 1 + c % 6 by omega], by omega, by omega, rfl⟩
  rintro σ H1 ⟨n, rfl, n1, n2, rfl⟩
  walk_at "rd"
  refine rd_cut (fun σ H' => ∃ tb : Nat, σ = [some (.int c), some (.int M), some (.int n), some (.int tb), none] ∧ tb ≤ 5 ∧ H = H') ?_ ?_
  · walk_at "rd"
    refine rd_ite (fun h => ?_) (fun h => ?_)
    · walk_at "rd"
      exact ⟨(3 + c / 29376 % 3).toNat, by rw [show (((3 + c / 29376 % 3).toNat : Nat) : Int) = 3 + c / 29376 % 3 by omega], by omega, rfl⟩
    · walk_at "rd"
      exact ⟨(c / 1224 % 3).toNat, by rw [show (((c / 1224 % 3).toNat : Nat) : Int) = c / 1224 % 3 by omega], by omega, rfl⟩
  rintro σ H1 ⟨tb, rfl, t1, rfl⟩
  walk_at "rd"
  refine rd_cut (fun σ H' => ∃ ch : Nat, σ = [some (.int c), some (.int M), some (.int n), some (.int tb), some (.int ch)] ∧ ch ≤ 8 ∧ H = H') ?_ ?_
  · walk_at "rd"
    refine rd_ite (fun h => ?_) (fun h => ?_)
    · walk_at "rd"
      exact ⟨(4 + c / 2820096 % 5).toNat, by rw [show (((4 + c / 2820096 % 5).toNat : Nat) : Int) = 4 + c / 2820096 % 5 by omega], by omega, rfl⟩
    · walk_at "rd"
      exact ⟨(c / 88128 % 4).toNat, by rw [show (((c / 88128 % 4).toNat : Nat) : Int) = c / 88128 % 4 by omega], by omega, rfl⟩
  rintro σ H1 ⟨ch, rfl, c1, rfl⟩
  walk_at "rd"
  refine new_tup fun p H2 hp E2 h2 => ?_
  exact q p H2 n tb ch (.of h2) n1 n2 t1 c1 E2
theorem rg_iv (n : Nat) : rgV 0 (n : Int) = (List.range n).map iv := by
  unfold rgV
  rw [show ((n : Int) - 0).toNat = n by omega]
  refine List.map_congr_left fun i _ => ?_
  show V.int (0 + (i : Int)) = V.int (i : Int)
  rw [Int.zero_add]
theorem ixN_n {n j : Nat} (h : j < n) : ixN n (j : Int) = some j := by
  unfold ixN
  simp
  omega
theorem erase_perm : ∀ {L : List Nat} {i : Nat} (h : i < L.length), (L[i] :: L.eraseIdx i).Perm L
  | x :: L, 0, _ => .refl _
  | x :: L, i + 1, h => by
    have h' : i < L.length := Nat.lt_of_succ_lt_succ h
    show (L[i] :: x :: L.eraseIdx i).Perm (x :: L)
    exact (List.Perm.swap x L[i] (L.eraseIdx i)).trans (.cons x (erase_perm h'))
theorem map_erase (f : Nat → V) : ∀ (L : List Nat) (i : Nat), (L.map f).eraseIdx i = (L.eraseIdx i).map f
  | [], _ => rfl
  | _ :: _, 0 => rfl
  | x :: L, i + 1 => by show f x :: (L.map f).eraseIdx i = f x :: (L.eraseIdx i).map f; rw [map_erase f L i]
def spOrder (K : PySem.W.Frag) : Sp := sp2 fun a b H Q => ∃ (l : Addr) (n : Nat), a = .ref l ∧ b = .int n ∧ (∃ s, H l = some (.lst [.int s])) ∧ n ≤ 40 ∧ ∀ (p : Addr) (ord : List Nat) (H' : Hp), H' p = some (.lst (ord.map iv)) → ord.Perm (List.range n) → p ≠ l → H p = none → St1 l H H' → Q (.ref p) H'
theorem k__law_order (T : Tx K w mg) (c__law_next : Cal P w K mg base "_law_next" 1 p_law_next (spNext K)) : Cal P w K mg base "_law_order" 2 p_law_order (spOrder K) := by
  refine cal2 T.F__law_order sc_law_order b_law_order rfl fun g cdv A outer s H a b Q E hr h => ?_
  obtain ⟨l, n, rfl, rfl, hl, hn, q⟩ := h
  refine ⟨_, (pss_cons (ps_set (i := 2) (sc_law_order).nd rfl (by first | exact Or.inl rfl | exact Or.inr rfl) (pe_listRg rfl (by rfl) T.m_list (prg_1 (by rfl) T.m_range (pv 1)))) (pss_cons (ps_set (i := 3) (sc_law_order).nd rfl (by first | exact Or.inl rfl | exact Or.inr rfl) (pe_lst pa_nil)) (pss_cons (ps_while PassesOwn.never (pt_cmpR op_gt (pe_callB cr_lenA (by rfl) T.m_len (by decide +kernel) (pa_cons (pv 2) pa_nil)) pe_int (nomark _)) (pss_one (ps_expr (pe_bm PySem.F.plainAttrs_list PySem.F.slot_list_append PySem.F.type_list_append mt_append (pv 3) (pa_cons (pe_bm PySem.F.plainAttrs_list PySem.F.slot_list_pop PySem.F.type_list_pop mt_popAt (pv 2) (pa_cons (pe_cal c__law_next (hr.mono (by omega)) (pa_cons (pv 0) (pa_cons (pe_callB cr_lenA (by rfl) T.m_len (by decide +kernel) (pa_cons (pv 2) pa_nil)) pa_nil))) pa_nil)) pa_nil))))) (pss_one (ps_ret (pv 3)))))), ?_⟩
  rw [t_law_order]
  try dsimp only [cxOf, Cx.nox, Cx.wish]
  walk_at "rd"
  refine rd_lstRg ?_
  refine rd_rg1 ?_
  walk_at "rda"
  refine ⟨.of_le (by decide) (by omega) (by decide) (by omega), fun la hla => ?_⟩
  rw [rg_iv]
  generalize eH : upd H la (.lst ((List.range n).map iv)) = H1
  have h1 : H1 la = some (.lst ((List.range n).map iv)) := by rw [← eH]; exact upd_same
  have E1 : Ex H H1 := by rw [← eH]; exact Evl.Ex.new hla
  clear eH
  walk_at "rd"
  refine new_lst fun fo H2 hfo E2 h2 => ?_
  walk_at "rd"
  have nla : la ≠ l := ne_st hl hla
  have nfo : fo ≠ l := ne_st (sta_ex hl E1) hfo
  have nlf : la ≠ fo := by rintro rfl; rw [h1] at hfo; cases hfo
  have hfoH : H fo = none := free_of E1 hfo
  refine rd_while (m0 := n) (fun m σ H' => ∃ L F : List Nat, σ = [some (.ref l), some (.int n), some (.ref la), some (.ref fo)] ∧ m = L.length ∧ H' la = some (.lst (L.map iv)) ∧ H' fo = some (.lst (F.map iv)) ∧ (F ++ L).Perm (List.range n) ∧ St1 l H H') ?_ ?_
  · exact ⟨List.range n, [], rfl, by rw [List.length_range], E2 _ _ h1, h2, .refl _, .ex hl (E1.trans E2)⟩
  rintro m σ H3 ⟨L, F, rfl, rfl, hL, hF, pm, S3⟩
  have lm : F.length + L.length = n := by
    have := pm.length_eq
    rw [List.length_append, List.length_range] at this
    exact this
  walk_at "rd"
  refine rd_lenL (.of hL) ?_
  rw [List.length_map]
  walk_at "rd"
  refine rd_ite (fun h => ?_) (fun h => ?_)
  · refine rd_wN ?_
    walk_at "rd"
    refine rd_lenL (.of hL) ?_
    rw [List.length_map]
    walk_at "rd"
    refine nx S3.st h fun r H4 a4 b4 S4 => ?_
    walk_at "rd"
    have hL4 := lst_st hL S4 nla
    have hk : r.toNat < L.length := by omega
    refine rd_popN (n := r.toNat) (y := iv L[r.toNat]) hL4 (by omega) (by omega) (by rw [List.getElem?_map, List.getElem?_eq_getElem hk]; rfl) ?_
    generalize eH : upd H4 la _ = H5
    have h5 : H5 la = some (.lst ((L.eraseIdx r.toNat).map iv)) := by rw [← eH, upd_same, map_erase]
    have k5 : ∀ b, b ≠ la → H5 b = H4 b := fun b hb => by rw [← eH, upd_ne hb]
    have S5 : St1 l H H5 := by rw [← eH]; exact (S3.trans S4).upd hla hL4 nla
    clear eH
    have hF5 : H5 fo = some (.lst (F.map iv)) := by rw [k5 fo nlf.symm]; exact lst_st hF S4 nfo
    walk_at "rd"
    refine rd_append hF5 (by rw [List.length_map]; omega) ?_
    walk_at "rd"
    have pe := erase_perm hk
    refine ⟨(L.eraseIdx r.toNat).length, ?_, L.eraseIdx r.toNat, F ++ [L[r.toNat]], rfl, rfl, ?_, ?_, ?_, S5.upd hfoH hF5 nfo⟩
    · have := pe.length_eq
      rw [List.length_cons] at this
      omega
    · rw [upd_ne nlf]; exact h5
    · rw [upd_same, List.map_append]; rfl
    · refine List.Perm.trans ?_ pm
      rw [List.append_assoc]
      exact List.Perm.append_left F pe
  · have eL : L = [] := List.length_eq_zero_iff.mp (by omega)
    subst eL
    walk_at "rd"
    rw [List.append_nil] at pm
    exact q fo F H3 hF pm nfo hfoH S3
/-- x stands ahead of y -/
def Bf (ord : List Nat) (x y : Nat) : Prop := ∃ a b : Nat, a < b ∧ ord[a]? = some x ∧ ord[b]? = some y
/-- a drawn form -/
structure FormD (K : PySem.W.Frag) (H : Hp) (la ta : Addr) (vs tvs : List V) (ts : List T) (rows : List (List Qr.Row)) (ch : Nat) (ord : List Nat) : Prop where
  lat : H la = some (.lst vs)
  ltv : TvA K H vs ts
  few : 1 ≤ ts.length ∧ ts.length ≤ 40
  rule : ∀ t ∈ ts, isRule ⟨ts.length, rows.length, ch⟩ 8 t = true
  perm : ord.Perm (List.range ts.length)
  ahead : ∀ (j : Nat) (t : T), ts[j]? = some t → ∀ x : Nat, ik x ∈ beh "line" 8 t → Bf ord x j
  tat : H ta = some (.lst tvs)
  ttv : TvA K H tvs (rows.map fun r => .tup (r.map rowT))
  tgood : ∀ r ∈ rows, GoodTab r
  tfew : rows.length ≤ 5
  chf : ch ≤ 8
def spFormD (K : PySem.W.Frag) : Sp := sp2 fun a b H Q => ∃ (l : Addr) (ns : List Int) (M : Nat), a = .ref l ∧ b = .int M ∧ 7 ≤ M ∧ M ≤ 40 ∧ SqL K H l (ns.map V.int) ∧ ∀ (p la ta wd : Addr) (vs tvs : List V) (ts : List T) (rows : List (List Qr.Row)) (ch ow : Nat) (ord : List Nat) (ws : List Str) (H' : Hp), H' p = some (.lst [.ref la, .ref ta, .int ch, .int ow, .ref wd]) → FormD K H' la ta vs tvs ts rows ch ord → ts.length ≤ M → ow < ts.length → Words K H' wd ws →
  H p = none → H la = none → H ta = none → H wd = none → la ≠ ta → p ≠ la → p ≠ ta → wd ≠ la → wd ≠ ta → Ex H H' → Q (.ref p) H'
theorem TvA.set {K : PySem.W.Frag} {H : Hp} {v : V} {t : T} (h : Tv K H v t) : ∀ {vs : List V} {ts : List T} {i : Nat}, TvA K H vs ts → TvA K H (vs.set i v) (ts.set i t)
  | _, _, _, .nil => .nil
  | _, _, 0, .cons _ a => .cons h a
  | _, _, i + 1, .cons h0 a => .cons h0 (TvA.set h (i := i) a)
theorem TvA.rep {K : PySem.W.Frag} {H : Hp} {v : V} {t : T} (h : Tv K H v t) : ∀ n : Nat, TvA K H (List.replicate n v) (List.replicate n t)
  | 0 => .nil
  | n + 1 => by rw [List.replicate_succ, List.replicate_succ]; exact .cons h (TvA.rep h n)
theorem st_exc {l : Addr} {H0 H H' : Hp} (hl : H0 l = none) (e0 : Ex H0 H) (S : St1 l H H') : Ex H0 H' := fun b o h => S.fr b o (by rintro rfl; rw [hl] at h; cases h) (e0 b o h)
theorem k__law_form (T : Tx K w mg) (c__law_mixed : Cal P w K mg base "_law_mixed" 1 p_law_mixed (spMixed K)) (c__law_cell_at : Cal P w K mg base "_law_cell_at" 1 p_law_cell_at (spCell K)) (c__law_next : Cal P w K mg base "_law_next" 1 p_law_next (spNext K))
    (c__law_sizes : Cal P w K mg base "_law_sizes" 1 p_law_sizes (spSizes K)) (c__law_words : Cal P w K mg base "_law_words" 2 p_law_words (spWords K)) (c__law_order : Cal P w K mg base "_law_order" 2 p_law_order (spOrder K))
    (c__law_rule : Cal P w K mg base "_law_rule" 11 p_law_rule (spRule K 7)) (c__law_table : Cal P w K mg base "_law_table" 3 p_law_table (spTable K)) : Cal P w K mg base "_law_form" 12 p_law_form (spFormD K) := by
  refine cal2 T.F__law_form sc_law_form b_law_form rfl fun g cdv A outer s H a b Q E hr h => ?_
  obtain ⟨l, ns, M, rfl, rfl, hM, hM2, hl, q⟩ := h
  refine ⟨_, (pss_cons (ps_set (i := 2) (sc_law_form).nd rfl (by first | exact Or.inl rfl | exact Or.inr rfl) (pe_lst (pa_cons (pe_cal c__law_mixed (hr.mono (by omega)) (pa_cons (pe_cal c__law_cell_at (hr.mono (by omega)) (pa_cons (pv 0) (pa_cons pe_int pa_nil))) (pa_cons pe_int pa_nil))) pa_nil))) (pss_cons (ps_set (i := 3) (sc_law_form).nd rfl (by first | exact Or.inl rfl | exact Or.inr rfl) (pe_cal c__law_sizes (hr.mono (by omega)) (pa_cons (pe_cal c__law_mixed (hr.mono (by omega)) (pa_cons (pe_cal c__law_cell_at (hr.mono (by omega)) (pa_cons (pv 0) (pa_cons pe_int pa_nil))) (pa_cons pe_int pa_nil))) (pa_cons (pv 1) pa_nil)))) (pss_cons (ps_set (i := 4) (sc_law_form).nd rfl (by first | exact Or.inl rfl | exact Or.inr rfl) (pe_cal c__law_words (hr.mono (by omega)) (pa_cons (pv 2) pa_nil))) (pss_cons (ps_set (i := 5) (sc_law_form).nd rfl (by first | exact Or.inl rfl | exact Or.inr rfl) (pe_op op_rep (pe_lst (pa_cons (pe_tup (pa_cons pe_str (pa_cons pe_int pa_nil))) pa_nil)) (pe_ix ix_seq (pv 3) pe_int (fun _ _ => rfl)))) (pss_cons (ps_set (i := 6) (sc_law_form).nd rfl (by first | exact Or.inl rfl | exact Or.inr rfl) (pe_lst pa_nil)) (pss_cons (ps_for PassesOwn.never rfl (pi_seq (pe_cal c__law_order (hr.mono (by omega)) (pa_cons (pv 2) (pa_cons (pe_ix ix_seq (pv 3) pe_int (fun _ _ => rfl)) pa_nil)))) (pg_name (i := 7) (sc_law_form).nd rfl (by first | exact Or.inl rfl | exact Or.inr rfl)) (pss_cons (ps_set (i := 8) (sc_law_form).nd rfl (by first | exact Or.inl rfl | exact Or.inr rfl) (pe_op op_addA pe_int (pe_cal c__law_next (hr.mono (by omega)) (pa_cons (pv 2) (pa_cons pe_int pa_nil))))) (Evl.pss_cut (ps_if (pt_cmpR (op_eqA hr) (pe_cal c__law_next (hr.mono (by omega)) (pa_cons (pv 2) (pa_cons pe_int pa_nil))) pe_int (nomark _)) (pss_one (ps_set (i := 8) (sc_law_form).nd rfl (by first | exact Or.inl rfl | exact Or.inr rfl) (pe_op op_addA pe_int (pe_cal c__law_next (hr.mono (by omega)) (pa_cons (pv 2) (pa_cons pe_int pa_nil)))))) pss_nil) (pss_cons (ps_asg (pe_cal c__law_rule (hr.mono (by omega)) (pa_cons (pv 2) (pa_cons (pv 8) (pa_cons (pe_callTy cr_lstOf (by rfl) T.m_list (by decide +kernel) (pa_cons (pv 6) pa_nil)) (pa_cons (pv 3) (pa_cons (pv 4) pa_nil)))))) (pg_sub (pv 5) (pv 7) set_list)) (pss_one (ps_expr (pe_bm PySem.F.plainAttrs_list PySem.F.slot_list_append PySem.F.type_list_append mt_append (pv 6) (pa_cons (pv 7) pa_nil)))))))) (pss_cons (ps_setLc (i := 9) (own := [("_law_k", 10)]) rfl (sc_law_form).nd rfl rfl (sw_true rfl rfl rfl (by decide +kernel)) (pi_range1 (by rfl) T.m_range (pa_cons (pe_ix ix_seq (pv 3) pe_int (fun _ _ => rfl)) pa_nil)) (blkOk_by (N := n_law_form) (sc := defScope s_law_form) (by decide +kernel)) (fun _ _ _ _ _ => (pg_name (i := 10) (sc_law_form).nd rfl (by first | exact Or.inl rfl | exact Or.inr rfl))) (fun _ _ _ _ _ => pts_nil) (fun _ _ _ _ _ => (pe_cal c__law_table (hr.mono (by omega)) (pa_cons (pv 2) pa_nil)))) (pss_one (ps_ret (pe_lst (pa_cons (pv 5) (pa_cons (pv 9) (pa_cons (pe_ix ix_seq (pv 3) pe_int (fun _ _ => rfl)) (pa_cons (pe_cal c__law_next (hr.mono (by omega)) (pa_cons (pv 2) (pa_cons (pe_ix ix_seq (pv 3) pe_int (fun _ _ => rfl)) pa_nil))) (pa_cons (pv 4) pa_nil))))))))))))))), ?_⟩
  rw [t_law_form]
  try dsimp only [cxOf, Cx.nox, Cx.wish]
  walk_at "rd"
  refine rd_sp2 ⟨l, ns, 0, rfl, rfl, hl, fun r1 => ?_⟩
  walk_at "rd"
  refine rd_sp2 ⟨_, _, rfl, rfl, fun r2 r20 r21 => ?_⟩
  walk_at "rd"
  refine new_lst fun st H1 hst E1 h1 => ?_
  walk_at "rd"
  refine rd_sp2 ⟨l, ns, 1, rfl, rfl, sql_ex hl E1, fun r3 => ?_⟩
  walk_at "rd"
  refine rd_sp2 ⟨_, _, rfl, rfl, fun c c0 c1 => ?_⟩
  walk_at "rd"
  refine rd_sp2 ⟨c, M, rfl, rfl, hM, hM2, fun dz H2 n tb ch hz2 n1 nM tb5 ch8 E2 => ?_⟩
  walk_at "rd"
  have hs2 : ∃ s, H2 st = some (.lst [.int s]) := ⟨_, E2 _ _ h1⟩
  refine rd_sp1 ⟨st, rfl, hs2, fun wd ws H3 W nwd hwd S3 => ?_⟩
  have e03 : Ex H H3 := st_exc hst (E1.trans E2) S3
  have hwdH : H wd = none := free_of (E1.trans E2) hwd
  have hz3 := sqt_st hz2 S3
  walk_at "rd"
  refine new_tup fun p4 H4 hp4 E4 h4 => ?_
  walk_at "rd"
  refine new_lst fun p5 H5 hp5 E5 h5 => ?_
  walk_at "rd"
  refine rd_ixTk (n := 0) (sqt_ex (sqt_ex hz3 E4) E5) rfl rfl ?_
  walk_at "rd"
  refine rd_rep h5 (by omega) (by omega) (by show 1 ≤ 100; decide) fun la H6 hla E6 h6 => ?_
  rw [flat_one, Int.toNat_natCast] at h6
  walk_at "rd"
  refine new_lst fun sn H7 hsn E7 h7 => ?_
  walk_at "rd"
  have E37 : Ex H3 H7 := ((E4.trans E5).trans E6).trans E7
  have e07 : Ex H H7 := e03.trans E37
  have hs7 := sta_ex S3.st E37
  have hz7 := sqt_ex hz3 E37
  refine rd_ixTk (n := 0) hz7 rfl rfl ?_
  walk_at "rd"
  refine rd_sp2 ⟨st, n, rfl, rfl, hs7, by omega, fun po ord H8 h8 pm npo hpo S8 => ?_⟩
  walk_at "rd"
  have tv4 : Tv K H7 (.ref p4) (.tup [.str "number", .int 0]) := .tup (sqt_ex (sqt_ex (sqt_ex (.of h4) E5) E6) E7) (.cons (.str _ (by decide)) (.cons (.int _) .nil))
  have hlaH : H la = none := free_of e03 (free_of (E4.trans E5) hla)
  have hsnH : H sn = none := free_of e03 (free_of ((E4.trans E5).trans E6) hsn)
  have nla : la ≠ st := ne_st (sta_ex S3.st (E4.trans E5)) hla
  have nsn : sn ≠ st := ne_st (sta_ex S3.st ((E4.trans E5).trans E6)) hsn
  have nsl : sn ≠ la := by rintro rfl; rw [h6] at hsn; cases hsn
  have npol : po ≠ la := by rintro rfl; rw [E7 _ _ h6] at hpo; cases hpo
  have npos : po ≠ sn := by rintro rfl; rw [h7] at hpo; cases hpo
  have nwl : wd ≠ la := by rintro rfl; rw [(E4.trans E5) _ _ W.at_] at hla; cases hla
  have nws : wd ≠ sn := by rintro rfl; rw [((E4.trans E5).trans E6) _ _ W.at_] at hsn; cases hsn
  have W8 : H8 wd = some (.lst (ws.map V.str)) := lst_st (E37 _ _ W.at_) S8 nwd
  have hz8 := sqt_st hz7 S8
  have e08 : Ex H H8 := st_exc hst e07 S8
  have hpoH : H po = none := free_of e07 hpo
  have lord : ord.length = n := by rw [pm.length_eq, List.length_range]
  have mem : ∀ x, x ∈ ord ↔ x < n := fun x => by rw [pm.mem_iff, List.mem_range]
  have nd : ord.Nodup := pm.nodup_iff.mpr List.nodup_range
  refine forW_L (ord.map iv) (fun i σ H' => ∃ (vs : List V) (ts : List Qa.T) (x y : Option V), σ = [some (.ref l), some (.int M), some (.ref st), some (.ref dz), some (.ref wd), some (.ref la), some (.ref sn), x, y, none, none] ∧ Ex H H' ∧ (∃ s, H' st = some (.lst [.int s])) ∧ H' po = some (.lst (ord.map iv)) ∧ H' wd = some (.lst (ws.map V.str)) ∧ SqT K H' dz [.int n, .int tb, .int ch] ∧ H' la = some (.lst vs) ∧ TvA K H' vs ts ∧ ts.length = n ∧
    H' sn = some (.lst ((ord.take i).map iv)) ∧ (∀ t ∈ ts, isRule ⟨n, tb, ch⟩ 8 t = true) ∧ (∀ (j : Nat) (t : Qa.T), ts[j]? = some t → ∀ x : Nat, ik x ∈ beh "line" 8 t → Bf ord x j)) ?_ ?_ ?_ ?_
  · refine ⟨List.replicate n (.ref p4), List.replicate n (.tup [.str "number", .int 0]), _, _, rfl, e08, S8.st, h8, W8, hz8, lst_st (E7 _ _ h6) S8 nla, TvA.rep (tv_st tv4 S8) n, List.length_replicate, lst_st h7 S8 nsn, fun t ht => ?_, fun j t ht x hx => ?_⟩
    · rw [List.eq_of_mem_replicate ht]
      exact isRule_mono (n := 1) (by rw [R_number]; decide) (by decide)
    · rw [List.eq_of_mem_replicate (List.mem_of_getElem? ht)] at hx
      have hx : ik x ∈ ([] : List Key) := hx
      cases hx
  · rintro i σ H' hi ⟨vs, ts, x, y, rfl, _, _, h, _⟩
    exact .of h
  · rintro i u σ H9 hu ⟨vs, ts, x0, y0, rfl, E9, st9, hpo9, hwd9, hz9, hla9, tv9, lts, hsn9, hru, hbf⟩
    rw [List.getElem?_map] at hu
    cases eu : ord[i]? with
    | none => rw [eu] at hu; cases hu
    | some y =>
    rw [eu] at hu
    cases (Option.some.inj hu)
    have hi : i < ord.length := (List.getElem?_eq_some_iff.mp eu).1
    have hy : y < n := (mem y).mp (List.mem_of_getElem? eu)
    have et : ord.take (i + 1) = ord.take i ++ [y] := by rw [List.take_add_one, eu]; rfl
    walk_at "rd"
    refine nx st9 (by decide) fun r10 H10 a10 b10 S10 => ?_
    walk_at "rd"
    refine rd_cut (fun σ H' => ∃ m : Nat, m ≤ 7 ∧ σ = [some (.ref l), some (.int M), some (.ref st), some (.ref dz), some (.ref wd), some (.ref la), some (.ref sn), some (iv y), some (.int ((m : Nat) + 1 : Int)), none, none] ∧ St1 st H9 H') ?_ ?_
    · walk_at "rd"
      refine nx S10.st (by decide) fun r11 H11 a11 b11 S11 => ?_
      walk_at "rd"
      refine rd_ite (fun h => ?_) (fun h => ?_)
      · walk_at "rd"
        refine nx S11.st (by decide) fun r12 H12 a12 b12 S12 => ?_
        walk_at "rd"
        exact ⟨(3 + r12).toNat, by omega, by rw [show (((3 + r12).toNat : Nat) : Int) + 1 = 4 + r12 by omega], (S10.trans S11).trans S12⟩
      · walk_at "rd"
        exact ⟨r10.toNat, by omega, by rw [show ((r10.toNat : Nat) : Int) + 1 = 1 + r10 by omega], S10.trans S11⟩
    rintro σ H11 ⟨m, hm, rfl, S11⟩
    walk_at "rd"
    refine rd_lstOfL (.of (lst_st hsn9 S11 nsn)) fun s2 H12 hs2' E12 h12 => ?_
    walk_at "rd"
    have ns2 : s2 ≠ st := ne_st S11.st hs2'
    have h12' : H12 s2 = some (.lst (((ord.take i).map fun x : Nat => (x : Int)).map V.int)) := by rw [h12, iv_int]
    have D12 : Dr K H12 st s2 dz wd ⟨n, tb, ch⟩ ((ord.take i).map fun x : Nat => (x : Int)) := by
      refine ⟨sta_ex S11.st E12, h12', by rw [List.length_map, List.length_take]; omega, fun x hx => ?_, ns2, sqt_ex (sqt_st hz9 S11) E12, ⟨ws, E12 _ _ (lst_st hwd9 S11 nwd), W.one, W.few, W.good⟩, nwd, by show (0 : Int) < (n : Int); omega⟩
      obtain ⟨z, hz, rfl⟩ := List.mem_map.mp hx
      have := (mem z).mp (List.mem_of_mem_take hz)
      exact place_i (by omega) (by show (z : Int) < (n : Int); omega)
    refine rd_sp5 ⟨st, s2, dz, wd, _, _, m, hm, rfl, rfl, rfl, rfl, rfl, D12, fun v t H13 tv13 rb S13 => ?_⟩
    have S : St1 st H9 H13 := (S11.trans (St1.ex S11.st E12)).trans S13
    have E13 : Ex H H13 := st_exc hst E9 S
    have hla13 : H13 la = some (.lst vs) := lst_st hla9 S nla
    have hsn13 : H13 sn = some (.lst ((ord.take i).map iv)) := lst_st hsn9 S nsn
    have lvs : vs.length = n := by rw [tv9.len, lts]
    walk_at "rd"
    refine rd_setL hla13 (j := y) (ixN_n (by omega)) ?_
    have tm := Tame.upd (ys := vs.set y v) hla13
    generalize eH : upd H13 la (.lst (vs.set y v)) = H14 at tm
    have hla14 : H14 la = some (.lst (vs.set y v)) := by rw [← eH]; exact upd_same
    have k14 : ∀ b, b ≠ la → H14 b = H13 b := fun b hb => by rw [← eH, upd_ne hb]
    have E14 : Ex H H14 := by rw [← eH]; exact ex_new hlaH E13
    clear eH
    have hsn14 : H14 sn = some (.lst ((ord.take i).map iv)) := by rw [k14 sn nsl]; exact hsn13
    walk_at "rd"
    refine rd_append hsn14 (by rw [List.length_map, List.length_take]; omega) ?_
    walk_at "rd"
    have tm2 := Tame.upd (ys := (ord.take i).map iv ++ [iv y]) hsn14
    have tvn : TvA K H14 (vs.set y v) (ts.set y t) := TvA.set (tm.tv tv13) (tm.tvA (tva_st tv9 S))
    have lset : (ts.set y t).length = n := by rw [List.length_set, lts]
    have st14 : ∃ s, H14 st = some (.lst [.int s]) := by rw [k14 st nla.symm]; exact S.st
    refine ⟨vs.set y v, ts.set y t, _, _, rfl, ex_new hsnH E14, by rw [upd_ne nsn.symm]; exact st14, by rw [upd_ne npos, k14 po npol]; exact lst_st hpo9 S npo, by rw [upd_ne nws, k14 wd nwl]; exact lst_st hwd9 S nwd, tm2.sqT (tm.sqT (sqt_st hz9 S)), by rw [upd_ne nsl.symm]; exact hla14, tm2.tvA tvn, lset, by rw [upd_same, et, List.map_append]; rfl, fun t' ht' => ?_, fun j t' ht' x hx => ?_⟩
    · rcases List.mem_or_eq_of_mem_set ht' with h | rfl
      · exact hru t' h
      · exact isRule_mono rb.ru (by omega)
    · rw [List.getElem?_set] at ht'
      by_cases ej : y = j
      · subst ej
        rw [if_pos rfl, if_pos (by omega)] at ht'
        cases ht'
        rw [beh_mono rb.ru (show m + 1 ≤ 8 by omega)] at hx
        have := rb.nm _ hx
        obtain ⟨z, hz, e⟩ := List.mem_map.mp this
        obtain ⟨z', hz', rfl⟩ := List.mem_map.mp hz
        have ez : z' = x := by have := Sum.inl.inj e; omega
        subst ez
        obtain ⟨a, ha⟩ := List.getElem?_of_mem hz'
        rw [List.getElem?_take] at ha
        split at ha
        · exact ⟨a, i, by assumption, ha, eu⟩
        · cases ha
      · rw [if_neg ej] at ht'
        exact hbf j t' ht' x hx
  · rintro σ H9 ⟨vs, ts, x0, y0, rfl, E9, st9, hpo9, hwd9, hz9, hla9, tv9, lts, hsn9, hru, hbf⟩
    walk_at "rd"
    refine rd_ixTk (n := 1) hz9 rfl rfl ?_
    walk_at "rd"
    refine lcW_R (fun D i H' => ∃ (tvs : List V) (rows : List (List Qr.Row)), H' D = some (.lst tvs) ∧ TvA K H' tvs (rows.map fun r => .tup (r.map rowT)) ∧ rows.length = i ∧ (∀ r ∈ rows, GoodTab r) ∧ Ex H H' ∧ St1 st H9 H' ∧ D ≠ st) ?_ ?_ ?_
    · exact fun D H' hD e h => ⟨[], [], h, .nil, rfl, (fun r h => by cases h), E9.trans e, .ex st9 e, ne_st st9 hD⟩
    · rintro D i H10 hD hi ⟨tvs, rows, hD10, tv10, lr, hg, E10, S10, nD⟩
      rw [Int.toNat_natCast] at hi
      walk_at "lcn"
      walk_at "rd"
      refine rd_sp1 ⟨st, rfl, S10.st, fun v r H11 gr tv11 S11 => ?_⟩
      have hD11 := lst_st hD10 S11 nD
      have hDH : H D = none := free_of E9 hD
      have tm := Tame.upd (ys := tvs ++ [v]) hD11
      refine ⟨tvs, hD11, by rw [tv10.len, List.length_map, sizeLine_eq]; omega, tvs ++ [v], rows ++ [r], upd_same, ?_, by rw [List.length_append, lr]; rfl, fun r' hr' => ?_, ex_new hDH (st_exc hst E10 S11), (S10.trans S11).upd hD hD11 nD, nD⟩
      · rw [List.map_append]
        exact tm.tvA ((tva_st tv10 S11).append (.cons tv11 .nil))
      · rcases List.mem_append.mp hr' with h | h
        · exact hg r' h
        · rw [List.mem_singleton] at h
          subst h
          exact gr
    · rintro ta H10 hta ⟨tvs, rows, hta10, tv10, lr, hg, E10, S10, nta⟩
      rw [Int.toNat_natCast] at lr
      walk_at "rd"
      have hz10 := sqt_st hz9 S10
      refine rd_ixTk (n := 2) hz10 rfl rfl ?_
      walk_at "rd"
      refine rd_ixTk (n := 0) hz10 rfl rfl ?_
      walk_at "rd"
      refine nx S10.st (by omega) fun r11 H11 a11 b11 S11 => ?_
      walk_at "rd"
      refine new_lst fun p H12 hp E12 h12 => ?_
      have S911 := S10.trans S11
      have hta11 := lst_st hta10 S11 nta
      have nlt : la ≠ ta := by rintro rfl; rw [hla9] at hta; cases hta
      have E11 : Ex H H11 := st_exc hst E10 S11
      refine q p la ta wd vs tvs ts rows ch r11.toNat ord ws H12 ?_ ⟨E12 _ _ (lst_st hla9 S911 nla), tva_ex (tva_st tv9 S911) E12, by omega, by rw [lts, lr]; exact hru, by rw [lts]; exact pm, hbf, E12 _ _ hta11, tva_ex (tva_st tv10 S11) E12, hg, by omega, ch8⟩ (by omega) (by omega) ⟨E12 _ _ (lst_st hwd9 S911 nwd), W.one, W.few, W.good⟩ (free_of E11 hp) hlaH (free_of E9 hta) hwdH nlt (by rintro rfl; rw [lst_st hla9 S911 nla] at hp; cases hp) (by rintro rfl; rw [hta11] at hp; cases hp) nwl (by rintro rfl; rw [hwd9] at hta; cases hta) (E11.trans E12)
      rw [h12, show ((r11.toNat : Nat) : Int) = r11 by omega]
end
end KF
open PySem PySem.Spec PyProof.Rows L2 Qa Qr
open Qg
namespace KF
section
variable {P : Program} {w : World} {K : PySem.W.Frag} {mg : Str → Option Value} {base : Heap} {H : Hp} {Q : VK} {E : XK}
/-- an order of lines in which each stands behind those that it names -/
def rk : List Nat → Nat → Nat
  | [], _ => 0
  | a :: l, x => if a = x then 0 else rk l x + 1
theorem rk_get : ∀ {l : List Nat} {i x : Nat}, l.Nodup → l[i]? = some x → rk l x = i
  | [], i, x, _, h => by simp at h
  | a :: l, 0, x, _, h => by
    have e : a = x := Option.some.inj h
    unfold rk
    rw [if_pos e]
  | a :: l, i + 1, x, hd, h => by
    have h : l[i]? = some x := h
    have hd' := List.nodup_cons.mp hd
    have ne : a ≠ x := by
      rintro rfl
      exact hd'.1 (List.mem_of_getElem? h)
    unfold rk
    rw [if_neg ne, rk_get hd'.2 h]
theorem acyc_of {ts : List T} {ord : List Nat} (hd : ord.Nodup) (h : ∀ (j : Nat) (t : T), ts[j]? = some t → ∀ x : Nat, ik x ∈ beh "line" 8 t → Bf ord x j) : Acyc (nmOf ts) := by
  refine ⟨rk ord, fun x y hy => ?_⟩
  unfold row at hy
  rw [nmOf_get] at hy
  cases et : ts[x]? with
  | none => rw [et] at hy; cases hy
  | some t =>
    rw [et] at hy
    obtain ⟨a, b, hab, ha, hb⟩ := h x t et y (mem_rowK.mp hy).2
    rw [rk_get hd ha, rk_get hd hb]
    exact hab
end
end KF
open PySem PySem.Spec PyProof.Rows L2 Qa Qr
open Qg Qe


namespace KF
section
variable {P : Program} {w : World} {K : PySem.W.Frag} {mg : Str → Option Value} {base : Heap} {H : Hp} {Q : VK} {E : XK}
def tabsOk (tts : List T) : Bool := decide (tts.length ≤ 5) && tts.all isTable
def sizesOk (n : Nat) (tc to : T) : Bool := within (.int n) 1 40 && within tc 0 8 && isPlace to n
def rulesOk (ts : List T) (tb : Int) : T → Bool
  | .int ch => ts.all (isRule ⟨ts.length, tb, ch⟩ 8)
  | _ => false
def refusal (ts tts : List T) (tc to : T) : Option Str :=
  if tabsOk tts = false then some "NoTable" else if sizesOk ts.length tc to = false then some "NoForm" else if rulesOk ts tts.length tc = false then some "NoRule" else none
def spNeedTX (K : PySem.W.Frag) (mg : Str → Option Value) : Sp := spX1 fun a H Q E => ∃ ta tvs tts, a = .ref ta ∧ SqL K H ta tvs ∧ TvA K H tvs tts ∧
  (tabsOk tts = false → ∀ H', Ex H H' → E (.ref (clsA mg "NoTable")) none H') ∧ (tabsOk tts = true → ∀ H', Ex H H' → Q .non H')
theorem kx_need_tables (T : Tx K w mg) (c_is_table : Cal P w K mg base "is_table" 5 pis_table (spTab K)) : CalX P w K mg base "_need_tables" 6 p_need_tables (spNeedTX K mg) := by
  refine calX1 T.F__need_tables sc_need_tables b_need_tables rfl fun g cdv A outer s H a Q E hr h => ?_
  obtain ⟨ta, tvs, tts, rfl, hl, htv, qx, q⟩ := h
  refine ⟨_, (pss_cons (ps_if (pt_cmpR op_gt (pe_callB cr_lenA (by rfl) T.m_len (by decide +kernel) (pa_cons (pv 0) pa_nil)) (pe_gint T.g_MOST_TABLES) (nomark _)) (pss_one (Qe.ps_raiseC rfl (takes_of rfl rfl rfl rfl) T.err_NoTable)) pss_nil) (pss_one (ps_for (passes_of rfl) rfl (pi_seq (pv 0)) (pg_name (i := 1) (sc_need_tables).nd rfl (by first | exact Or.inl rfl | exact Or.inr rfl)) (pss_one (ps_if (pt_not (pt_tru (pe_cal c_is_table (hr.mono (by omega)) (pa_cons (pv 1) pa_nil)))) (pss_one (Qe.ps_raiseC rfl (takes_of rfl rfl rfl rfl) T.err_NoTable)) pss_nil))))), ?_⟩
  rw [t_need_tables]
  try dsimp only [cxOf, Cx.nox, Cx.wish]
  have lv : tvs.length = tts.length := htv.len
  walk_at "rda"
  refine rd_ite (fun h => ?_) (fun hn => ?_)
  · walk_at "rd"
    refine qx ?_ _ (Evl.Ex.refl _)
    unfold tabsOk
    rw [decide_eq_false (by omega), Bool.false_and]
  walk_at "rd"
  refine forW_Lx hl (fun i σ H' => ((∃ x, σ = [some (.ref ta), x]) ∧ Ex H H') ∧ (tts.take i).all isTable = true) ?_ ?_ ?_ ?_
  · exact ⟨⟨⟨_, rfl⟩, Evl.Ex.refl _⟩, rfl⟩
  · rintro i σ H' hi ⟨⟨_, e⟩, _⟩
    exact sql_ex hl e
  · rintro i v σ H1 hv ⟨⟨⟨x, rfl⟩, e⟩, ha⟩
    obtain ⟨t, ht, vt⟩ := htv.getV hv
    walk_at "rd"
    refine rd_sp1 ⟨t, tv_ex vt e, fun H2 e2 => ?_⟩
    cases ht2 : isTable t with
    | false =>
      walk_at "rd"
      refine qx ?_ _ (e.trans e2)
      unfold tabsOk
      have : tts.all isTable = false := by
        rw [List.all_eq_false]
        exact ⟨t, List.mem_of_getElem? ht, by rw [ht2]; decide⟩
      rw [this, Bool.and_false]
    | true =>
      walk_at "rd"
      refine ⟨⟨⟨_, rfl⟩, e.trans e2⟩, ?_⟩
      rw [List.take_add_one, ht, List.all_append, ha]
      simp [ht2]
  · rintro σ H1 ⟨⟨⟨x, rfl⟩, e⟩, ha⟩
    walk_at "rd"
    refine q ?_ H1 e
    rw [List.take_of_length_le (by omega)] at ha
    unfold tabsOk
    rw [ha, decide_eq_true (by omega)]
    rfl
def spNeedSX (mg : Str → Option Value) (K : PySem.W.Frag) : Sp := spX3 fun a b c H Q E => ∃ (la : Addr) (vs : List V) (tc to : T), a = .ref la ∧ Tv K H b tc ∧ Tv K H c to ∧ SqL K H la vs ∧
  (sizesOk vs.length tc to = false → E (.ref (clsA mg "NoForm")) none H) ∧ (sizesOk vs.length tc to = true → Q .non H)
theorem kx_need_sizes (T : Tx K w mg) (c_is_within : Cal P w K mg base "is_within" 2 pis_within (spWithin K)) (c_is_place : Cal P w K mg base "is_place" 3 pis_place (spPlace K)) : CalX P w K mg base "_need_sizes" 4 p_need_sizes (spNeedSX mg K) := by
  refine calX3 T.F__need_sizes sc_need_sizes b_need_sizes rfl fun g cdv A outer s H a b c Q E hr h => ?_
  obtain ⟨la, vs, tc, to, rfl, hb, hc, hl, qx, q⟩ := h
  refine ⟨_, (pss_cons (ps_if (pt_not (pt_tru (pe_cal c_is_within (hr.mono (by omega)) (pa_cons (pe_callB cr_lenA (by rfl) T.m_len (by decide +kernel) (pa_cons (pv 0) pa_nil)) (pa_cons pe_int (pa_cons (pe_gint T.g_MOST_LINES) pa_nil)))))) (pss_one (Qe.ps_raiseC rfl (takes_of rfl rfl rfl rfl) T.err_NoForm)) pss_nil) (pss_cons (ps_if (pt_not (pt_tru (pe_cal c_is_within (hr.mono (by omega)) (pa_cons (pv 1) (pa_cons pe_int (pa_cons (pe_gint T.g_MOST_CHOICES) pa_nil)))))) (pss_one (Qe.ps_raiseC rfl (takes_of rfl rfl rfl rfl) T.err_NoForm)) pss_nil) (pss_one (ps_if (pt_not (pt_tru (pe_cal c_is_place (hr.mono (by omega)) (pa_cons (pv 2) (pa_cons (pe_callB cr_lenA (by rfl) T.m_len (by decide +kernel) (pa_cons (pv 0) pa_nil)) pa_nil))))) (pss_one (Qe.ps_raiseC rfl (takes_of rfl rfl rfl rfl) T.err_NoForm)) pss_nil)))), ?_⟩
  rw [t_need_sizes]
  try dsimp only [cxOf, Cx.nox, Cx.wish]
  unfold sizesOk at qx q
  walk_at "rda"
  refine rd_sp3 ⟨.int vs.length, 1, 40, .int _, rfl, rfl, ?_⟩
  cases h1 : within (.int (vs.length : Int)) 1 40 with
  | false =>
    walk_at "rd"
    exact qx (by rw [h1]; rfl)
  | true =>
  walk_at "rd"
  refine rd_sp3 ⟨tc, 0, 8, hb, rfl, rfl, ?_⟩
  cases h2 : within tc 0 8 with
  | false =>
    walk_at "rd"
    exact qx (by rw [h1, h2]; rfl)
  | true =>
  walk_at "rda"
  refine rd_sp2 ⟨to, _, hc, rfl, ?_⟩
  cases h3 : isPlace to (vs.length : Int) with
  | false =>
    walk_at "rd"
    exact qx (by rw [h1, h2, h3]; rfl)
  | true =>
  walk_at "rd"
  exact q (by rw [h1, h2, h3]; rfl)
def spNeedRX (K : PySem.W.Frag) (mg : Str → Option Value) : Sp := spX3 fun a b c H Q E => ∃ (la : Addr) (vs : List V) (ts : List T) (tb ch : Int), a = .ref la ∧ b = .int tb ∧ c = .int ch ∧ SqL K H la vs ∧ TvA K H vs ts ∧
  (rulesOk ts tb (.int ch) = false → ∀ H', Ex H H' → E (.ref (clsA mg "NoRule")) none H') ∧ (rulesOk ts tb (.int ch) = true → ∀ H', Ex H H' → Q .non H')
theorem kx_need_rules (T : Tx K w mg) (c_is_rule : Cal P w K mg base "is_rule" 20 pis_rule (spIsRule K)) : CalX P w K mg base "_need_rules" 21 p_need_rules (spNeedRX K mg) := by
  refine calX3 T.F__need_rules sc_need_rules b_need_rules rfl fun g cdv A outer s H a b c Q E hr h => ?_
  obtain ⟨la, vs, ts, tb, ch, rfl, rfl, rfl, hl, htv, qx, q⟩ := h
  refine ⟨_, (pss_one (ps_for (passes_of rfl) rfl (pi_seq (pv 0)) (pg_name (i := 3) (sc_need_rules).nd rfl (by first | exact Or.inl rfl | exact Or.inr rfl)) (pss_one (ps_if (pt_not (pt_tru (pe_cal c_is_rule (hr.mono (by omega)) (pa_cons (pv 3) (pa_cons (pe_callB cr_lenA (by rfl) T.m_len (by decide +kernel) (pa_cons (pv 0) pa_nil)) (pa_cons (pv 1) (pa_cons (pv 2) pa_nil))))))) (pss_one (Qe.ps_raiseC rfl (takes_of rfl rfl rfl rfl) T.err_NoRule)) pss_nil)))), ?_⟩
  rw [t_need_rules]
  try dsimp only [cxOf, Cx.nox, Cx.wish]
  have lv : vs.length = ts.length := htv.len
  unfold rulesOk at qx q
  walk_at "rd"
  refine forW_Lx hl (fun i σ H' => ((∃ x, σ = [some (.ref la), some (.int tb), some (.int ch), x]) ∧ Ex H H') ∧ (ts.take i).all (isRule ⟨ts.length, tb, ch⟩ 8) = true) ?_ ?_ ?_ ?_
  · exact ⟨⟨⟨_, rfl⟩, Evl.Ex.refl _⟩, rfl⟩
  · rintro i σ H' hi ⟨⟨_, e⟩, _⟩
    exact sql_ex hl e
  · rintro i v σ H1 hv ⟨⟨⟨x, rfl⟩, e⟩, ha⟩
    obtain ⟨t, ht, vt⟩ := htv.getV hv
    walk_at "rd"
    refine rd_lenL (sql_ex hl e) ?_
    walk_at "rd"
    refine rd_sp4 ⟨t, ⟨ts.length, tb, ch⟩, tv_ex vt e, by rw [lv], rfl, rfl, fun H2 e2 => ?_⟩
    cases ht2 : isRule ⟨ts.length, tb, ch⟩ 8 t with
    | false =>
      walk_at "rd"
      refine qx ?_ _ (e.trans e2)
      rw [List.all_eq_false]
      exact ⟨t, List.mem_of_getElem? ht, by rw [ht2]; decide⟩
    | true =>
      walk_at "rd"
      refine ⟨⟨⟨_, rfl⟩, e.trans e2⟩, ?_⟩
      rw [List.take_add_one, ht, List.all_append, ha]
      simp [ht2]
  · rintro σ H1 ⟨⟨⟨x, rfl⟩, e⟩, ha⟩
    walk_at "rd"
    refine q ?_ H1 e
    rwa [List.take_of_length_le (by omega)] at ha
/-- a form, as it stands -/
structure FormAt (K : PySem.W.Frag) (H : Hp) (p : Addr) (ts : List T) (tts : List T) (ch ow : Nat) : Prop where
  at_ : ∃ lt tt vs tvs, SqT K H p [.ref lt, .ref tt, .int ch, .int ow] ∧ SqT K H lt vs ∧ TvA K H vs ts ∧ SqT K H tt tvs ∧ TvA K H tvs tts
def spFormX (K : PySem.W.Frag) (mg : Str → Option Value) : Sp := spX4 fun a b c d H Q E => ∃ (la ta : Addr) (vs tvs : List V) (ts tts : List T) (tc to : T), a = .ref la ∧ b = .ref ta ∧ Tv K H c tc ∧ Tv K H d to ∧ SqL K H la vs ∧ TvA K H vs ts ∧ SqL K H ta tvs ∧ TvA K H tvs tts ∧
  (∀ x, refusal ts tts tc to = some x → ∀ H', Ex H H' → E (.ref (clsA mg x)) none H') ∧
  (refusal ts tts tc to = none → ∀ r, Best (nmOf ts) ts.length r → (r ≠ [] → ∀ H', Ex H H' → E (.ref (clsA mg "Ring")) none H') ∧
    (r = [] → ∀ ch ow : Nat, tc = .int ch → to = .int ow → ∀ p H', FormAt K H' p ts tts ch ow → H p = none → Ex H H' → Q (.ref p) H'))
theorem kx_form_of (T : Tx K w mg) (c__need_tables : CalX P w K mg base "_need_tables" 6 p_need_tables (spNeedTX K mg)) (c__need_sizes : CalX P w K mg base "_need_sizes" 4 p_need_sizes (spNeedSX mg K)) (c__need_rules : CalX P w K mg base "_need_rules" 21 p_need_rules (spNeedRX K mg)) (c_ring_of : Cal P w K mg base "ring_of" 12 pring_of (spRingOf K)) : CalX P w K mg base "form_of" 22 pform_of (spFormX K mg) := by
  refine calX4 T.F_form_of scform_of bform_of rfl fun g cdv A outer s H a b c d Q E hr h => ?_
  obtain ⟨la, ta, vs, tvs, ts, tts, tc, to, rfl, rfl, hc, hd, hl, htv, htl, httv, qx, q⟩ := h
  refine ⟨_, (pss_cons (ps_expr (Qe.pe_calX c__need_tables (hr.mono (by omega)) (takes_of rfl rfl rfl rfl) (pa_cons (pv 1) pa_nil))) (pss_cons (ps_expr (Qe.pe_calX c__need_sizes (hr.mono (by omega)) (takes_of rfl rfl rfl rfl) (pa_cons (pv 0) (pa_cons (pv 2) (pa_cons (pv 3) pa_nil))))) (pss_cons (ps_expr (Qe.pe_calX c__need_rules (hr.mono (by omega)) (takes_of rfl rfl rfl rfl) (pa_cons (pv 0) (pa_cons (pe_callB cr_lenA (by rfl) T.m_len (by decide +kernel) (pa_cons (pv 1) pa_nil)) (pa_cons (pv 2) pa_nil))))) (pss_cons (ps_if (pt_tru (pe_cal c_ring_of (hr.mono (by omega)) (pa_cons (pv 0) pa_nil))) (pss_one (Qe.ps_raiseC rfl (takes_of rfl rfl rfl rfl) T.err_Ring)) pss_nil) (pss_one (ps_ret (pe_tup (pa_cons (pe_callTy cr_tupOf (by rfl) T.m_tuple (by decide +kernel) (pa_cons (pv 0) pa_nil)) (pa_cons (pe_callTy cr_tupOf (by rfl) T.m_tuple (by decide +kernel) (pa_cons (pv 1) pa_nil)) (pa_cons (pv 2) (pa_cons (pv 3) pa_nil))))))))))), ?_⟩
  rw [tform_of]
  try dsimp only [cxOf, Cx.nox, Cx.wish]
  have lv : vs.length = ts.length := htv.len
  have ltv : tvs.length = tts.length := httv.len
  walk_at "rd"
  refine rd_spX1 ⟨ta, tvs, tts, rfl, htl, httv, fun hT H1 e1 => qx _ (by unfold refusal; rw [if_pos hT]) H1 e1, fun hT H1 e1 => ?_⟩
  have nT : ¬ tabsOk tts = false := by rw [hT]; decide
  walk_at "rd"
  refine rd_spX3 ⟨la, vs, tc, to, rfl, tv_ex hc e1, tv_ex hd e1, sql_ex hl e1, fun hS => qx _ (by unfold refusal; rw [if_neg nT, ← lv, if_pos hS]) H1 e1, fun hS => ?_⟩
  have nS : ¬ sizesOk ts.length tc to = false := by rw [← lv, hS]; decide
  obtain ⟨ch, ow, rfl, rfl, h1, h2, h3, h4⟩ : ∃ ch ow : Nat, tc = .int ch ∧ to = .int ow ∧ 1 ≤ ts.length ∧ ts.length ≤ 40 ∧ ch ≤ 8 ∧ ow < ts.length := by
    unfold sizesOk at hS
    rw [Bool.and_eq_true, Bool.and_eq_true] at hS
    obtain ⟨⟨q1, q2⟩, q3⟩ := hS
    cases tc with
    | int i =>
      cases to with
      | int j =>
        simp only [within, isPlace, Bool.and_eq_true, decide_eq_true_eq] at q1 q2 q3
        refine ⟨i.toNat, j.toNat, by rw [Int.toNat_of_nonneg q2.1], by rw [Int.toNat_of_nonneg q3.1], ?_, ?_, ?_, ?_⟩ <;> omega
      | _ => cases q3
    | _ => cases q2
  cases hc
  cases hd
  walk_at "rd"
  refine rd_lenL (sql_ex htl e1) ?_
  walk_at "rd"
  refine rd_spX3 ⟨la, vs, ts, tvs.length, ch, rfl, rfl, rfl, sql_ex hl e1, tva_ex htv e1, fun hR H2 e2 => ?_, fun hR H2 e2 => ?_⟩
  · refine qx _ ?_ H2 (e1.trans e2)
    unfold refusal
    rw [if_neg nT, if_neg nS, ← ltv, if_pos hR]
  have nR : refusal ts tts (.int ch) (.int ow) = none := by
    unfold refusal
    rw [if_neg nT, if_neg nS, ← ltv, if_neg (by rw [hR]; decide)]
  have e02 := e1.trans e2
  walk_at "rd"
  refine rd_sp1 ⟨la, vs, ts, ⟨ts.length, tvs.length, ch⟩, rfl, sql_ex hl e02, tva_ex htv e02, fun t ht => (List.all_eq_true.mp hR) t ht, h2, fun p r H3 hb hp e3 h3' => ?_⟩
  have e03 := e02.trans e3
  obtain ⟨qr, qg⟩ := q nR r hb
  walk_at "rd"
  refine rd_truL (.of h3') ?_
  cases hr0 : r with
  | cons r0 rs =>
    rw [List.map_cons]
    walk_at "rd"
    exact qr (by rw [hr0]; exact List.cons_ne_nil _ _) H3 e03
  | nil =>
  rw [List.map_nil]
  walk_at "rd"
  refine rd_tupOfL (sql_ex hl e03) fun lt H4 hlt E4 h4' => ?_
  walk_at "rd"
  refine rd_tupOfL (sql_ex (sql_ex htl e03) E4) fun tt H5 htt E5 h5' => ?_
  walk_at "rd"
  refine new_tup fun p6 H6 hp6 E6 h6' => ?_
  have e46 := E5.trans E6
  exact qg hr0 ch ow rfl rfl p6 H6 ⟨lt, tt, vs, tvs, .of h6', sqt_ex (.of h4') e46, tva_ex (tva_ex (tva_ex htv e03) E4) e46, sqt_ex (.of h5') E6, tva_ex (tva_ex (tva_ex (tva_ex httv e03) E4) E5) E6⟩ (free_of ((e03.trans E4).trans E5) hp6) (((e03.trans E4).trans E5).trans E6)
end
end KF
open PySem PySem.Spec PyProof.Rows L2 Qa Qr
open Qg Qe


namespace KF
section
variable {P : Program} {w : World} {K : PySem.W.Frag} {mg : Str → Option Value} {base : Heap} {H : Hp} {Q : VK} {E : XK}
/-- which errors form_of may let out -/
def kinds : List Str := ["NoTable", "NoForm", "NoRule", "Ring"]
def OfKind (mg : Str → Option Value) (cls : Value) (d : Option Addr) : Prop := d = none ∧ ∃ x ∈ kinds, cls = .ref (clsA mg x)
def spAlone : Addr → Sp := fun a => sp1 fun b H Q => b = .ref a ∧ Q (.bl true) H
theorem rd_isE {D a : Addr} {c : V} {cv : Value} {b : Bool} {H : Hp} {Q : VK} (hc : ∀ u, RelV c u → u = cv) (e : PySem.W.kitOne K (.ref D) cv = some b) (q : Q (.bl b) H) : rIsE K D a [.ref a, c] H Q := ⟨c, cv, b, rfl, hc, e, q⟩
theorem relv_ty {n : String} : ∀ u, RelV (.ty n) u → u = .type n := fun _ h => h
theorem relv_ref {a : Addr} : ∀ u, RelV (.ref a) u → u = .ref a := fun _ h => h
theorem k__law_alone (T : Tx K w mg) : CalE (OfKind mg) P w K mg base "_law_alone" 1 p_law_alone spAlone := by
  refine calE_mk T.F__law_alone sc_law_alone b_law_alone (fun a vs H Q E h => by obtain ⟨b, rfl, _⟩ := h; rfl) fun f cdv A outer s H vs Q E p cls d hz hf hy hr h => ?_
  obtain ⟨b, rfl, rfl, q⟩ := h
  obtain ⟨rfl, x, hx, rfl⟩ := hy
  simp only [kinds, List.mem_cons, List.not_mem_nil, or_false] at hx
  rcases hx with rfl | rfl | rfl | rfl
  · refine ⟨_, (pss_cons (ps_set (i := 1) (sc_law_alone).nd rfl (by first | exact Or.inl rfl | exact Or.inr rfl) (pe_op op_addA (pe_op op_addA (pe_callTy cr_int1 (by rfl) T.m_int (by decide +kernel) (pa_cons (pe_callB (Qe.call_isP T.exc_NoTable List.mem_cons_self hz hf) (by rfl) T.m_isinstance (by decide +kernel) (pa_cons (pv 0) (pa_cons (pe_glob rfl T.err_NoTable.gC (show RelV (.ref (Qe.clsA mg "NoTable")) (.ref (Qe.clsA mg "NoTable")) from rfl)) pa_nil))) pa_nil)) (pe_callTy cr_int1 (by rfl) T.m_int (by decide +kernel) (pa_cons (pe_callB (Qe.call_isP T.exc_NoTable List.mem_cons_self hz hf) (by rfl) T.m_isinstance (by decide +kernel) (pa_cons (pv 0) (pa_cons (pe_glob rfl T.err_NoForm.gC (show RelV (.ref (Qe.clsA mg "NoForm")) (.ref (Qe.clsA mg "NoForm")) from rfl)) pa_nil))) pa_nil))) (pe_callTy cr_int1 (by rfl) T.m_int (by decide +kernel) (pa_cons (pe_callB (Qe.call_isP T.exc_NoTable List.mem_cons_self hz hf) (by rfl) T.m_isinstance (by decide +kernel) (pa_cons (pv 0) (pa_cons (pe_glob rfl T.err_NoRule.gC (show RelV (.ref (Qe.clsA mg "NoRule")) (.ref (Qe.clsA mg "NoRule")) from rfl)) pa_nil))) pa_nil)))) (pss_cons (ps_set (i := 1) (sc_law_alone).nd rfl (by first | exact Or.inl rfl | exact Or.inr rfl) (pe_op op_addA (pe_op op_addA (pe_op op_addA (pv 1) (pe_callTy cr_int1 (by rfl) T.m_int (by decide +kernel) (pa_cons (pe_callB (Qe.call_isP T.exc_NoTable List.mem_cons_self hz hf) (by rfl) T.m_isinstance (by decide +kernel) (pa_cons (pv 0) (pa_cons (pe_glob rfl T.err_Ring.gC (show RelV (.ref (Qe.clsA mg "Ring")) (.ref (Qe.clsA mg "Ring")) from rfl)) pa_nil))) pa_nil))) (pe_callTy cr_int1 (by rfl) T.m_int (by decide +kernel) (pa_cons (pe_callB (Qe.call_isP T.exc_NoTable List.mem_cons_self hz hf) (by rfl) T.m_isinstance (by decide +kernel) (pa_cons (pv 0) (pa_cons (pe_glob rfl T.err_NoPaper.gC (show RelV (.ref (Qe.clsA mg "NoPaper")) (.ref (Qe.clsA mg "NoPaper")) from rfl)) pa_nil))) pa_nil))) (pe_callTy cr_int1 (by rfl) T.m_int (by decide +kernel) (pa_cons (pe_callB (Qe.call_isP T.exc_NoTable List.mem_cons_self hz hf) (by rfl) T.m_isinstance (by decide +kernel) (pa_cons (pv 0) (pa_cons (pe_glob rfl T.err_NoYear.gC (show RelV (.ref (Qe.clsA mg "NoYear")) (.ref (Qe.clsA mg "NoYear")) from rfl)) pa_nil))) pa_nil)))) (pss_cons (ps_set (i := 1) (sc_law_alone).nd rfl (by first | exact Or.inl rfl | exact Or.inr rfl) (pe_op op_addA (pe_op op_addA (pe_op op_addA (pv 1) (pe_callTy cr_int1 (by rfl) T.m_int (by decide +kernel) (pa_cons (pe_callB (Qe.call_isP T.exc_NoTable List.mem_cons_self hz hf) (by rfl) T.m_isinstance (by decide +kernel) (pa_cons (pv 0) (pa_cons (pe_glob rfl T.err_NoLine.gC (show RelV (.ref (Qe.clsA mg "NoLine")) (.ref (Qe.clsA mg "NoLine")) from rfl)) pa_nil))) pa_nil))) (pe_callTy cr_int1 (by rfl) T.m_int (by decide +kernel) (pa_cons (pe_callB (Qe.call_isP T.exc_NoTable List.mem_cons_self hz hf) (by rfl) T.m_isinstance (by decide +kernel) (pa_cons (pv 0) (pa_cons (pe_glob rfl T.err_NoChoice.gC (show RelV (.ref (Qe.clsA mg "NoChoice")) (.ref (Qe.clsA mg "NoChoice")) from rfl)) pa_nil))) pa_nil))) (pe_callTy cr_int1 (by rfl) T.m_int (by decide +kernel) (pa_cons (pe_callB (Qe.call_isP T.exc_NoTable List.mem_cons_self hz hf) (by rfl) T.m_isinstance (by decide +kernel) (pa_cons (pv 0) (pa_cons (pe_glob rfl T.err_TooMany.gC (show RelV (.ref (Qe.clsA mg "TooMany")) (.ref (Qe.clsA mg "TooMany")) from rfl)) pa_nil))) pa_nil)))) (pss_one (ps_ret (pe_and (pe_cmpR op_eq (pv 1) pe_int (nomark _)) (pe_one (pe_callB (Qe.call_isP T.exc_NoTable List.mem_cons_self hz hf) (by rfl) T.m_isinstance (by decide +kernel) (pa_cons (pv 0) (pa_cons (pe_ty (n := "ValueError") T.m_ValueError (by decide +kernel)) pa_nil)))))))))), ?_⟩
    rw [t_law_alone]
    try dsimp only [L2H.cxH, cxOf, Cx.nox, Cx.wish]
    walk_at "rd"
    refine rd_isE relv_ref T.kit_NoTable_NoTable ?_
    walk_at "rd"
    refine rd_isE relv_ref T.kit_NoTable_NoForm ?_
    walk_at "rd"
    refine rd_isE relv_ref T.kit_NoTable_NoRule ?_
    walk_at "rd"
    refine rd_isE relv_ref T.kit_NoTable_Ring ?_
    walk_at "rd"
    refine rd_isE relv_ref T.kit_NoTable_NoPaper ?_
    walk_at "rd"
    refine rd_isE relv_ref T.kit_NoTable_NoYear ?_
    walk_at "rd"
    refine rd_isE relv_ref T.kit_NoTable_NoLine ?_
    walk_at "rd"
    refine rd_isE relv_ref T.kit_NoTable_NoChoice ?_
    walk_at "rd"
    refine rd_isE relv_ref T.kit_NoTable_TooMany ?_
    walk_at "rd"
    refine ⟨rfl, _, rfl, ?_⟩
    rw [if_pos (by decide)]
    walk_at "rd"
    refine rd_isE relv_ty T.kit_NoTable_ValueError ?_
    walk_at "rd"
    exact q
  · refine ⟨_, (pss_cons (ps_set (i := 1) (sc_law_alone).nd rfl (by first | exact Or.inl rfl | exact Or.inr rfl) (pe_op op_addA (pe_op op_addA (pe_callTy cr_int1 (by rfl) T.m_int (by decide +kernel) (pa_cons (pe_callB (Qe.call_isP T.exc_NoForm List.mem_cons_self hz hf) (by rfl) T.m_isinstance (by decide +kernel) (pa_cons (pv 0) (pa_cons (pe_glob rfl T.err_NoTable.gC (show RelV (.ref (Qe.clsA mg "NoTable")) (.ref (Qe.clsA mg "NoTable")) from rfl)) pa_nil))) pa_nil)) (pe_callTy cr_int1 (by rfl) T.m_int (by decide +kernel) (pa_cons (pe_callB (Qe.call_isP T.exc_NoForm List.mem_cons_self hz hf) (by rfl) T.m_isinstance (by decide +kernel) (pa_cons (pv 0) (pa_cons (pe_glob rfl T.err_NoForm.gC (show RelV (.ref (Qe.clsA mg "NoForm")) (.ref (Qe.clsA mg "NoForm")) from rfl)) pa_nil))) pa_nil))) (pe_callTy cr_int1 (by rfl) T.m_int (by decide +kernel) (pa_cons (pe_callB (Qe.call_isP T.exc_NoForm List.mem_cons_self hz hf) (by rfl) T.m_isinstance (by decide +kernel) (pa_cons (pv 0) (pa_cons (pe_glob rfl T.err_NoRule.gC (show RelV (.ref (Qe.clsA mg "NoRule")) (.ref (Qe.clsA mg "NoRule")) from rfl)) pa_nil))) pa_nil)))) (pss_cons (ps_set (i := 1) (sc_law_alone).nd rfl (by first | exact Or.inl rfl | exact Or.inr rfl) (pe_op op_addA (pe_op op_addA (pe_op op_addA (pv 1) (pe_callTy cr_int1 (by rfl) T.m_int (by decide +kernel) (pa_cons (pe_callB (Qe.call_isP T.exc_NoForm List.mem_cons_self hz hf) (by rfl) T.m_isinstance (by decide +kernel) (pa_cons (pv 0) (pa_cons (pe_glob rfl T.err_Ring.gC (show RelV (.ref (Qe.clsA mg "Ring")) (.ref (Qe.clsA mg "Ring")) from rfl)) pa_nil))) pa_nil))) (pe_callTy cr_int1 (by rfl) T.m_int (by decide +kernel) (pa_cons (pe_callB (Qe.call_isP T.exc_NoForm List.mem_cons_self hz hf) (by rfl) T.m_isinstance (by decide +kernel) (pa_cons (pv 0) (pa_cons (pe_glob rfl T.err_NoPaper.gC (show RelV (.ref (Qe.clsA mg "NoPaper")) (.ref (Qe.clsA mg "NoPaper")) from rfl)) pa_nil))) pa_nil))) (pe_callTy cr_int1 (by rfl) T.m_int (by decide +kernel) (pa_cons (pe_callB (Qe.call_isP T.exc_NoForm List.mem_cons_self hz hf) (by rfl) T.m_isinstance (by decide +kernel) (pa_cons (pv 0) (pa_cons (pe_glob rfl T.err_NoYear.gC (show RelV (.ref (Qe.clsA mg "NoYear")) (.ref (Qe.clsA mg "NoYear")) from rfl)) pa_nil))) pa_nil)))) (pss_cons (ps_set (i := 1) (sc_law_alone).nd rfl (by first | exact Or.inl rfl | exact Or.inr rfl) (pe_op op_addA (pe_op op_addA (pe_op op_addA (pv 1) (pe_callTy cr_int1 (by rfl) T.m_int (by decide +kernel) (pa_cons (pe_callB (Qe.call_isP T.exc_NoForm List.mem_cons_self hz hf) (by rfl) T.m_isinstance (by decide +kernel) (pa_cons (pv 0) (pa_cons (pe_glob rfl T.err_NoLine.gC (show RelV (.ref (Qe.clsA mg "NoLine")) (.ref (Qe.clsA mg "NoLine")) from rfl)) pa_nil))) pa_nil))) (pe_callTy cr_int1 (by rfl) T.m_int (by decide +kernel) (pa_cons (pe_callB (Qe.call_isP T.exc_NoForm List.mem_cons_self hz hf) (by rfl) T.m_isinstance (by decide +kernel) (pa_cons (pv 0) (pa_cons (pe_glob rfl T.err_NoChoice.gC (show RelV (.ref (Qe.clsA mg "NoChoice")) (.ref (Qe.clsA mg "NoChoice")) from rfl)) pa_nil))) pa_nil))) (pe_callTy cr_int1 (by rfl) T.m_int (by decide +kernel) (pa_cons (pe_callB (Qe.call_isP T.exc_NoForm List.mem_cons_self hz hf) (by rfl) T.m_isinstance (by decide +kernel) (pa_cons (pv 0) (pa_cons (pe_glob rfl T.err_TooMany.gC (show RelV (.ref (Qe.clsA mg "TooMany")) (.ref (Qe.clsA mg "TooMany")) from rfl)) pa_nil))) pa_nil)))) (pss_one (ps_ret (pe_and (pe_cmpR op_eq (pv 1) pe_int (nomark _)) (pe_one (pe_callB (Qe.call_isP T.exc_NoForm List.mem_cons_self hz hf) (by rfl) T.m_isinstance (by decide +kernel) (pa_cons (pv 0) (pa_cons (pe_ty (n := "ValueError") T.m_ValueError (by decide +kernel)) pa_nil)))))))))), ?_⟩
    rw [t_law_alone]
    try dsimp only [L2H.cxH, cxOf, Cx.nox, Cx.wish]
    walk_at "rd"
    refine rd_isE relv_ref T.kit_NoForm_NoTable ?_
    walk_at "rd"
    refine rd_isE relv_ref T.kit_NoForm_NoForm ?_
    walk_at "rd"
    refine rd_isE relv_ref T.kit_NoForm_NoRule ?_
    walk_at "rd"
    refine rd_isE relv_ref T.kit_NoForm_Ring ?_
    walk_at "rd"
    refine rd_isE relv_ref T.kit_NoForm_NoPaper ?_
    walk_at "rd"
    refine rd_isE relv_ref T.kit_NoForm_NoYear ?_
    walk_at "rd"
    refine rd_isE relv_ref T.kit_NoForm_NoLine ?_
    walk_at "rd"
    refine rd_isE relv_ref T.kit_NoForm_NoChoice ?_
    walk_at "rd"
    refine rd_isE relv_ref T.kit_NoForm_TooMany ?_
    walk_at "rd"
    refine ⟨rfl, _, rfl, ?_⟩
    rw [if_pos (by decide)]
    walk_at "rd"
    refine rd_isE relv_ty T.kit_NoForm_ValueError ?_
    walk_at "rd"
    exact q
  · refine ⟨_, (pss_cons (ps_set (i := 1) (sc_law_alone).nd rfl (by first | exact Or.inl rfl | exact Or.inr rfl) (pe_op op_addA (pe_op op_addA (pe_callTy cr_int1 (by rfl) T.m_int (by decide +kernel) (pa_cons (pe_callB (Qe.call_isP T.exc_NoRule List.mem_cons_self hz hf) (by rfl) T.m_isinstance (by decide +kernel) (pa_cons (pv 0) (pa_cons (pe_glob rfl T.err_NoTable.gC (show RelV (.ref (Qe.clsA mg "NoTable")) (.ref (Qe.clsA mg "NoTable")) from rfl)) pa_nil))) pa_nil)) (pe_callTy cr_int1 (by rfl) T.m_int (by decide +kernel) (pa_cons (pe_callB (Qe.call_isP T.exc_NoRule List.mem_cons_self hz hf) (by rfl) T.m_isinstance (by decide +kernel) (pa_cons (pv 0) (pa_cons (pe_glob rfl T.err_NoForm.gC (show RelV (.ref (Qe.clsA mg "NoForm")) (.ref (Qe.clsA mg "NoForm")) from rfl)) pa_nil))) pa_nil))) (pe_callTy cr_int1 (by rfl) T.m_int (by decide +kernel) (pa_cons (pe_callB (Qe.call_isP T.exc_NoRule List.mem_cons_self hz hf) (by rfl) T.m_isinstance (by decide +kernel) (pa_cons (pv 0) (pa_cons (pe_glob rfl T.err_NoRule.gC (show RelV (.ref (Qe.clsA mg "NoRule")) (.ref (Qe.clsA mg "NoRule")) from rfl)) pa_nil))) pa_nil)))) (pss_cons (ps_set (i := 1) (sc_law_alone).nd rfl (by first | exact Or.inl rfl | exact Or.inr rfl) (pe_op op_addA (pe_op op_addA (pe_op op_addA (pv 1) (pe_callTy cr_int1 (by rfl) T.m_int (by decide +kernel) (pa_cons (pe_callB (Qe.call_isP T.exc_NoRule List.mem_cons_self hz hf) (by rfl) T.m_isinstance (by decide +kernel) (pa_cons (pv 0) (pa_cons (pe_glob rfl T.err_Ring.gC (show RelV (.ref (Qe.clsA mg "Ring")) (.ref (Qe.clsA mg "Ring")) from rfl)) pa_nil))) pa_nil))) (pe_callTy cr_int1 (by rfl) T.m_int (by decide +kernel) (pa_cons (pe_callB (Qe.call_isP T.exc_NoRule List.mem_cons_self hz hf) (by rfl) T.m_isinstance (by decide +kernel) (pa_cons (pv 0) (pa_cons (pe_glob rfl T.err_NoPaper.gC (show RelV (.ref (Qe.clsA mg "NoPaper")) (.ref (Qe.clsA mg "NoPaper")) from rfl)) pa_nil))) pa_nil))) (pe_callTy cr_int1 (by rfl) T.m_int (by decide +kernel) (pa_cons (pe_callB (Qe.call_isP T.exc_NoRule List.mem_cons_self hz hf) (by rfl) T.m_isinstance (by decide +kernel) (pa_cons (pv 0) (pa_cons (pe_glob rfl T.err_NoYear.gC (show RelV (.ref (Qe.clsA mg "NoYear")) (.ref (Qe.clsA mg "NoYear")) from rfl)) pa_nil))) pa_nil)))) (pss_cons (ps_set (i := 1) (sc_law_alone).nd rfl (by first | exact Or.inl rfl | exact Or.inr rfl) (pe_op op_addA (pe_op op_addA (pe_op op_addA (pv 1) (pe_callTy cr_int1 (by rfl) T.m_int (by decide +kernel) (pa_cons (pe_callB (Qe.call_isP T.exc_NoRule List.mem_cons_self hz hf) (by rfl) T.m_isinstance (by decide +kernel) (pa_cons (pv 0) (pa_cons (pe_glob rfl T.err_NoLine.gC (show RelV (.ref (Qe.clsA mg "NoLine")) (.ref (Qe.clsA mg "NoLine")) from rfl)) pa_nil))) pa_nil))) (pe_callTy cr_int1 (by rfl) T.m_int (by decide +kernel) (pa_cons (pe_callB (Qe.call_isP T.exc_NoRule List.mem_cons_self hz hf) (by rfl) T.m_isinstance (by decide +kernel) (pa_cons (pv 0) (pa_cons (pe_glob rfl T.err_NoChoice.gC (show RelV (.ref (Qe.clsA mg "NoChoice")) (.ref (Qe.clsA mg "NoChoice")) from rfl)) pa_nil))) pa_nil))) (pe_callTy cr_int1 (by rfl) T.m_int (by decide +kernel) (pa_cons (pe_callB (Qe.call_isP T.exc_NoRule List.mem_cons_self hz hf) (by rfl) T.m_isinstance (by decide +kernel) (pa_cons (pv 0) (pa_cons (pe_glob rfl T.err_TooMany.gC (show RelV (.ref (Qe.clsA mg "TooMany")) (.ref (Qe.clsA mg "TooMany")) from rfl)) pa_nil))) pa_nil)))) (pss_one (ps_ret (pe_and (pe_cmpR op_eq (pv 1) pe_int (nomark _)) (pe_one (pe_callB (Qe.call_isP T.exc_NoRule List.mem_cons_self hz hf) (by rfl) T.m_isinstance (by decide +kernel) (pa_cons (pv 0) (pa_cons (pe_ty (n := "ValueError") T.m_ValueError (by decide +kernel)) pa_nil)))))))))), ?_⟩
    rw [t_law_alone]
    try dsimp only [L2H.cxH, cxOf, Cx.nox, Cx.wish]
    walk_at "rd"
    refine rd_isE relv_ref T.kit_NoRule_NoTable ?_
    walk_at "rd"
    refine rd_isE relv_ref T.kit_NoRule_NoForm ?_
    walk_at "rd"
    refine rd_isE relv_ref T.kit_NoRule_NoRule ?_
    walk_at "rd"
    refine rd_isE relv_ref T.kit_NoRule_Ring ?_
    walk_at "rd"
    refine rd_isE relv_ref T.kit_NoRule_NoPaper ?_
    walk_at "rd"
    refine rd_isE relv_ref T.kit_NoRule_NoYear ?_
    walk_at "rd"
    refine rd_isE relv_ref T.kit_NoRule_NoLine ?_
    walk_at "rd"
    refine rd_isE relv_ref T.kit_NoRule_NoChoice ?_
    walk_at "rd"
    refine rd_isE relv_ref T.kit_NoRule_TooMany ?_
    walk_at "rd"
    refine ⟨rfl, _, rfl, ?_⟩
    rw [if_pos (by decide)]
    walk_at "rd"
    refine rd_isE relv_ty T.kit_NoRule_ValueError ?_
    walk_at "rd"
    exact q
  · refine ⟨_, (pss_cons (ps_set (i := 1) (sc_law_alone).nd rfl (by first | exact Or.inl rfl | exact Or.inr rfl) (pe_op op_addA (pe_op op_addA (pe_callTy cr_int1 (by rfl) T.m_int (by decide +kernel) (pa_cons (pe_callB (Qe.call_isP T.exc_Ring List.mem_cons_self hz hf) (by rfl) T.m_isinstance (by decide +kernel) (pa_cons (pv 0) (pa_cons (pe_glob rfl T.err_NoTable.gC (show RelV (.ref (Qe.clsA mg "NoTable")) (.ref (Qe.clsA mg "NoTable")) from rfl)) pa_nil))) pa_nil)) (pe_callTy cr_int1 (by rfl) T.m_int (by decide +kernel) (pa_cons (pe_callB (Qe.call_isP T.exc_Ring List.mem_cons_self hz hf) (by rfl) T.m_isinstance (by decide +kernel) (pa_cons (pv 0) (pa_cons (pe_glob rfl T.err_NoForm.gC (show RelV (.ref (Qe.clsA mg "NoForm")) (.ref (Qe.clsA mg "NoForm")) from rfl)) pa_nil))) pa_nil))) (pe_callTy cr_int1 (by rfl) T.m_int (by decide +kernel) (pa_cons (pe_callB (Qe.call_isP T.exc_Ring List.mem_cons_self hz hf) (by rfl) T.m_isinstance (by decide +kernel) (pa_cons (pv 0) (pa_cons (pe_glob rfl T.err_NoRule.gC (show RelV (.ref (Qe.clsA mg "NoRule")) (.ref (Qe.clsA mg "NoRule")) from rfl)) pa_nil))) pa_nil)))) (pss_cons (ps_set (i := 1) (sc_law_alone).nd rfl (by first | exact Or.inl rfl | exact Or.inr rfl) (pe_op op_addA (pe_op op_addA (pe_op op_addA (pv 1) (pe_callTy cr_int1 (by rfl) T.m_int (by decide +kernel) (pa_cons (pe_callB (Qe.call_isP T.exc_Ring List.mem_cons_self hz hf) (by rfl) T.m_isinstance (by decide +kernel) (pa_cons (pv 0) (pa_cons (pe_glob rfl T.err_Ring.gC (show RelV (.ref (Qe.clsA mg "Ring")) (.ref (Qe.clsA mg "Ring")) from rfl)) pa_nil))) pa_nil))) (pe_callTy cr_int1 (by rfl) T.m_int (by decide +kernel) (pa_cons (pe_callB (Qe.call_isP T.exc_Ring List.mem_cons_self hz hf) (by rfl) T.m_isinstance (by decide +kernel) (pa_cons (pv 0) (pa_cons (pe_glob rfl T.err_NoPaper.gC (show RelV (.ref (Qe.clsA mg "NoPaper")) (.ref (Qe.clsA mg "NoPaper")) from rfl)) pa_nil))) pa_nil))) (pe_callTy cr_int1 (by rfl) T.m_int (by decide +kernel) (pa_cons (pe_callB (Qe.call_isP T.exc_Ring List.mem_cons_self hz hf) (by rfl) T.m_isinstance (by decide +kernel) (pa_cons (pv 0) (pa_cons (pe_glob rfl T.err_NoYear.gC (show RelV (.ref (Qe.clsA mg "NoYear")) (.ref (Qe.clsA mg "NoYear")) from rfl)) pa_nil))) pa_nil)))) (pss_cons (ps_set (i := 1) (sc_law_alone).nd rfl (by first | exact Or.inl rfl | exact Or.inr rfl) (pe_op op_addA (pe_op op_addA (pe_op op_addA (pv 1) (pe_callTy cr_int1 (by rfl) T.m_int (by decide +kernel) (pa_cons (pe_callB (Qe.call_isP T.exc_Ring List.mem_cons_self hz hf) (by rfl) T.m_isinstance (by decide +kernel) (pa_cons (pv 0) (pa_cons (pe_glob rfl T.err_NoLine.gC (show RelV (.ref (Qe.clsA mg "NoLine")) (.ref (Qe.clsA mg "NoLine")) from rfl)) pa_nil))) pa_nil))) (pe_callTy cr_int1 (by rfl) T.m_int (by decide +kernel) (pa_cons (pe_callB (Qe.call_isP T.exc_Ring List.mem_cons_self hz hf) (by rfl) T.m_isinstance (by decide +kernel) (pa_cons (pv 0) (pa_cons (pe_glob rfl T.err_NoChoice.gC (show RelV (.ref (Qe.clsA mg "NoChoice")) (.ref (Qe.clsA mg "NoChoice")) from rfl)) pa_nil))) pa_nil))) (pe_callTy cr_int1 (by rfl) T.m_int (by decide +kernel) (pa_cons (pe_callB (Qe.call_isP T.exc_Ring List.mem_cons_self hz hf) (by rfl) T.m_isinstance (by decide +kernel) (pa_cons (pv 0) (pa_cons (pe_glob rfl T.err_TooMany.gC (show RelV (.ref (Qe.clsA mg "TooMany")) (.ref (Qe.clsA mg "TooMany")) from rfl)) pa_nil))) pa_nil)))) (pss_one (ps_ret (pe_and (pe_cmpR op_eq (pv 1) pe_int (nomark _)) (pe_one (pe_callB (Qe.call_isP T.exc_Ring List.mem_cons_self hz hf) (by rfl) T.m_isinstance (by decide +kernel) (pa_cons (pv 0) (pa_cons (pe_ty (n := "ValueError") T.m_ValueError (by decide +kernel)) pa_nil)))))))))), ?_⟩
    rw [t_law_alone]
    try dsimp only [L2H.cxH, cxOf, Cx.nox, Cx.wish]
    walk_at "rd"
    refine rd_isE relv_ref T.kit_Ring_NoTable ?_
    walk_at "rd"
    refine rd_isE relv_ref T.kit_Ring_NoForm ?_
    walk_at "rd"
    refine rd_isE relv_ref T.kit_Ring_NoRule ?_
    walk_at "rd"
    refine rd_isE relv_ref T.kit_Ring_Ring ?_
    walk_at "rd"
    refine rd_isE relv_ref T.kit_Ring_NoPaper ?_
    walk_at "rd"
    refine rd_isE relv_ref T.kit_Ring_NoYear ?_
    walk_at "rd"
    refine rd_isE relv_ref T.kit_Ring_NoLine ?_
    walk_at "rd"
    refine rd_isE relv_ref T.kit_Ring_NoChoice ?_
    walk_at "rd"
    refine rd_isE relv_ref T.kit_Ring_TooMany ?_
    walk_at "rd"
    refine ⟨rfl, _, rfl, ?_⟩
    rw [if_pos (by decide)]
    walk_at "rd"
    refine rd_isE relv_ty T.kit_Ring_ValueError ?_
    walk_at "rd"
    exact q
end
end KF
open PySem PySem.Spec PyProof.Rows L2 Qa Qr
open Qg Qe


namespace KF
section
variable {P : Program} {w : World} {K : PySem.W.Frag} {mg : Str → Option Value} {base : Heap} {H : Hp} {Q : VK} {E : XK}
theorem refusal_of {ts tts : List T} {tc to : T} {x : Str} (h : refusal ts tts tc to = some x) : x = "NoTable" ∨ x = "NoForm" ∨ x = "NoRule" := by
  unfold refusal at h
  split at h
  · exact .inl (Option.some.inj h).symm
  split at h
  · exact .inr (.inl (Option.some.inj h).symm)
  split at h
  · exact .inr (.inr (Option.some.inj h).symm)
  · cases h
theorem FormAt.ex {H H' : Hp} {p : Addr} {ts tts : List T} {ch ow : Nat} (h : FormAt K H p ts tts ch ow) (e : Ex H H') : FormAt K H' p ts tts ch ow := by
  obtain ⟨lt, tt, vs, tvs, h1, h2, h3, h4, h5⟩ := h.at_
  exact ⟨lt, tt, vs, tvs, sqt_ex h1 e, sqt_ex h2 e, tva_ex h3 e, sqt_ex h4 e, tva_ex h5 e⟩
/-- what is handed in, as a list of four -/
structure Parts (K : PySem.W.Frag) (H : Hp) (p la ta : Addr) (c d : V) (vs tvs : List V) (ts tts : List T) (tc to : T) : Prop where
  at_ : SqL K H p [.ref la, .ref ta, c, d]
  c_ : Tv K H c tc
  d_ : Tv K H d to
  l_ : SqL K H la vs
  lt_ : TvA K H vs ts
  t_ : SqL K H ta tvs
  tt_ : TvA K H tvs tts
def spAny (K : PySem.W.Frag) : Sp := sp1 fun a H Q => ∃ p la ta c d vs tvs ts tts tc to, a = .ref p ∧ Parts K H p la ta c d vs tvs ts tts tc to ∧ (refusal ts tts tc to = none → ∀ r, Best (nmOf ts) ts.length r → r ≠ []) ∧ ∀ H', Ex H H' → Q (.bl true) H'
theorem k__law_any (T : Tx K w mg) (c_form_of : CalX P w K mg base "form_of" 22 pform_of (spFormX K mg)) (c__law_alone : CalE (OfKind mg) P w K mg base "_law_alone" 1 p_law_alone spAlone) : Cal P w K mg base "_law_any" 23 p_law_any (spAny K) := by
  refine cal1 T.F__law_any sc_law_any b_law_any rfl fun g cdv A outer s H a Q E hr h => ?_
  obtain ⟨p, la, ta, c, d, vs, tvs, ts, tts, tc, to, rfl, hp, hbad, q⟩ := h
  refine ⟨_, (pss_cons (ps_try_as (i := 1) rfl rfl (sc_law_any).nd rfl rfl ⟨rfl, by decide, .inl T.err_FormError.gC⟩ takes0 (fun W pn xe tk pw => (pss_one (ps_expr (Qe.pe_calX c_form_of (hr.mono (by omega)) tk (pa_cons (pe_ix (ixK (K := K) rfl) (pv 0) pe_int (fun _ _ => rfl)) (pa_cons (pe_ix (ixK (K := K) rfl) (pv 0) pe_int (fun _ _ => rfl)) (pa_cons (pe_ix (ixK (K := K) rfl) (pv 0) pe_int (fun _ _ => rfl)) (pa_cons (pe_ix (ixK (K := K) rfl) (pv 0) pe_int (fun _ _ => rfl)) pa_nil)))))))) (fun a oe cls d pn hz hf => (pss_one (ps_ret (Qe.pe_calE c__law_alone (roomH (hr.mono (by omega))) List.mem_cons_self hz hf (pa_cons (pv 1) pa_nil)))))) (pss_one (ps_ret pe_bl))), ?_⟩
  rw [t_law_any]
  try dsimp only [cxOf, Cx.nox, Cx.wish]
  have caught : ∀ (x : Str) (H1 : Hp), Ex H H1 → (x = "NoTable" ∨ x = "NoForm" ∨ x = "NoRule" ∨ x = "Ring") →
      wAs K (.ref (clsA mg "FormError")) 1 (fun a cls d => tRet (tCalE (OfKind mg) cls d (spAlone a) (tCons (tVar 1) tNil))) (fun _ _ _ _ => False)
        { nx := tRet (tC (V.bl false)) { nx := fun x H' => Q V.non H', rt := Q }, rt := Q } (.ref (clsA mg x)) none [some (V.ref p), none] H1 := by
    intro x H1 e1 hx
    have hk : OfKind mg (.ref (clsA mg x)) none := ⟨rfl, x, by rcases hx with rfl | rfl | rfl | rfl <;> decide, rfl⟩
    have hs : PySem.W.exmOne K (.ref (clsA mg x)) (.ref (clsA mg "FormError")) = some true := by
      rcases hx with rfl | rfl | rfl | rfl
      · exact T.sub_NoTable_FormError
      · exact T.sub_NoForm_FormError
      · exact T.sub_NoRule_FormError
      · exact T.sub_Ring_FormError
    refine ⟨true, hs, fun _ a ha => ?_, fun z => Bool.noConfusion z⟩
    walk_at "rd"
    refine ⟨hk, rd_sp1 ⟨rfl, ?_⟩⟩
    exact q H1 e1
  walk_at "rd"
  refine rd_ixL hp.at_ (atI_nat (j := 0) rfl) ?_
  walk_at "rd"
  refine rd_ixL hp.at_ (atI_nat (j := 1) rfl) ?_
  walk_at "rd"
  refine rd_ixL hp.at_ (atI_nat (j := 2) rfl) ?_
  walk_at "rd"
  refine rd_ixL hp.at_ (atI_nat (j := 3) rfl) ?_
  walk_at "rd"
  refine rd_spX4 ⟨la, ta, vs, tvs, ts, tts, tc, to, rfl, rfl, hp.c_, hp.d_, hp.l_, hp.lt_, hp.t_, hp.tt_, fun x hx H1 e1 => ?_, fun hn r hb => ⟨fun _ H1 e1 => ?_, fun h0 => absurd h0 (hbad hn r hb)⟩⟩
  · refine caught x H1 e1 ?_
    rcases refusal_of hx with z | z | z
    · exact .inl z
    · exact .inr (.inl z)
    · exact .inr (.inr (.inl z))
  · exact caught "Ring" H1 e1 (.inr (.inr (.inr rfl)))
/-- what the law calls a refusal -/
def wordOf (x : Str) : Str := if x = "NoTable" then "table" else if x = "NoForm" then "form" else if x = "NoRule" then "rule" else "ring"
def spTried (K : PySem.W.Frag) : Sp := sp1 fun a H Q => ∃ p la ta c d vs tvs ts tts tc to, a = .ref p ∧ Parts K H p la ta c d vs tvs ts tts tc to ∧
  (∀ x, refusal ts tts tc to = some x → ∀ f H', Ex H H' → H f = none → H' f = some (.lst [.str (wordOf x), .non]) → Q (.ref f) H') ∧
  (refusal ts tts tc to = none → ∀ r, Best (nmOf ts) ts.length r → (r ≠ [] → ∀ f H', Ex H H' → H f = none → H' f = some (.lst [.str "ring", .non]) → Q (.ref f) H') ∧
    (r = [] → ∀ ch ow : Nat, tc = .int ch → to = .int ow → ∀ q f H', FormAt K H' q ts tts ch ow → Ex H H' → H q = none → H f = none → H' f = some (.lst [.str "", .ref q]) → Q (.ref f) H'))
theorem k__law_tried (T : Tx K w mg) (c_form_of : CalX P w K mg base "form_of" 22 pform_of (spFormX K mg)) : Cal P w K mg base "_law_tried" 23 p_law_tried (spTried K) := by
  refine cal1 T.F__law_tried sc_law_tried b_law_tried rfl fun g cdv A outer s H a Q E hr h => ?_
  obtain ⟨p, la, ta, c, d, vs, tvs, ts, tts, tc, to, rfl, hp, q, q2⟩ := h
  refine ⟨_, (pss_one (ps_try_many rfl rfl takes0 (fun W pn xe tk pw => (pss_one (ps_ret (pe_lst (pa_cons pe_str (pa_cons (Qe.pe_calX c_form_of (hr.mono (by omega)) tk (pa_cons (pe_ix (ixK (K := K) rfl) (pv 0) pe_int (fun _ _ => rfl)) (pa_cons (pe_ix (ixK (K := K) rfl) (pv 0) pe_int (fun _ _ => rfl)) (pa_cons (pe_ix (ixK (K := K) rfl) (pv 0) pe_int (fun _ _ => rfl)) (pa_cons (pe_ix (ixK (K := K) rfl) (pv 0) pe_int (fun _ _ => rfl)) pa_nil))))) pa_nil)))))) (HdsOk.cons ⟨rfl, by decide, .inl T.err_NoTable.gC⟩ (fun a oe cls d pn hz hf => (pss_one (ps_ret (pe_lst (pa_cons pe_str (pa_cons pe_non pa_nil)))))) (HdsOk.cons ⟨rfl, by decide, .inl T.err_NoForm.gC⟩ (fun a oe cls d pn hz hf => (pss_one (ps_ret (pe_lst (pa_cons pe_str (pa_cons pe_non pa_nil)))))) (HdsOk.cons ⟨rfl, by decide, .inl T.err_NoRule.gC⟩ (fun a oe cls d pn hz hf => (pss_one (ps_ret (pe_lst (pa_cons pe_str (pa_cons pe_non pa_nil)))))) (HdsOk.cons ⟨rfl, by decide, .inl T.err_Ring.gC⟩ (fun a oe cls d pn hz hf => (pss_one (ps_ret (pe_lst (pa_cons pe_str (pa_cons pe_non pa_nil)))))) HdsOk.nil)))))), ?_⟩
  rw [t_law_tried]
  try dsimp only [cxOf, Cx.nox, Cx.wish]
  walk_at "rd"
  refine rd_ixL hp.at_ (atI_nat (j := 0) rfl) ?_
  walk_at "rd"
  refine rd_ixL hp.at_ (atI_nat (j := 1) rfl) ?_
  walk_at "rd"
  refine rd_ixL hp.at_ (atI_nat (j := 2) rfl) ?_
  walk_at "rd"
  refine rd_ixL hp.at_ (atI_nat (j := 3) rfl) ?_
  walk_at "rd"
  refine rd_spX4 ⟨la, ta, vs, tvs, ts, tts, tc, to, rfl, rfl, hp.c_, hp.d_, hp.l_, hp.lt_, hp.t_, hp.tt_, fun x hx H1 e1 => ?_, fun hn r hb => ⟨fun hr0 H1 e1 => ?_, fun h0 ch ow hc hd qf H1 hf hqf e1 => ?_⟩⟩
  · rcases refusal_of hx with rfl | rfl | rfl
    · refine ⟨true, T.sub_NoTable_NoTable, fun _ a0 ha0 => ?_, fun z => Bool.noConfusion z⟩
      walk_at "rd"
      refine new_lst fun f H2 hf E2 h2 => ?_
      exact q _ hx f H2 (e1.trans E2) (free_of e1 hf) h2
    · refine ⟨false, T.sub_NoForm_NoTable, fun z => Bool.noConfusion z, fun _ => ⟨true, T.sub_NoForm_NoForm, fun _ a0 ha0 => ?_, fun z => Bool.noConfusion z⟩⟩
      walk_at "rd"
      refine new_lst fun f H2 hf E2 h2 => ?_
      exact q _ hx f H2 (e1.trans E2) (free_of e1 hf) h2
    · refine ⟨false, T.sub_NoRule_NoTable, fun z => Bool.noConfusion z, fun _ => ⟨false, T.sub_NoRule_NoForm, fun z => Bool.noConfusion z, fun _ => ⟨true, T.sub_NoRule_NoRule, fun _ a0 ha0 => ?_, fun z => Bool.noConfusion z⟩⟩⟩
      walk_at "rd"
      refine new_lst fun f H2 hf E2 h2 => ?_
      exact q _ hx f H2 (e1.trans E2) (free_of e1 hf) h2
  · refine ⟨false, T.sub_Ring_NoTable, fun z => Bool.noConfusion z, fun _ => ⟨false, T.sub_Ring_NoForm, fun z => Bool.noConfusion z, fun _ => ⟨false, T.sub_Ring_NoRule, fun z => Bool.noConfusion z, fun _ => ⟨true, T.sub_Ring_Ring, fun _ a0 ha0 => ?_, fun z => Bool.noConfusion z⟩⟩⟩⟩
    walk_at "rd"
    refine new_lst fun f H2 hf E2 h2 => ?_
    exact (q2 hn r hb).1 hr0 f H2 (e1.trans E2) (free_of e1 hf) h2
  · walk_at "rd"
    refine new_lst fun f H2 hf2 E2 h2 => ?_
    exact (q2 hn r hb).2 h0 ch ow hc hd qf f H2 (hf.ex E2) (e1.trans E2) hqf (free_of e1 hf2) h2
end
end KF
open PySem PySem.Spec PyProof.Rows L2 Qa Qr
open Qg Qe


namespace KF
section
variable {P : Program} {w : World} {K : PySem.W.Frag} {mg : Str → Option Value} {base : Heap} {H : Hp} {Q : VK} {E : XK}
def firstW (fs : List Int) : Str := if (1 : Int) ∈ fs then "table" else if (2 : Int) ∈ fs ∨ (3 : Int) ∈ fs ∨ (4 : Int) ∈ fs then "form" else if (5 : Int) ∈ fs then "rule" else if (6 : Int) ∈ fs then "ring" else ""
def spFirst (K : PySem.W.Frag) : Sp := sp1 fun a H Q => ∃ l fs, a = .ref l ∧ SqL K H l (fs.map V.int) ∧ ∀ H', Ex H H' → Q (.str (firstW fs)) H'
theorem rd_inZ {x : Int} {a : Addr} {fs : List Int} {H : Hp} {Q : VK} (h : SqL K H a (fs.map V.int)) (q : Q (.bl (decide (x ∈ fs))) H) : rIn K false (.int x) (.ref a) H Q := by
  refine rd_inL h rfl (by rw [List.all_map]; exact List.all_eq_true.mpr fun _ _ => rfl) ?_
  have : inV (.int x) (fs.map V.int) = decide (x ∈ fs) := by
    unfold inV
    rw [List.any_map, Bool.eq_iff_iff, List.any_eq_true, decide_eq_true_iff]
    constructor
    · rintro ⟨y, hy, e⟩
      have : y = x := by simpa [eqV] using e
      exact this ▸ hy
    · intro hx
      exact ⟨x, hx, by simp [eqV]⟩
  rw [this]
  exact q
theorem k__law_first (T : Tx K w mg) : Cal P w K mg base "_law_first" 1 p_law_first (spFirst K) := by
  refine cal1 T.F__law_first sc_law_first b_law_first rfl fun g cdv A outer s H a Q E hr h => ?_
  obtain ⟨l, fs, rfl, hl, q⟩ := h
  refine ⟨_, (pss_cons (ps_for PassesOwn.never rfl (pi_seq (pe_lst (pa_cons pe_int (pa_cons pe_int (pa_cons pe_int (pa_cons pe_int (pa_cons pe_int (pa_cons pe_int pa_nil)))))))) (pg_name (i := 1) (sc_law_first).nd rfl (by first | exact Or.inl rfl | exact Or.inr rfl)) (pss_one (ps_if (pt_cmpR op_in_seq (pv 1) (pv 0) (by rfl)) (pss_one (ps_ret (pe_ix ix_seq (pe_lst (pa_cons pe_str (pa_cons pe_str (pa_cons pe_str (pa_cons pe_str (pa_cons pe_str (pa_cons pe_str (pa_cons pe_str pa_nil)))))))) (pv 1) (fun _ _ => rfl)))) pss_nil))) (pss_one (ps_ret pe_str))), ?_⟩
  rw [t_law_first]
  try dsimp only [cxOf, Cx.nox, Cx.wish]
  walk_at "rd"
  refine new_lst fun p6 H6 hp6 E6 h6 => ?_
  refine .inl (.inl ⟨p6, rfl, ⟨_, .of h6⟩, ?_⟩)
  refine forW_Lx (.of h6) (fun i σ H' => ((∃ x, σ = [some (.ref l), x]) ∧ Ex H6 H') ∧ ∀ j : Nat, 1 ≤ j → j ≤ i → ((j : Nat) : Int) ∉ fs) ?_ ?_ ?_ ?_
  · exact ⟨⟨⟨_, rfl⟩, Evl.Ex.refl _⟩, fun j a b => by omega⟩
  · rintro i σ H' hi ⟨⟨_, e⟩, _⟩
    exact sql_ex (.of h6) e
  · rintro i v σ H1 hv ⟨⟨⟨x, rfl⟩, e⟩, ha⟩
    have hi : i < 6 := by have := (List.getElem?_eq_some_iff.mp hv).1; exact this
    have hv2 : v = .int ((i + 1 : Nat) : Int) := by
      rcases (by omega : i = 0 ∨ i = 1 ∨ i = 2 ∨ i = 3 ∨ i = 4 ∨ i = 5) with rfl | rfl | rfl | rfl | rfl | rfl <;> exact (Option.some.inj hv).symm
    subst hv2
    walk_at "rd"
    refine rd_inZ (sql_ex (sql_ex hl E6) e) ?_
    cases hd : decide (((i + 1 : Nat) : Int) ∈ fs) with
    | false =>
      walk_at "rd"
      refine ⟨⟨⟨_, rfl⟩, e⟩, fun j h1 h2 => ?_⟩
      rcases (by omega : j ≤ i ∨ j = i + 1) with h3 | rfl
      · exact ha j h1 h3
      · exact of_decide_eq_false hd
    | true =>
      have hin := of_decide_eq_true hd
      walk_at "rd"
      refine new_lst fun p7 H7 hp7 E7 h7 => ?_
      walk_at "rd"
      refine rd_ixL (.of h7) (i := ((i + 1 : Nat) : Int)) (v := .str (firstW fs)) ?_ ?_
      · refine atI_nat (j := i + 1) ?_
        unfold firstW
        rcases (by omega : i = 0 ∨ i = 1 ∨ i = 2 ∨ i = 3 ∨ i = 4 ∨ i = 5) with rfl | rfl | rfl | rfl | rfl | rfl
        · rw [if_pos (show (1 : Int) ∈ fs from hin)]; rfl
        · rw [if_neg (show (1 : Int) ∉ fs from ha 1 (by omega) (by omega)), if_pos (.inl (show (2 : Int) ∈ fs from hin))]; rfl
        · rw [if_neg (show (1 : Int) ∉ fs from ha 1 (by omega) (by omega)), if_pos (.inr (.inl (show (3 : Int) ∈ fs from hin)))]; rfl
        · rw [if_neg (show (1 : Int) ∉ fs from ha 1 (by omega) (by omega)), if_pos (.inr (.inr (show (4 : Int) ∈ fs from hin)))]; rfl
        · rw [if_neg (show (1 : Int) ∉ fs from ha 1 (by omega) (by omega)), if_neg (fun h => h.elim (show (2 : Int) ∉ fs from ha 2 (by omega) (by omega)) fun h => h.elim (show (3 : Int) ∉ fs from ha 3 (by omega) (by omega)) (show (4 : Int) ∉ fs from ha 4 (by omega) (by omega))), if_pos (show (5 : Int) ∈ fs from hin)]; rfl
        · rw [if_neg (show (1 : Int) ∉ fs from ha 1 (by omega) (by omega)), if_neg (fun h => h.elim (show (2 : Int) ∉ fs from ha 2 (by omega) (by omega)) fun h => h.elim (show (3 : Int) ∉ fs from ha 3 (by omega) (by omega)) (show (4 : Int) ∉ fs from ha 4 (by omega) (by omega))), if_neg (show (5 : Int) ∉ fs from ha 5 (by omega) (by omega)), if_pos (show (6 : Int) ∈ fs from hin)]; rfl
      walk_at "rd"
      exact q H7 ((E6.trans e).trans E7)
  · rintro σ H1 ⟨⟨⟨x, rfl⟩, e⟩, ha⟩
    walk_at "rd"
    have := q H1 (E6.trans e)
    have z : firstW fs = "" := by
      unfold firstW
      rw [if_neg (show (1 : Int) ∉ fs from ha 1 (by omega) (by decide)), if_neg (fun h => h.elim (show (2 : Int) ∉ fs from ha 2 (by omega) (by decide)) fun h => h.elim (show (3 : Int) ∉ fs from ha 3 (by omega) (by decide)) (show (4 : Int) ∉ fs from ha 4 (by omega) (by decide))), if_neg (show (5 : Int) ∉ fs from ha 5 (by omega) (by decide)), if_neg (show (6 : Int) ∉ fs from ha 6 (by omega) (by decide))]
    rw [z] at this
    exact this
end
end KF
open PySem PySem.Spec PyProof.Rows L2 Qa Qr
open Qg Qe
namespace KF
section
variable {P : Program} {w : World} {K : PySem.W.Frag} {mg : Str → Option Value} {base : Heap} {H : Hp} {Q : VK} {E : XK}
/-! a ring that is there is found -/
theorem better_nil {acc r : List Nat} (h : better acc r = []) : acc = [] ∧ r = [] := by
  unfold better at h
  split at h
  · rename_i c
    subst h
    simp_all
  · rename_i c
    subst h
    simp_all
theorem best_ring {nm : List (List Nat)} : ∀ {n : Nat} {r : List Nat}, Best nm n r → ∀ {f : Nat} {w : List Nat}, f < n → Ring nm f w → r ≠ []
  | n + 1, _, .succ (acc := acc) (r := r) hb hr, f, w, hf, hw => fun e => by
    obtain ⟨e1, e2⟩ := better_nil e
    rcases (by omega : f < n ∨ f = n) with h | rfl
    · exact best_ring hb h hw e1
    · rcases hr with ⟨_, no⟩ | ⟨rg, _⟩
      · exact no w hw
      · exact ring_ne rg e2
theorem two_ring {nm : List (List Nat)} {a b : Nat} (h1 : b ∈ row nm a) (h2 : a ∈ row nm b) : ∃ w, Ring nm a w := ⟨[a] ++ [b], ⟨b, .snoc .one h1, h2⟩⟩
/-- two lines that name each other, or one that names itself -/
theorem faulty_ring {ts : List T} {a o : Nat} (ha : a < ts.length) (ho : o < ts.length) {n : Nat} {r : List Nat} (hn : n = ts.length)
    (hb : Best (nmOf ((ts.set a (.tup [.str "add", .tup [.str "number", .int 1], .tup [.str "line", .int o]])).set o (.tup [.str "least", .tup [.str "line", .int a], .tup [.str "number", .int 2]]))) n r) : r ≠ [] := by
  subst hn
  have len : ((ts.set a (.tup [.str "add", .tup [.str "number", .int 1], .tup [.str "line", .int o]])).set o (.tup [.str "least", .tup [.str "line", .int a], .tup [.str "number", .int 2]])).length = ts.length := by rw [List.length_set, List.length_set]
  have b1 : beh "line" 8 (.tup [.str "add", .tup [.str "number", .int 1], .tup [.str "line", .int (o : Int)]]) = [ik o] := rfl
  have b2 : beh "line" 8 (.tup [.str "least", .tup [.str "line", .int (a : Int)], .tup [.str "number", .int 2]]) = [ik a] := rfl
  have rowAt : ∀ (us : List T) (j : Nat) (t : T), us[j]? = some t → row (nmOf us) j = rowK us.length (beh "line" 8 t) := by
    intro us j t h
    unfold row nmOf
    rw [List.getElem?_map, h]
    rfl
  have m2 : a ∈ row (nmOf ((ts.set a (.tup [.str "add", .tup [.str "number", .int 1], .tup [.str "line", .int o]])).set o (.tup [.str "least", .tup [.str "line", .int a], .tup [.str "number", .int 2]]))) o := by
    rw [rowAt _ o _ (by rw [List.getElem?_set_self (by rw [List.length_set]; exact ho)]), b2, len, mem_rowK]
    exact ⟨ha, List.mem_singleton_self _⟩
  by_cases e : a = o
  · subst e
    exact best_ring hb ho (w := [a]) ⟨a, .one, m2⟩
  · have m1 : o ∈ row (nmOf ((ts.set a (.tup [.str "add", .tup [.str "number", .int 1], .tup [.str "line", .int o]])).set o (.tup [.str "least", .tup [.str "line", .int a], .tup [.str "number", .int 2]]))) a := by
      rw [rowAt _ a _ (by rw [List.getElem?_set_ne (fun z => e z.symm), List.getElem?_set_self ha]), b1, len, mem_rowK]
      exact ⟨ho, List.mem_singleton_self _⟩
    obtain ⟨w, hw⟩ := two_ring m1 m2
    exact best_ring hb ha hw
end
end KF
open PySem PySem.Spec PyProof.Rows L2 Qa Qr
open Qg Qe


namespace KF
section
variable {P : Program} {w : World} {K : PySem.W.Frag} {mg : Str → Option Value} {base : Heap} {H : Hp} {Q : VK} {E : XK}
def spSame (K : PySem.W.Frag) : Sp := sp2 fun a b H Q => ∃ f p la ta vs tvs ts tts, ∃ ch ow : Nat, a = .ref f ∧ b = .ref p ∧ FormAt K H f ts tts ch ow ∧ Parts K H p la ta (.int ch) (.int ow) vs tvs ts tts (.int ch) (.int ow) ∧ okL 8 ts = true ∧ okL 8 tts = true ∧ ∀ H', Ex H H' → Q (.bl true) H'
theorem k__law_same_kinds (T : Tx K w mg) : Cal P w K mg base "_law_same_kinds" 1 p_law_same_kinds (spSame K) := by
  refine cal2 T.F__law_same_kinds sc_law_same_kinds b_law_same_kinds rfl fun g cdv A outer s H a b Q E hr h => ?_
  obtain ⟨f, p, la, ta, vs, tvs, ts, tts, ch, ow, rfl, rfl, ⟨lt, tt, vs2, tvs2, f1, f2, f3, f4, f5⟩, hp, o1, o2, q⟩ := h
  refine ⟨_, (pss_cons (ps_if (PW.pt (pw_or (pt_not (pt_tru (pe_callB call_isi (by rfl) T.m_isinstance (by decide +kernel) (pa_cons (pv 0) (pa_cons (pe_ty (n := "tuple") T.m_tuple (by decide +kernel)) pa_nil))))) (pw_or (pt_cmpR (op_neA hr) (pe_callB cr_lenA (by rfl) T.m_len (by decide +kernel) (pa_cons (pv 0) pa_nil)) pe_int (nomark _)) (pw_or (pt_cmpR (op_neA hr) (pe_ix ix_seq (pv 0) pe_int (fun _ _ => rfl)) (pe_ix ix_seq (pv 1) pe_int (fun _ _ => rfl)) (nomark _)) (pw_or1 (pt_cmpR (op_neA hr) (pe_ix ix_seq (pv 0) pe_int (fun _ _ => rfl)) (pe_ix ix_seq (pv 1) pe_int (fun _ _ => rfl)) (nomark _))))))) (pss_one (ps_ret pe_bl)) pss_nil) (pss_cons (ps_if (PW.pt (pw_or (pt_cmpR (op_neA hr) (pe_ix ix_seq (pv 0) pe_int (fun _ _ => rfl)) (pe_callTy cr_tupOf (by rfl) T.m_tuple (by decide +kernel) (pa_cons (pe_ix ix_seq (pv 1) pe_int (fun _ _ => rfl)) pa_nil)) (nomark _)) (pw_or1 (pt_cmpR (op_neA hr) (pe_ix ix_seq (pv 0) pe_int (fun _ _ => rfl)) (pe_callTy cr_tupOf (by rfl) T.m_tuple (by decide +kernel) (pa_cons (pe_ix ix_seq (pv 1) pe_int (fun _ _ => rfl)) pa_nil)) (nomark _))))) (pss_one (ps_ret pe_bl)) pss_nil) (pss_one (ps_ret (pe_and (pe_callB call_isi (by rfl) T.m_isinstance (by decide +kernel) (pa_cons (pe_ix ix_seq (pv 0) pe_int (fun _ _ => rfl)) (pa_cons (pe_ty (n := "tuple") T.m_tuple (by decide +kernel)) pa_nil))) (pe_one (pe_callB call_isi (by rfl) T.m_isinstance (by decide +kernel) (pa_cons (pe_ix ix_seq (pv 0) pe_int (fun _ _ => rfl)) (pa_cons (pe_ty (n := "tuple") T.m_tuple (by decide +kernel)) pa_nil))))))))), ?_⟩
  rw [t_law_same_kinds]
  try dsimp only [cxOf, Cx.nox, Cx.wish]
  have tf : Tv K H (.ref f) (.tup [.tup ts, .tup tts, .int ch, .int ow]) := .tup f1 (.cons (.tup f2 f3) (.cons (.tup f4 f5) (.cons (.int _) (.cons (.int _) .nil))))
  walk_at "rd"
  refine rd_lenT f1 ?_
  walk_at "rd"
  refine rd_ixT f1 (atI_nat (j := 2) rfl) ?_
  walk_at "rd"
  refine rd_ixL hp.at_ (atI_nat (j := 2) rfl) ?_
  walk_at "rd"
  rw [if_neg (by simp)]
  walk_at "rd"
  refine rd_ixT f1 (atI_nat (j := 3) rfl) ?_
  walk_at "rd"
  refine rd_ixL hp.at_ (atI_nat (j := 3) rfl) ?_
  walk_at "rd"
  rw [if_neg (by simp)]
  walk_at "rd"
  refine rd_ixT f1 (atI_nat (j := 0) rfl) ?_
  walk_at "rd"
  refine rd_ixL hp.at_ (atI_nat (j := 0) rfl) ?_
  walk_at "rd"
  refine rd_tupOfL hp.l_ fun p4 H4 hp4 E4 h4 => ?_
  walk_at "rd"
  refine rd_neTups o1 (by decide) (sqt_ex f2 E4) (tva_ex f3 E4) (.of h4) (tva_ex hp.lt_ E4) ?_
  walk_at "rd"
  refine rd_ixT (sqt_ex f1 E4) (atI_nat (j := 1) rfl) ?_
  walk_at "rd"
  refine rd_ixL (sql_ex hp.at_ E4) (atI_nat (j := 1) rfl) ?_
  walk_at "rd"
  refine rd_tupOfL (sql_ex hp.t_ E4) fun p5 H5 hp5 E5 h5 => ?_
  have e05 := E4.trans E5
  walk_at "rd"
  refine rd_neTups o2 (by decide) (sqt_ex f4 e05) (tva_ex f5 e05) (.of h5) (tva_ex hp.tt_ e05) ?_
  walk_at "rd"
  refine rd_ixT (sqt_ex f1 e05) (atI_nat (j := 0) rfl) ?_
  walk_at "rd"
  refine rd_isTup (.tup (sqt_ex f2 e05) (tva_ex f3 e05)) ?_
  walk_at "rd"
  refine rd_ixT (sqt_ex f1 e05) (atI_nat (j := 1) rfl) ?_
  walk_at "rd"
  refine rd_isTup (.tup (sqt_ex f4 e05) (tva_ex f5 e05)) ?_
  walk_at "rd"
  exact q H5 e05
end
end KF
open PySem PySem.Spec PyProof.Rows L2 Qa Qr
open Qg Qe


namespace KF
section
variable {P : Program} {w : World} {K : PySem.W.Frag} {mg : Str → Option Value} {base : Heap} {H : Hp} {Q : VK} {E : XK}
theorem okL_mem {n : Nat} : ∀ {ts : List T}, okL n ts = true → ∀ t ∈ ts, okT n t = true
  | [], _, _, h => by cases h
  | t :: ts, o, x, h => by
    have o : (okT n t && okL n ts) = true := by simpa [okL] using o
    rw [Bool.and_eq_true] at o
    rcases List.mem_cons.mp h with rfl | h
    · exact o.1
    · exact okL_mem o.2 x h
/-- what a fault makes of a form's parts -/
structure Fault (f : Int) (ts tts : List T) (tc to : T) (ts' tts' : List T) (tc' to' : T) : Prop where
  one : f = 1 → tabsOk tts' = false
  two : f = 2 → tts' = tts ∧ (ts'.length = 0 ∨ ts'.length = 41)
  three : f = 3 → tts' = tts ∧ within tc' 0 8 = false
  four : f = 4 → tts' = tts ∧ isPlace to' ts'.length = false
  five : f = 5 → tts' = tts ∧ tc' = tc ∧ to' = to ∧ ts'.length = ts.length ∧ ∃ t ∈ ts', ∀ ch, isRule ⟨ts.length, tts.length, ch⟩ 8 t = false
  six : f = 6 → tts' = tts ∧ tc' = tc ∧ to' = to ∧ ∃ a o : Nat, a < ts.length ∧ o < ts.length ∧ ts' = (ts.set a (.tup [.str "add", .tup [.str "number", .int 1], .tup [.str "line", .int o]])).set o (.tup [.str "least", .tup [.str "line", .int a], .tup [.str "number", .int 2]])
  okt : okL 9 ts = true → okL 9 ts' = true
  oktt : okL 9 tts = true → okL 9 tts' = true
  few : ts.length ≤ 41 → ts'.length ≤ 41
theorem TvA.flat {H : Hp} {vs : List V} {ts : List T} (h : TvA K H vs ts) : ∀ n : Nat, TvA K H (List.replicate n vs).flatten (List.replicate n ts).flatten
  | 0 => .nil
  | n + 1 => by rw [List.replicate_succ, List.replicate_succ, List.flatten_cons, List.flatten_cons]; exact h.append (TvA.flat h n)
def spFaulty (K : PySem.W.Frag) : Sp := sp3 fun a b c H Q => ∃ p f l la ta x y vs tvs ts tts tc to, a = .ref p ∧ b = .int f ∧ c = .ref l ∧ Parts K H p la ta x y vs tvs ts tts tc to ∧ 1 ≤ f ∧ f ≤ 6 ∧ ts.length ≤ 41 ∧ ((f = 5 ∨ f = 6) → 1 ≤ ts.length) ∧ (∃ s, H l = some (.lst [.int s])) ∧
  ∀ p' la' ta' x' y' vs' tvs' ts' tts' tc' to' H', Parts K H' p' la' ta' x' y' vs' tvs' ts' tts' tc' to' → Fault f ts tts tc to ts' tts' tc' to' → H p' = none → H la' = none → H ta' = none → St1 l H H' → Q (.ref p') H'
theorem k__law_faulty (T : Tx K w mg) (c__law_next : Cal P w K mg base "_law_next" 1 p_law_next (spNext K)) : Cal P w K mg base "_law_faulty" 2 p_law_faulty (spFaulty K) := by
  refine cal3 T.F__law_faulty sc_law_faulty b_law_faulty rfl fun g cdv A outer s H a b c Q E hr h => ?_
  obtain ⟨p, f, l, la, ta, x, y, vs, tvs, ts, tts, tc, to, rfl, rfl, rfl, hp, g1, g6, h41, hone, hs, q⟩ := h
  refine ⟨_, (pss_cons (ps_set (i := 3) (sc_law_faulty).nd rfl (by first | exact Or.inl rfl | exact Or.inr rfl) (pe_callTy cr_lstOf (by rfl) T.m_list (by decide +kernel) (pa_cons (pe_ix ix_seq (pv 0) pe_int (fun _ _ => rfl)) pa_nil))) (pss_cons (ps_set (i := 4) (sc_law_faulty).nd rfl (by first | exact Or.inl rfl | exact Or.inr rfl) (pe_callTy cr_lstOf (by rfl) T.m_list (by decide +kernel) (pa_cons (pe_ix ix_seq (pv 0) pe_int (fun _ _ => rfl)) pa_nil))) (pss_cons (ps_set (i := 5) (sc_law_faulty).nd rfl (by first | exact Or.inl rfl | exact Or.inr rfl) (pe_ix ix_seq (pv 0) pe_int (fun _ _ => rfl))) (pss_cons (ps_set (i := 6) (sc_law_faulty).nd rfl (by first | exact Or.inl rfl | exact Or.inr rfl) (pe_ix ix_seq (pv 0) pe_int (fun _ _ => rfl))) (pss_cons (ps_set (i := 7) (sc_law_faulty).nd rfl (by first | exact Or.inl rfl | exact Or.inr rfl) (pe_cal c__law_next (hr.mono (by omega)) (pa_cons (pv 2) (pa_cons (pe_callB (cr_max2 rfl) (by rfl) T.m_max (by decide +kernel) (pa_cons pe_int (pa_cons (pe_callB cr_lenA (by rfl) T.m_len (by decide +kernel) (pa_cons (pv 3) pa_nil)) pa_nil))) pa_nil)))) (pss_cons (ps_if (pt_cmpR (op_eqA hr) (pv 1) pe_int (nomark _)) (pss_cons (ps_set (i := 8) (sc_law_faulty).nd rfl (by first | exact Or.inl rfl | exact Or.inr rfl) (pe_callTy cr_tupOf (by rfl) T.m_tuple (by decide +kernel) (pa_cons (pe_lc (own := [("_law_k", 9)]) rfl (sc_law_faulty).nd (pi_range1 (by rfl) T.m_range (pa_cons pe_int pa_nil)) (blkOk_by (N := n_law_faulty) (sc := defScope s_law_faulty) (by decide +kernel)) (fun _ _ _ _ _ => (pg_name (i := 9) (sc_law_faulty).nd rfl (by first | exact Or.inl rfl | exact Or.inr rfl))) (fun _ _ _ _ _ => pts_nil) (fun _ _ _ _ _ => (pe_tup (pa_cons (pv 9) (pa_cons pe_int (pa_cons pe_int pa_nil)))))) pa_nil))) (pss_one (ps_set (i := 4) (sc_law_faulty).nd rfl (by first | exact Or.inl rfl | exact Or.inr rfl) (pe_ix ix_seq (pe_lst (pa_cons (pe_lst (pa_cons pe_int pa_nil)) (pa_cons (pe_lst (pa_cons (pe_tup (pa_cons (pe_tup (pa_cons pe_int (pa_cons pe_int (pa_cons pe_int pa_nil)))) (pa_cons (pe_tup (pa_cons pe_int (pa_cons pe_int (pa_cons pe_int pa_nil)))) pa_nil))) pa_nil)) (pa_cons (pe_lst (pa_cons (pe_tup pa_nil) pa_nil)) (pa_cons (pe_op op_rep (pe_lst (pa_cons (pe_tup (pa_cons (pe_tup (pa_cons pe_int (pa_cons pe_int (pa_cons pe_int pa_nil)))) pa_nil)) pa_nil)) pe_int) (pa_cons (pe_lst (pa_cons (pv 8) pa_nil)) pa_nil)))))) (pe_cal c__law_next (hr.mono (by omega)) (pa_cons (pv 2) (pa_cons pe_int pa_nil))) (fun _ _ => rfl))))) pss_nil) (pss_cons (ps_if (pt_cmpR (op_eqA hr) (pv 1) pe_int (nomark _)) (pss_one (ps_set (i := 3) (sc_law_faulty).nd rfl (by first | exact Or.inl rfl | exact Or.inr rfl) (pe_ix ix_seq (pe_lst (pa_cons (pe_lst pa_nil) (pa_cons (pe_slice sl_any (pe_op op_rep (pv 3) pe_int) po_none (po_some pe_int)) pa_nil))) (pe_cal c__law_next (hr.mono (by omega)) (pa_cons (pv 2) (pa_cons pe_int pa_nil))) (fun _ _ => rfl)))) pss_nil) (pss_cons (ps_if (pt_cmpR (op_eqA hr) (pv 1) pe_int (nomark _)) (pss_one (ps_set (i := 5) (sc_law_faulty).nd rfl (by first | exact Or.inl rfl | exact Or.inr rfl) (pe_ix ix_seq (pe_lst (pa_cons (pe_un un_neg pe_int) (pa_cons pe_int (pa_cons pe_bl (pa_cons pe_non (pa_cons pe_str pa_nil)))))) (pe_cal c__law_next (hr.mono (by omega)) (pa_cons (pv 2) (pa_cons pe_int pa_nil))) (fun _ _ => rfl)))) pss_nil) (pss_cons (ps_if (pt_cmpR (op_eqA hr) (pv 1) pe_int (nomark _)) (pss_one (ps_set (i := 6) (sc_law_faulty).nd rfl (by first | exact Or.inl rfl | exact Or.inr rfl) (pe_ix ix_seq (pe_lst (pa_cons (pe_un un_neg pe_int) (pa_cons (pe_callB cr_lenA (by rfl) T.m_len (by decide +kernel) (pa_cons (pv 3) pa_nil)) (pa_cons pe_bl (pa_cons pe_non (pa_cons (pe_op op_addA (pe_callB cr_lenA (by rfl) T.m_len (by decide +kernel) (pa_cons (pv 3) pa_nil)) (pe_op op_pow pe_int pe_int)) pa_nil)))))) (pe_cal c__law_next (hr.mono (by omega)) (pa_cons (pv 2) (pa_cons pe_int pa_nil))) (fun _ _ => rfl)))) pss_nil) (pss_cons (ps_if (pt_cmpR (op_eqA hr) (pv 1) pe_int (nomark _)) (pss_cons (ps_set (i := 10) (sc_law_faulty).nd rfl (by first | exact Or.inl rfl | exact Or.inr rfl) (pe_lst (pa_cons pe_non (pa_cons (pe_tup (pa_cons pe_str (pa_cons (pe_callB cr_lenA (by rfl) T.m_len (by decide +kernel) (pa_cons (pv 3) pa_nil)) pa_nil))) (pa_cons (pe_tup (pa_cons pe_str (pa_cons (pe_callB cr_lenA (by rfl) T.m_len (by decide +kernel) (pa_cons (pv 4) pa_nil)) (pa_cons (pe_tup (pa_cons pe_str (pa_cons pe_int pa_nil))) pa_nil)))) (pa_cons (pe_tup (pa_cons pe_str (pa_cons pe_str pa_nil))) pa_nil)))))) (pss_one (ps_asg (pe_ix ix_seq (pv 10) (pe_cal c__law_next (hr.mono (by omega)) (pa_cons (pv 2) (pa_cons pe_int pa_nil))) (fun _ _ => rfl)) (pg_sub (pv 3) (pv 7) set_list)))) pss_nil) (pss_cons (ps_if (pt_cmpR (op_eqA hr) (pv 1) pe_int (nomark _)) (pss_cons (ps_set (i := 11) (sc_law_faulty).nd rfl (by first | exact Or.inl rfl | exact Or.inr rfl) (pe_cal c__law_next (hr.mono (by omega)) (pa_cons (pv 2) (pa_cons (pe_callB cr_lenA (by rfl) T.m_len (by decide +kernel) (pa_cons (pv 3) pa_nil)) pa_nil)))) (pss_cons (ps_asg (pe_tup (pa_cons pe_str (pa_cons (pe_tup (pa_cons pe_str (pa_cons pe_int pa_nil))) (pa_cons (pe_tup (pa_cons pe_str (pa_cons (pv 11) pa_nil))) pa_nil)))) (pg_sub (pv 3) (pv 7) set_list)) (pss_one (ps_asg (pe_tup (pa_cons pe_str (pa_cons (pe_tup (pa_cons pe_str (pa_cons (pv 7) pa_nil))) (pa_cons (pe_tup (pa_cons pe_str (pa_cons pe_int pa_nil))) pa_nil)))) (pg_sub (pv 3) (pv 11) set_list))))) pss_nil) (pss_one (ps_ret (pe_lst (pa_cons (pv 3) (pa_cons (pv 4) (pa_cons (pv 5) (pa_cons (pv 6) pa_nil)))))))))))))))))), ?_⟩
  rw [t_law_faulty]
  try dsimp only [cxOf, Cx.nox, Cx.wish]
  walk_at "rd"
  refine rd_ixL hp.at_ (atI_nat (j := 0) rfl) ?_
  walk_at "rd"
  refine rd_lstOfL hp.l_ fun pl H1 hpl E1 h1 => ?_
  walk_at "rd"
  refine rd_ixL (sql_ex hp.at_ E1) (atI_nat (j := 1) rfl) ?_
  walk_at "rd"
  refine rd_lstOfL (sql_ex hp.t_ E1) fun pt H2 hpt E2 h2 => ?_
  have e2 := E1.trans E2
  walk_at "rd"
  refine rd_ixL (sql_ex hp.at_ e2) (atI_nat (j := 2) rfl) ?_
  walk_at "rd"
  refine rd_ixL (sql_ex hp.at_ e2) (atI_nat (j := 3) rfl) ?_
  walk_at "rd"
  refine rd_lenL (sql_ex (.of h1) E2) ?_
  walk_at "rd"
  obtain ⟨s0, hs0⟩ := hs
  refine rd_sp2 ⟨l, _, rfl, rfl, ⟨s0, lst_ex hs0 e2⟩, by split <;> omega, fun r H3 hr0 hr1 S3 => ?_⟩
  obtain ⟨at_, rfl⟩ : ∃ j : Nat, r = j := ⟨r.toNat, by omega⟩
  walk_at "rd"
  have lv : vs.length = ts.length := hp.lt_.len
  have ltv : tvs.length = tts.length := hp.tt_.len
  have npl : pl ≠ l := fun z => by rw [z, hs0] at hpl; cases hpl
  have npt : pt ≠ l := fun z => by rw [z, E1 _ _ hs0] at hpt; cases hpt
  have npp : pt ≠ pl := by rintro rfl; rw [h1] at hpt; cases hpt
  have hpl3 : H3 pl = some (.lst vs) := lst_st (lst_ex h1 E2) S3 npl
  have hpt3 : H3 pt = some (.lst tvs) := lst_st h2 S3 npt
  have hptH : H pt = none := free_of E1 hpt
  have S03 : St1 l H H3 := (St1.ex ⟨s0, hs0⟩ e2).trans S3
  have tx3 := tv_st hp.c_ S03
  have ty3 := tv_st hp.d_ S03
  have tv3 := tva_st hp.lt_ S03
  have ttv3 := tva_st hp.tt_ S03
  have fin : ∀ (la' ta' : Addr) (x' y' : V) (vs' tvs' : List V) (ts' tts' : List Qa.T) (tc' to' : Qa.T) (H5 : Hp), St1 l H H5 → H5 la' = some (.lst vs') → H5 ta' = some (.lst tvs') → Tv K H5 x' tc' → Tv K H5 y' to' → TvA K H5 vs' ts' → TvA K H5 tvs' tts' → H la' = none → H ta' = none → Fault f ts tts tc to ts' tts' tc' to' → NewL [.ref la', .ref ta', x', y'] H5 Q := by
    intro la' ta' x' y' vs' tvs' ts' tts' tc' to' H5 S5 a1 a2 a3 a4 a5 a6 a7 a8 a9
    refine new_lst fun p6 H6 hp6 E6 h6 => ?_
    exact q p6 la' ta' x' y' vs' tvs' ts' tts' tc' to' H6 ⟨.of h6, tv_ex a3 E6, tv_ex a4 E6, .of (E6 _ _ a1), tva_ex a5 E6, .of (E6 _ _ a2), tva_ex a6 E6⟩ a9 (S5.free hp6) a7 a8 (S5.trans (.ex S5.st E6))
  clear q hp E1 h1 E2 h2 e2
  rcases (by omega : f = 1 ∨ f = 2 ∨ f = 3 ∨ f = 4 ∨ f = 5 ∨ f = 6) with rfl | rfl | rfl | rfl | rfl | rfl
  · walk_at "rd"
    refine lcW_R (fun D i H' => ∃ us : List V, H' D = some (.lst us) ∧ us.length = i ∧ TvA K H' us ((List.range i).map fun k : Nat => .tup [.int ((k : Nat) : Int), .int 0, .int 5]) ∧ Ex H3 H') ?_ ?_ ?_
    · exact fun D H' hD e h => ⟨[], h, rfl, .nil, e⟩
    · rintro D i H4 hD hi ⟨us, hD4, lu, tv4, E4⟩
      have hi : i < 21 := hi
      walk_at "lcn"
      walk_at "rd"
      refine new_tup fun p5 H5 hp5 E5 h5 => ?_
      have hD5 := E5 _ _ hD4
      have tm := Tame.upd (ys := us ++ [.ref p5]) hD5
      refine ⟨us, hD5, by rw [sizeLine_eq]; omega, us ++ [.ref p5], upd_same, by rw [List.length_append, lu]; rfl, ?_, ex_new hD (E4.trans E5)⟩
      rw [List.range_succ, List.map_append]
      refine tm.tvA ((tva_ex tv4 E5).append (.one ?_))
      rw [Int.zero_add] at h5
      exact .tup (.of h5) (.cons (.int _) (.cons (.int _) (.cons (.int _) .nil)))
    rintro D H4 hD ⟨us, hD4, lu, tv4, E4⟩
    rw [show (21 : Int).toNat = 21 from rfl] at lu tv4
    walk_at "rd"
    refine rd_tupOfL (.of hD4) fun tl H5 htl E5 h5 => ?_
    walk_at "rd"
    refine new_lst fun p1 G1 hp1 F1 g1 => ?_
    walk_at "rd"
    refine new_tup fun t1 G2 ht1 F2 g2 => ?_
    walk_at "rd"
    refine new_tup fun t2 G3 ht2 F3 g3 => ?_
    walk_at "rd"
    refine new_tup fun t3 G4 ht3 F4 g4 => ?_
    walk_at "rd"
    refine new_lst fun p2 G5 hp2 F5 g5 => ?_
    walk_at "rd"
    refine new_tup fun t4 G6 ht4 F6 g6 => ?_
    walk_at "rd"
    refine new_lst fun p3 G7 hp3 F7 g7 => ?_
    walk_at "rd"
    refine new_tup fun t5 G8 ht5 F8 g8 => ?_
    walk_at "rd"
    refine new_tup fun t6 G9 ht6 F9 g9 => ?_
    walk_at "rd"
    refine new_lst fun p4 G10 hp4 F10 g10 => ?_
    walk_at "rd"
    refine rd_rep g10 (by decide) (by decide) (by show 1 ≤ 100; decide) fun p5 G11 hp5 F11 g11 => ?_
    walk_at "rd"
    refine new_lst fun p6 G12 hp6 F12 g12 => ?_
    walk_at "rd"
    refine new_lst fun p7 G13 hp7 F13 g13 => ?_
    have E313 : Ex H3 G13 := E4.trans (E5.trans (F1.trans (F2.trans (F3.trans (F4.trans (F5.trans (F6.trans (F7.trans (F8.trans (F9.trans (F10.trans (F11.trans (F12.trans F13)))))))))))))
    have E37 : Ex G7 G13 := F8.trans (F9.trans (F10.trans (F11.trans (F12.trans F13))))
    have st13 : ∃ s, G13 l = some (.lst [.int s]) := sta_ex S3.st E313
    walk_at "rd"
    refine nx st13 (by decide) fun k H14 k0 k1 S14 => ?_
    walk_at "rd"
    have S0 : St1 l H H14 := (S03.trans (.ex S3.st E313)).trans S14
    have np7 : p7 ≠ l := fun z => by
      obtain ⟨s3, hs3⟩ := S3.st
      rw [z, (E4.trans (E5.trans (F1.trans (F2.trans (F3.trans (F4.trans (F5.trans (F6.trans (F7.trans (F8.trans (F9.trans (F10.trans (F11.trans F12))))))))))))) _ _ hs3] at hp7
      cases hp7
    refine rd_ixLm (.of (lst_st g13 S14 np7)) k0 k1 fun v hv => ?_
    walk_at "rd"
    obtain ⟨ta', tvs', tts', rfl, hta', ttv', frt, bad, okt⟩ : ∃ ta' tvs' tts', v = .ref ta' ∧ G13 ta' = some (.lst tvs') ∧ TvA K G13 tvs' tts' ∧ H3 ta' = none ∧ tabsOk tts' = false ∧ okL 9 tts' = true := by
      have e5 := E4.trans E5
      have f13 := E37
      simp only [List.mem_cons, List.not_mem_nil, or_false] at hv
      rcases hv with rfl | rfl | rfl | rfl | rfl
      · refine ⟨p1, _, [.int 7], rfl, f13 _ _ ((F2.trans (F3.trans (F4.trans (F5.trans (F6.trans F7))))) _ _ g1), .one (.int 7), free_of e5 hp1, by decide, by decide⟩
      · have a : Tv K G4 (.ref t3) (.tup [.tup [.int 1, .int 2, .int 3], .tup [.int 1, .int 2, .int 3]]) := .tup (.of g4) (.cons (.tup (.of ((F3.trans F4) _ _ g2)) (.cons (.int _) (.cons (.int _) (.cons (.int _) .nil)))) (.cons (.tup (.of (F4 _ _ g3)) (.cons (.int _) (.cons (.int _) (.cons (.int _) .nil)))) .nil))
        exact ⟨p2, _, [_], rfl, f13 _ _ ((F6.trans F7) _ _ g5), .one (tv_ex a (F5.trans (F6.trans (F7.trans f13)))), free_of (e5.trans (F1.trans (F2.trans (F3.trans F4)))) hp2, by decide, by decide⟩
      · have a : Tv K G6 (.ref t4) (.tup []) := .tup (.of g6) .nil
        exact ⟨p3, _, [_], rfl, f13 _ _ g7, .one (tv_ex a (F7.trans f13)), free_of (e5.trans (F1.trans (F2.trans (F3.trans (F4.trans (F5.trans F6)))))) hp3, by decide, by decide⟩
      · have a : Tv K G9 (.ref t6) (.tup [.tup [.int 0, .int 0, .int 5]]) := .tup (.of g9) (.cons (.tup (.of (F9 _ _ g8)) (.cons (.int _) (.cons (.int _) (.cons (.int _) .nil)))) .nil)
        have b := tv_ex a (F10.trans (F11.trans (F12.trans F13)))
        exact ⟨p5, _, (List.replicate 6 [_]).flatten, rfl, (F12.trans F13) _ _ g11, TvA.flat (.one b) 6, free_of (e5.trans (F1.trans (F2.trans (F3.trans (F4.trans (F5.trans (F6.trans (F7.trans (F8.trans (F9.trans F10)))))))))) hp5, by decide, by decide⟩
      · have a : Tv K H5 (.ref tl) (.tup ((List.range 21).map fun k : Nat => .tup [.int ((k : Nat) : Int), .int 0, .int 5])) := .tup (.of h5) (tva_ex tv4 E5)
        have b := tv_ex a (F1.trans (F2.trans (F3.trans (F4.trans (F5.trans (F6.trans (F7.trans f13)))))))
        exact ⟨p6, _, [_], rfl, F13 _ _ g12, .one b, free_of (e5.trans (F1.trans (F2.trans (F3.trans (F4.trans (F5.trans (F6.trans (F7.trans (F8.trans (F9.trans (F10.trans F11))))))))))) hp6, by decide, by decide⟩
    have nta : ta' ≠ l := fun z => by
      obtain ⟨s3, hs3⟩ := S3.st
      rw [z, hs3] at frt
      cases frt
    have S314 := (St1.ex S3.st E313).trans S14
    exact fin pl ta' _ _ vs tvs' ts tts' tc to H14 S0 (lst_st hpl3 S314 npl) (lst_st hta' S14 nta) (tv_st tx3 S314) (tv_st ty3 S314) (tva_st tv3 S314) (tva_st ttv' S14) hpl (S03.free frt) ⟨fun _ => bad, fun z => by omega, fun z => by omega, fun z => by omega, fun z => by omega, fun z => by omega, id, fun _ => okt, id⟩
  · walk_at "rd"
    refine new_lst fun p4 H4 hp4 E4 h4 => ?_
    walk_at "rd"
    refine rd_rep (E4 _ _ hpl3) (by decide) (by decide) (by omega) fun p5 H5 hp5 E5 h5 => ?_
    walk_at "rd"
    refine rd_slL (.of h5) fun p6 H6 hp6 E6 h6 => ?_
    have ec : cutV (List.replicate (41 : Int).toNat vs).flatten none (some 41) = (List.replicate 41 vs).flatten.take 41 := cutV_to _ 41
    rw [ec] at h6
    walk_at "rd"
    refine new_lst fun p7 H7 hp7 E7 h7 => ?_
    walk_at "rd"
    have e37 := E4.trans (E5.trans (E6.trans E7))
    refine nx (sta_ex S3.st e37) (by decide) fun k H8 k0 k1 S8 => ?_
    walk_at "rd"
    have S38 := (St1.ex S3.st e37).trans S8
    have S0 : St1 l H H8 := S03.trans S38
    refine rd_ixLm (.of (lst_st h7 S8 (ne_st (sta_ex S3.st (E4.trans (E5.trans E6))) hp7))) k0 k1 fun v hv => ?_
    walk_at "rd"
    obtain ⟨la', vs', ts', rfl, hla', tv', frt, bad, okt⟩ : ∃ la' vs' ts', v = .ref la' ∧ H7 la' = some (.lst vs') ∧ TvA K H7 vs' ts' ∧ H3 la' = none ∧ (ts'.length = 0 ∨ ts'.length = 41) ∧ (okL 9 ts = true → okL 9 ts' = true) := by
      simp only [List.mem_cons, List.not_mem_nil, or_false] at hv
      rcases hv with rfl | rfl
      · exact ⟨p4, [], [], rfl, (E5.trans (E6.trans E7)) _ _ h4, .nil, hp4, .inl rfl, fun _ => by simp [okL]⟩
      · refine ⟨p6, _, (List.replicate 41 ts).flatten.take 41, rfl, E7 _ _ h6, (TvA.flat (tva_ex tv3 e37) 41).take 41, free_of (E4.trans E5) hp6, ?_, fun o => okL_all fun t ht => ?_⟩
        · rw [List.length_take, List.length_flatten, List.map_replicate, List.sum_replicate_nat]
          omega
        · obtain ⟨us, hu, ht⟩ := List.mem_flatten.mp (List.mem_of_mem_take ht)
          rw [List.eq_of_mem_replicate hu] at ht
          exact okL_mem o t ht
    have nla : la' ≠ l := ne_st S3.st frt
    exact fin la' pt _ _ vs' tvs ts' tts tc to H8 S0 (lst_st hla' S8 nla) (lst_st hpt3 S38 npt) (tv_st tx3 S38) (tv_st ty3 S38) (tva_st tv' S8) (tva_st ttv3 S38) (S03.free frt) hptH ⟨fun z => by omega, fun _ => ⟨rfl, bad⟩, fun z => by omega, fun z => by omega, fun z => by omega, fun z => by omega, okt, id, fun _ => by omega⟩
  · walk_at "rd"
    refine new_lst fun p4 H4 hp4 E4 h4 => ?_
    walk_at "rd"
    refine nx (sta_ex S3.st E4) (by decide) fun k H5 k0 k1 S5 => ?_
    walk_at "rd"
    have S35 := (St1.ex S3.st E4).trans S5
    refine rd_ixLm (.of (lst_st h4 S5 (ne_st S3.st hp4))) k0 k1 fun v hv => ?_
    walk_at "rd"
    obtain ⟨tc', hv', bad⟩ : ∃ tc', Tv K H5 v tc' ∧ within tc' 0 8 = false := by
      simp only [List.mem_cons, List.not_mem_nil, or_false] at hv
      rcases hv with rfl | rfl | rfl | rfl | rfl
      · exact ⟨_, .int _, rfl⟩
      · exact ⟨_, .int _, rfl⟩
      · exact ⟨_, .bl _, rfl⟩
      · exact ⟨_, .non, rfl⟩
      · exact ⟨_, .str _ (by decide), rfl⟩
    exact fin pl pt _ _ vs tvs ts tts tc' to H5 (S03.trans S35) (lst_st hpl3 S35 npl) (lst_st hpt3 S35 npt) hv' (tv_st ty3 S35) (tva_st tv3 S35) (tva_st ttv3 S35) hpl hptH ⟨fun z => by omega, fun z => by omega, fun _ => ⟨rfl, bad⟩, fun z => by omega, fun z => by omega, fun z => by omega, id, id, id⟩
  · walk_at "rd"
    refine rd_lenL (.of hpl3) ?_
    walk_at "rd"
    refine rd_lenL (.of hpl3) ?_
    walk_at "rd"
    refine new_lst fun p4 H4 hp4 E4 h4 => ?_
    walk_at "rd"
    refine nx (sta_ex S3.st E4) (by decide) fun k H5 k0 k1 S5 => ?_
    walk_at "rd"
    have S35 := (St1.ex S3.st E4).trans S5
    refine rd_ixLm (.of (lst_st h4 S5 (ne_st S3.st hp4))) k0 k1 fun v hv => ?_
    walk_at "rd"
    obtain ⟨to', hv', bad⟩ : ∃ to', Tv K H5 v to' ∧ isPlace to' ts.length = false := by
      simp only [List.mem_cons, List.not_mem_nil, or_false] at hv
      rcases hv with rfl | rfl | rfl | rfl | rfl
      · exact ⟨_, .int _, rfl⟩
      · refine ⟨_, .int _, ?_⟩
        simp [isPlace, within]
        omega
      · exact ⟨_, .bl _, rfl⟩
      · exact ⟨_, .non, rfl⟩
      · refine ⟨_, .int _, ?_⟩
        simp [isPlace, within]
        omega
    exact fin pl pt _ _ vs tvs ts tts tc to' H5 (S03.trans S35) (lst_st hpl3 S35 npl) (lst_st hpt3 S35 npt) (tv_st tx3 S35) hv' (tva_st tv3 S35) (tva_st ttv3 S35) hpl hptH ⟨fun z => by omega, fun z => by omega, fun z => by omega, fun _ => ⟨rfl, bad⟩, fun z => by omega, fun z => by omega, id, id, id⟩
  · have h1ts : 1 ≤ ts.length := hone (.inl rfl)
    have hat : at_ < ts.length := by
      split at hr1 <;> omega
    walk_at "rd"
    refine rd_lenL (.of hpl3) ?_
    walk_at "rd"
    refine new_tup fun p4 H4 hp4 E4 h4 => ?_
    walk_at "rd"
    refine rd_lenL (.of (E4 _ _ hpt3)) ?_
    walk_at "rd"
    refine new_tup fun p5 H5 hp5 E5 h5 => ?_
    walk_at "rd"
    refine new_tup fun p6 H6 hp6 E6 h6 => ?_
    walk_at "rd"
    refine new_tup fun p7 H7 hp7 E7 h7 => ?_
    walk_at "rd"
    refine new_lst fun p8 H8 hp8 E8 h8 => ?_
    have e38 := E4.trans (E5.trans (E6.trans (E7.trans E8)))
    walk_at "rd"
    refine nx (sta_ex S3.st e38) (by decide) fun k H9 k0 k1 S9 => ?_
    walk_at "rd"
    have S39 := (St1.ex S3.st e38).trans S9
    refine rd_ixLm (.of (lst_st h8 S9 (ne_st (sta_ex S3.st (E4.trans (E5.trans (E6.trans E7)))) hp8))) k0 k1 fun v hv => ?_
    walk_at "rd"
    have hpl9 := lst_st hpl3 S39 npl
    refine rd_setL hpl9 (j := at_) (ixN_k (by omega)) ?_
    obtain ⟨t', hv', bad, okt⟩ : ∃ t', Tv K H8 v t' ∧ (∀ ch, isRule ⟨ts.length, tts.length, ch⟩ 8 t' = false) ∧ okT 9 t' = true := by
      simp only [List.mem_cons, List.not_mem_nil, or_false] at hv
      rcases hv with rfl | rfl | rfl | rfl
      · exact ⟨_, .non, fun _ => rfl, rfl⟩
      · refine ⟨.tup [.str "line", .int (vs.length : Nat)], .tup (.of ((E5.trans (E6.trans (E7.trans E8))) _ _ h4)) (.cons (.str _ (by decide)) (.cons (.int _) .nil)), fun ch => ?_, ?_⟩
        · rw [R_line]
          simp [isPlace, within]
          omega
        · simp [okT, okL]
          decide +kernel
      · refine ⟨.tup [.str "table", .int (tvs.length : Nat), .tup [.str "number", .int 1]], .tup (.of ((E7.trans E8) _ _ h6)) (.cons (.str _ (by decide)) (.cons (.int _) (.cons (.tup (.of ((E6.trans (E7.trans E8)) _ _ h5)) (.cons (.str _ (by decide)) (.cons (.int _) .nil))) .nil))), fun ch => ?_, ?_⟩
        · rw [R_table]
          simp [isPlace, within]
          omega
        · simp [okT, okL]
          decide +kernel
      · refine ⟨.tup [.str "number", .str "1"], .tup (.of (E8 _ _ h7)) (.cons (.str _ (by decide)) (.cons (.str _ (by decide)) .nil)), fun ch => ?_, ?_⟩
        · rw [R_number]
          rfl
        · simp [okT, okL]
          decide +kernel
    generalize eH : upd H9 pl _ = H10
    have tm : Tame H9 H10 := by rw [← eH]; exact Tame.upd hpl9
    have hpl10 : H10 pl = some (.lst (vs.set at_ v)) := by rw [← eH]; exact upd_same
    have hpt10 : H10 pt = some (.lst tvs) := by rw [← eH, upd_ne npp]; exact lst_st hpt3 S39 npt
    have S010 : St1 l H H10 := by rw [← eH]; exact (S03.trans S39).upd hpl hpl9 npl
    clear eH
    walk_at "rd"
    refine fin pl pt _ _ _ tvs (ts.set at_ t') tts tc to H10 S010 hpl10 hpt10 (tm.tv (tv_st tx3 S39)) (tm.tv (tv_st ty3 S39)) (tm.tvA (TvA.set (tv_st hv' S9) (tva_st tv3 S39))) (tm.tvA (tva_st ttv3 S39)) hpl hptH ⟨fun z => by omega, fun z => by omega, fun z => by omega, fun z => by omega, fun _ => ⟨rfl, rfl, rfl, by rw [List.length_set], t', List.mem_set hat t', bad⟩, fun z => by omega, fun o => okL_all fun t ht => ?_, id, fun h => by rw [List.length_set]; exact h⟩
    rcases List.mem_or_eq_of_mem_set ht with h | rfl
    · exact okL_mem o t h
    · exact okt
  · have h1ts : 1 ≤ ts.length := hone (.inr rfl)
    have hat : at_ < ts.length := by
      split at hr1 <;> omega
    walk_at "rd"
    refine rd_lenL (.of hpl3) ?_
    walk_at "rd"
    refine nx S3.st (by omega) fun o H4 o0 o1 S4 => ?_
    obtain ⟨oth, rfl⟩ : ∃ j : Nat, o = j := ⟨o.toNat, by omega⟩
    have hot : oth < ts.length := by omega
    walk_at "rd"
    refine new_tup fun p5 H5 hp5 E5 h5 => ?_
    walk_at "rd"
    refine new_tup fun p6 H6 hp6 E6 h6 => ?_
    walk_at "rd"
    refine new_tup fun p7 H7 hp7 E7 h7 => ?_
    walk_at "rd"
    have e47 := E5.trans (E6.trans E7)
    have S37 := S4.trans (.ex S4.st e47)
    have hpl7 := lst_st hpl3 S37 npl
    refine rd_setL hpl7 (j := at_) (ixN_k (by omega)) ?_
    generalize eH : upd H7 pl _ = H8
    have tm : Tame H7 H8 := by rw [← eH]; exact Tame.upd hpl7
    have hpl8 : H8 pl = some (.lst (vs.set at_ (.ref p7))) := by rw [← eH]; exact upd_same
    have hpt8 : H8 pt = some (.lst tvs) := by rw [← eH, upd_ne npp]; exact lst_st hpt3 S37 npt
    have S08 : St1 l H H8 := by rw [← eH]; exact (S03.trans S37).upd hpl hpl7 npl
    clear eH
    have tv7 : Tv K H7 (.ref p7) (.tup [.str "add", .tup [.str "number", .int 1], .tup [.str "line", .int oth]]) := .tup (.of h7) (.cons (.str _ (by decide)) (.cons (.tup (.of ((E6.trans E7) _ _ h5)) (.cons (.str _ (by decide)) (.cons (.int _) .nil))) (.cons (.tup (.of (E7 _ _ h6)) (.cons (.str _ (by decide)) (.cons (.int _) .nil))) .nil)))
    have tva8 := tm.tvA (TvA.set (i := at_) tv7 (tva_st tv3 S37))
    walk_at "rd"
    refine new_tup fun p9 H9 hp9 E9 h9 => ?_
    walk_at "rd"
    refine new_tup fun p10 H10 hp10 E10 h10 => ?_
    walk_at "rd"
    refine new_tup fun p11 H11 hp11 E11 h11 => ?_
    walk_at "rd"
    have e811 := E9.trans (E10.trans E11)
    have hpl11 := e811 _ _ hpl8
    refine rd_setL hpl11 (j := oth) (ixN_k (by rw [List.length_set]; omega)) ?_
    generalize eH : upd H11 pl _ = H12
    have tm2 : Tame H11 H12 := by rw [← eH]; exact Tame.upd hpl11
    have hpl12 : H12 pl = some (.lst ((vs.set at_ (.ref p7)).set oth (.ref p11))) := by rw [← eH]; exact upd_same
    have hpt12 : H12 pt = some (.lst tvs) := by rw [← eH, upd_ne npp]; exact e811 _ _ hpt8
    have S012 : St1 l H H12 := by rw [← eH]; exact (S08.trans (.ex S08.st e811)).upd hpl hpl11 npl
    clear eH
    have tv11 : Tv K H11 (.ref p11) (.tup [.str "least", .tup [.str "line", .int at_], .tup [.str "number", .int 2]]) := .tup (.of h11) (.cons (.str _ (by decide)) (.cons (.tup (.of ((E10.trans E11) _ _ h9)) (.cons (.str _ (by decide)) (.cons (.int _) .nil))) (.cons (.tup (.of (E11 _ _ h10)) (.cons (.str _ (by decide)) (.cons (.int _) .nil))) .nil)))
    have tmm : Tame H7 H12 := (tm.trans (.ex e811)).trans tm2
    walk_at "rd"
    refine fin pl pt _ _ _ tvs _ tts tc to H12 S012 hpl12 hpt12 (tmm.tv (tv_st tx3 S37)) (tmm.tv (tv_st ty3 S37)) (tm2.tvA (TvA.set tv11 (tva_ex tva8 e811))) (tmm.tvA (tva_st ttv3 S37)) hpl hptH ⟨fun z => by omega, fun z => by omega, fun z => by omega, fun z => by omega, fun z => by omega, fun _ => ⟨rfl, rfl, rfl, at_, oth, hat, hot, rfl⟩, fun o => okL_all fun t ht => ?_, id, fun h => by rw [List.length_set, List.length_set]; exact h⟩
    rcases List.mem_or_eq_of_mem_set ht with h | rfl
    · rcases List.mem_or_eq_of_mem_set h with h | rfl
      · exact okL_mem o t h
      · simp [okT, okL]
        decide +kernel
    · simp [okT, okL]
      decide +kernel
end
end KF
open PySem PySem.Spec PyProof.Rows L2 Qa Qr
open Qg Qe
namespace KF
section
variable {P : Program} {w : World} {K : PySem.W.Frag} {mg : Str → Option Value} {base : Heap} {H : Hp} {Q : VK} {E : XK}
/-- what is the matter with a form's parts -/
structure Stt (x : Str) (ts tts : List T) (tc to : T) : Prop where
  tab : x ≠ "table" → tabsOk tts = true
  tabF : x = "table" → tabsOk tts = false
  siz : x ≠ "table" → x ≠ "form" → sizesOk ts.length tc to = true
  sizF : x = "form" → sizesOk ts.length tc to = false
  rul : x = "" ∨ x = "ring" → rulesOk ts tts.length tc = true
  rulF : x = "rule" → rulesOk ts tts.length tc = false
  rng : x = "ring" → ∀ r, Best (nmOf ts) ts.length r → r ≠ []
  fine : x = "" → (∀ r, Best (nmOf ts) ts.length r → r = []) ∧ okL 8 ts = true ∧ okL 8 tts = true ∧ ∃ ch ow : Nat, tc = .int ch ∧ to = .int ow
/-- what is the matter behind so many of the law's turns -/
def w2 (fs : List Int) : Str := if (5 : Int) ∈ fs then "rule" else if (6 : Int) ∈ fs then "ring" else ""
def w3 (fs : List Int) : Str := if (2 : Int) ∈ fs then "form" else w2 fs
def w4 (fs : List Int) : Str := if (3 : Int) ∈ fs then "form" else w3 fs
def w5 (fs : List Int) : Str := if (4 : Int) ∈ fs then "form" else w4 fs
def stW (fs : List Int) : Nat → Str
  | 0 => ""
  | 1 => if (5 : Int) ∈ fs then "rule" else ""
  | 2 => w2 fs
  | 3 => w3 fs
  | 4 => w4 fs
  | 5 => w5 fs
  | _ => if (1 : Int) ∈ fs then "table" else w5 fs
theorem stW_end (fs : List Int) : stW fs 6 = firstW fs := by
  show (if (1 : Int) ∈ fs then (("table" : String) : Str) else w5 fs) = firstW fs
  unfold firstW w5 w4 w3 w2
  by_cases h1 : (1 : Int) ∈ fs <;> by_cases h2 : (2 : Int) ∈ fs <;> by_cases h3 : (3 : Int) ∈ fs <;> by_cases h4 : (4 : Int) ∈ fs <;> simp [h1, h2, h3, h4]
theorem w2_ne (fs : List Int) : w2 fs ≠ "table" := by
  unfold w2
  repeat' split
  all_goals decide
theorem w3_ne (fs : List Int) : w3 fs ≠ "table" := by
  unfold w3
  split
  · decide
  · exact w2_ne fs
theorem w4_ne (fs : List Int) : w4 fs ≠ "table" := by
  unfold w4
  split
  · decide
  · exact w3_ne fs
theorem w5_ne (fs : List Int) : w5 fs ≠ "table" := by
  unfold w5
  split
  · decide
  · exact w4_ne fs
section
variable {ts tts ts' tts' : List T} {tc to tc' to' : T} {x : Str}
theorem sizes_one (h : sizesOk ts.length tc to = true) : 1 ≤ ts.length := by
  unfold sizesOk at h
  rw [Bool.and_eq_true, Bool.and_eq_true] at h
  have := h.1.1
  simp only [within, Bool.and_eq_true, decide_eq_true_eq] at this
  omega
theorem Stt.few (h : Stt "" ts tts tc to) : 1 ≤ ts.length := sizes_one (h.siz (by decide) (by decide))
theorem Stt.form (h : tabsOk tts = true) (h2 : sizesOk ts.length tc to = false) : Stt "form" ts tts tc to :=
  ⟨fun _ => h, fun z => absurd z (by decide), fun _ z => absurd rfl z, fun _ => h2, fun z => absurd z (by decide), fun z => absurd z (by decide), fun z => absurd z (by decide), fun z => absurd z (by decide)⟩
theorem Stt.to1 (F : Fault 1 ts tts tc to ts' tts' tc' to') : Stt "table" ts' tts' tc' to' :=
  ⟨fun z => absurd rfl z, fun _ => F.one rfl, fun z => absurd rfl z, fun z => absurd z (by decide), fun z => absurd z (by decide), fun z => absurd z (by decide), fun z => absurd z (by decide), fun z => absurd z (by decide)⟩
theorem Stt.to2 (h : Stt x ts tts tc to) (hx : x ≠ "table") (F : Fault 2 ts tts tc to ts' tts' tc' to') : Stt "form" ts' tts' tc' to' := by
  obtain ⟨rfl, e⟩ := F.two rfl
  refine .form (h.tab hx) ?_
  unfold sizesOk
  rcases e with e | e <;> rw [e] <;> rfl
theorem Stt.to3 (h : Stt x ts tts tc to) (hx : x ≠ "table") (F : Fault 3 ts tts tc to ts' tts' tc' to') : Stt "form" ts' tts' tc' to' := by
  obtain ⟨rfl, e⟩ := F.three rfl
  refine .form (h.tab hx) ?_
  unfold sizesOk
  rw [e, Bool.and_false, Bool.false_and]
theorem Stt.to4 (h : Stt x ts tts tc to) (hx : x ≠ "table") (F : Fault 4 ts tts tc to ts' tts' tc' to') : Stt "form" ts' tts' tc' to' := by
  obtain ⟨rfl, e⟩ := F.four rfl
  refine .form (h.tab hx) ?_
  unfold sizesOk
  rw [e, Bool.and_false]
theorem Stt.to5 (h : Stt "" ts tts tc to) (F : Fault 5 ts tts tc to ts' tts' tc' to') : Stt "rule" ts' tts' tc' to' := by
  obtain ⟨rfl, rfl, rfl, e, t, ht, hb⟩ := F.five rfl
  refine ⟨fun _ => h.tab (by decide), fun z => absurd z (by decide), fun _ _ => by rw [e]; exact h.siz (by decide) (by decide), fun z => absurd z (by decide), fun z => absurd z (by decide), fun _ => ?_, fun z => absurd z (by decide), fun z => absurd z (by decide)⟩
  obtain ⟨_, _, _, ch, ow, rfl, rfl⟩ := h.fine rfl
  show ts'.all (isRule ⟨ts'.length, tts'.length, ch⟩ 8) = false
  rw [List.all_eq_false]
  exact ⟨t, ht, by rw [e, hb]; decide⟩
theorem Stt.to6 (h : Stt "" ts tts tc to) (F : Fault 6 ts tts tc to ts' tts' tc' to') : Stt "ring" ts' tts' tc' to' := by
  obtain ⟨rfl, rfl, rfl, a, o, ha, ho, rfl⟩ := F.six rfl
  have e : ((ts.set a (.tup [.str "add", .tup [.str "number", .int 1], .tup [.str "line", .int o]])).set o (.tup [.str "least", .tup [.str "line", .int a], .tup [.str "number", .int 2]])).length = ts.length := by rw [List.length_set, List.length_set]
  refine ⟨fun _ => h.tab (by decide), fun z => absurd z (by decide), fun _ _ => by rw [e]; exact h.siz (by decide) (by decide), fun z => absurd z (by decide), fun _ => ?_, fun z => absurd z (by decide), fun _ r hb => ?_, fun z => absurd z (by decide)⟩
  · obtain ⟨_, _, _, ch, ow, rfl, rfl⟩ := h.fine rfl
    have hr : ts.all (isRule ⟨ts.length, tts'.length, ch⟩ 8) = true := h.rul (.inl rfl)
    show List.all _ (isRule ⟨((_ : List T).length : Nat), tts'.length, ch⟩ 8) = true
    rw [e, List.all_eq_true]
    intro t ht
    rcases List.mem_or_eq_of_mem_set ht with ht | rfl
    · rcases List.mem_or_eq_of_mem_set ht with ht | rfl
      · exact List.all_eq_true.mp hr t ht
      · exact isRule_mono (RB.two (S := fun _ => True) (by decide) (RB.number (n := 0) (by decide)) (RB.line (place_i (by omega) (by show ((o : Nat) : Int) < (ts.length : Nat); omega)) trivial)).ru (by decide)
    · exact isRule_mono (RB.two (S := fun _ => True) (by decide) (RB.line (n := 0) (place_i (by omega) (by show ((a : Nat) : Int) < (ts.length : Nat); omega)) trivial) (RB.number (by decide))).ru (by decide)
  · exact faulty_ring ha ho e hb
/-- the word of the refusal that is due -/
theorem Stt.refusal (h : Stt x ts tts tc to) : (x = "table" → refusal ts tts tc to = some ("NoTable" : Str)) ∧ (x = "form" → refusal ts tts tc to = some ("NoForm" : Str)) ∧ (x = "rule" → refusal ts tts tc to = some ("NoRule" : Str)) ∧ (x = "" ∨ x = "ring" → refusal ts tts tc to = none) := by
  unfold KF.refusal
  refine ⟨fun z => by rw [if_pos (h.tabF z)], fun z => ?_, fun z => ?_, fun z => ?_⟩
  · subst z
    rw [if_neg (by rw [h.tab (by decide)]; decide), if_pos (h.sizF rfl)]
  · subst z
    rw [if_neg (by rw [h.tab (by decide)]; decide), if_neg (by rw [h.siz (by decide) (by decide)]; decide), if_pos (h.rulF rfl)]
  · have h1 : x ≠ "table" := by rintro rfl; rcases z with z | z <;> exact absurd z (by decide)
    have h2 : x ≠ "form" := by rintro rfl; rcases z with z | z <;> exact absurd z (by decide)
    rw [if_neg (by rw [h.tab h1]; decide), if_neg (by rw [h.siz h1 h2]; decide), if_neg (by rw [h.rul z]; decide)]
end
theorem firstW_cases (fs : List Int) : firstW fs = "table" ∨ firstW fs = "form" ∨ firstW fs = "rule" ∨ firstW fs = "ring" ∨ firstW fs = "" := by
  unfold firstW
  repeat' split
  all_goals simp
theorem firstW_empty {fs : List Int} (hf : ∀ f ∈ fs, 1 ≤ f ∧ f ≤ 6) (h : firstW fs = "") : fs = [] := by
  cases fs with
  | nil => rfl
  | cons f fs =>
    have := hf f List.mem_cons_self
    unfold firstW at h
    have e : f = 1 ∨ f = 2 ∨ f = 3 ∨ f = 4 ∨ f = 5 ∨ f = 6 := by omega
    have : (1 : Int) ∈ f :: fs ∨ (2 : Int) ∈ f :: fs ∨ (3 : Int) ∈ f :: fs ∨ (4 : Int) ∈ f :: fs ∨ (5 : Int) ∈ f :: fs ∨ (6 : Int) ∈ f :: fs := by
      rcases e with rfl | rfl | rfl | rfl | rfl | rfl <;> simp
    split at h
    · exact absurd h (by decide)
    split at h
    · exact absurd h (by decide)
    split at h
    · exact absurd h (by decide)
    split at h
    · exact absurd h (by decide)
    · rename_i a b c d
      rcases this with z | z | z | z | z | z
      · exact absurd z a
      · exact absurd (.inl z) b
      · exact absurd (.inr (.inl z)) b
      · exact absurd (.inr (.inr z)) b
      · exact absurd z c
      · exact absurd z d
/-- a drawn form is fine -/
theorem okT_succ {n : Nat} {sz : Sz} {t : T} (h : isRule sz n t = true) : okT (n + 1) t = true := rule_ok (isRule_mono h (by omega))
theorem okRows (n : Nat) (rows : List (List Qr.Row)) : okL (n + 2) (rows.map fun r => (T.tup (r.map rowT))) = true := okL_all fun t ht => by
  obtain ⟨r, _, rfl⟩ := List.mem_map.mp ht
  show okL (n + 1) (r.map rowT) = true
  refine okL_all fun t ht => ?_
  obtain ⟨z, _, rfl⟩ := List.mem_map.mp ht
  simp [rowT, okT, okL]
end
end KF
open PySem PySem.Spec PyProof.Rows L2 Qa Qr
open Qg Qe


namespace KF
section
variable {P : Program} {w : World} {K : PySem.W.Frag} {mg : Str → Option Value} {base : Heap} {H : Hp} {Q : VK} {E : XK}
theorem fine0 {H : Hp} {la ta : Addr} {vs tvs : List V} {ts : List T} {rows : List (List Qr.Row)} {ch ow : Nat} {ord : List Nat} (F : FormD K H la ta vs tvs ts rows ch ord) (how : ow < ts.length) :
    Stt "" ts (rows.map fun r => (T.tup (r.map rowT))) (.int ch) (.int ow) := by
  have hl : (rows.map fun r => (T.tup (r.map rowT))).length = rows.length := List.length_map ..
  refine ⟨fun _ => ?_, fun z => absurd z (by decide), fun _ _ => ?_, fun z => absurd z (by decide), fun _ => ?_, fun z => absurd z (by decide), fun z => absurd z (by decide), fun _ => ⟨fun r hb => acyc_best (acyc_of (F.perm.nodup_iff.mpr List.nodup_range) F.ahead) hb, okL_all fun t ht => rule_ok (F.rule t ht), okRows 6 rows, ch, ow, rfl, rfl⟩⟩
  · unfold tabsOk
    rw [hl, decide_eq_true F.tfew, Bool.true_and, List.all_eq_true]
    intro t ht
    obtain ⟨r, hr, rfl⟩ := List.mem_map.mp ht
    exact good_table (F.tgood r hr)
  · have := F.few
    have := F.chf
    unfold sizesOk isPlace within
    simp
    omega
  · show ts.all (isRule ⟨ts.length, ((rows.map fun r => (T.tup (r.map rowT))).length : Nat), ch⟩ 8) = true
    rw [hl, List.all_eq_true]
    exact F.rule
def spLaw (K : PySem.W.Frag) : Sp := sp1 fun a H Q => ∃ (l : Addr) (ns : List Int), a = .ref l ∧ SqL K H l (ns.map V.int) ∧ ∀ H', Q (.bl true) H'
theorem k_law (T : Tx K w mg) (c__law_cell_at : Cal P w K mg base "_law_cell_at" 1 p_law_cell_at (spCell K)) (c__law_mixed : Cal P w K mg base "_law_mixed" 1 p_law_mixed (spMixed K)) (c__law_form : Cal P w K mg base "_law_form" 12 p_law_form (spFormD K)) (c__law_faulty : Cal P w K mg base "_law_faulty" 2 p_law_faulty (spFaulty K))
    (c__law_tried : Cal P w K mg base "_law_tried" 23 p_law_tried (spTried K)) (c__law_first : Cal P w K mg base "_law_first" 1 p_law_first (spFirst K)) (c__law_any : Cal P w K mg base "_law_any" 23 p_law_any (spAny K)) (c__law_same_kinds : Cal P w K mg base "_law_same_kinds" 1 p_law_same_kinds (spSame K)) : Cal P w K mg base "law" 24 plaw (spLaw K) := by
  refine cal1 T.F_law sclaw blaw rfl fun g cdv A outer s H a Q E hr h => ?_
  obtain ⟨l, ns, rfl, hl, q⟩ := h
  refine ⟨_, (pss_cons (ps_set (i := 1) (sclaw).nd rfl (by first | exact Or.inl rfl | exact Or.inr rfl) (pe_slice sl_any (pe_cal c__law_form (hr.mono (by omega)) (pa_cons (pv 0) (pa_cons pe_int pa_nil))) po_none (po_some pe_int))) (pss_cons (ps_set (i := 2) (sclaw).nd rfl (by first | exact Or.inl rfl | exact Or.inr rfl) (pe_cal c__law_mixed (hr.mono (by omega)) (pa_cons (pe_cal c__law_cell_at (hr.mono (by omega)) (pa_cons (pv 0) (pa_cons pe_int pa_nil))) (pa_cons pe_int pa_nil)))) (pss_cons (ps_set (i := 3) (sclaw).nd rfl (by first | exact Or.inl rfl | exact Or.inr rfl) (pe_lst (pa_cons (pv 2) pa_nil))) (pss_cons (ps_set (i := 4) (sclaw).nd rfl (by first | exact Or.inl rfl | exact Or.inr rfl) (pe_lst pa_nil)) (Evl.pss_cut (ps_if (pt_cmpR op_gt (pe_op op_mod (pv 2) pe_int) pe_int (nomark _)) (pss_one (ps_set (i := 4) (sclaw).nd rfl (by first | exact Or.inl rfl | exact Or.inr rfl) (pe_lst (pa_cons (pe_op op_addA pe_int (pe_op op_mod (pe_op op_fdiv (pv 2) pe_int) pe_int)) pa_nil)))) pss_nil) (Evl.pss_cut (ps_if (pt_cmpR (op_eqA hr) (pe_op op_mod (pv 2) pe_int) pe_int (nomark _)) (pss_one (ps_set (i := 4) (sclaw).nd rfl (by first | exact Or.inl rfl | exact Or.inr rfl) (pe_callB (cr_sortedA rfl) (by rfl) T.m_sorted (by decide +kernel) (pa_cons (pe_lst (pa_cons (pe_op op_addA pe_int (pe_op op_mod (pe_op op_fdiv (pv 2) pe_int) pe_int)) (pa_cons (pe_op op_addA pe_int (pe_op op_mod (pe_op op_fdiv (pv 2) pe_int) pe_int)) pa_nil))) pa_nil)))) pss_nil) (pss_cons (ps_for PassesOwn.never rfl (pi_seq (pe_lst (pa_cons pe_int (pa_cons pe_int (pa_cons pe_int (pa_cons pe_int (pa_cons pe_int (pa_cons pe_int pa_nil)))))))) (pg_name (i := 5) (sclaw).nd rfl (by first | exact Or.inl rfl | exact Or.inr rfl)) (pss_one (ps_if (PW.pt (pw_and (pt_cmpR op_in_seq (pv 5) (pv 4) (by rfl)) (pw_and1 (pt_not (PW.pt (pw_and (pt_cmpR (op_eqA hr) (pv 5) pe_int (nomark _)) (pw_and1 (pt_cmpR op_in_seq pe_int (pv 4) (by rfl))))))))) (pss_one (ps_set (i := 1) (sclaw).nd rfl (by first | exact Or.inl rfl | exact Or.inr rfl) (pe_cal c__law_faulty (hr.mono (by omega)) (pa_cons (pv 1) (pa_cons (pv 5) (pa_cons (pv 3) pa_nil)))))) pss_nil))) (pss_cons (ps_set (i := 6) (sclaw).nd rfl (by first | exact Or.inl rfl | exact Or.inr rfl) (pe_lst (pa_cons (pe_callTy cr_lstOf (by rfl) T.m_list (by decide +kernel) (pa_cons (pe_ix ix_seq (pv 1) pe_int (fun _ _ => rfl)) pa_nil)) (pa_cons (pe_callTy cr_lstOf (by rfl) T.m_list (by decide +kernel) (pa_cons (pe_ix ix_seq (pv 1) pe_int (fun _ _ => rfl)) pa_nil)) (pa_cons (pe_ix ix_seq (pv 1) pe_int (fun _ _ => rfl)) (pa_cons (pe_ix ix_seq (pv 1) pe_int (fun _ _ => rfl)) pa_nil)))))) (pss_cons (ps_set (i := 7) (sclaw).nd rfl (by first | exact Or.inl rfl | exact Or.inr rfl) (pe_cal c__law_tried (hr.mono (by omega)) (pa_cons (pv 6) pa_nil))) (pss_cons (ps_if (PW.pt (pw_or (pt_cmpR (op_neA hr) (pe_ix ix_seq (pv 6) pe_int (fun _ _ => rfl)) (pe_ix ix_seq (pv 1) pe_int (fun _ _ => rfl)) (nomark _)) (pw_or (pt_cmpR (op_neA hr) (pe_ix ix_seq (pv 6) pe_int (fun _ _ => rfl)) (pe_ix ix_seq (pv 1) pe_int (fun _ _ => rfl)) (nomark _)) (pw_or1 (pt_cmpR (op_neA hr) (pe_ix ix_seq (pv 7) pe_int (fun _ _ => rfl)) (pe_cal c__law_first (hr.mono (by omega)) (pa_cons (pv 4) pa_nil)) (nomark _)))))) (pss_one (ps_ret pe_bl)) pss_nil) (pss_cons (ps_if (pt_cmpR (op_neA hr) (pv 4) (pe_lst pa_nil) (nomark _)) (pss_one (ps_ret (pe_cal c__law_any (hr.mono (by omega)) (pa_cons (pv 6) pa_nil)))) pss_nil) (pss_cons (ps_expr (pe_bm PySem.F.plainAttrs_list PySem.F.slot_list_append PySem.F.type_list_append mt_append (pe_ix ix_seq (pv 6) pe_int (fun _ _ => rfl)) (pa_cons (pe_tup (pa_cons pe_str (pa_cons pe_int pa_nil))) pa_nil))) (pss_cons (ps_expr (pe_bm0 PySem.F.plainAttrs_list PySem.F.slot_list_clear PySem.F.type_list_clear mt_clear (pe_ix ix_seq (pv 6) pe_int (fun _ _ => rfl)))) (pss_one (ps_ret (pe_cal c__law_same_kinds (hr.mono (by omega)) (pa_cons (pe_ix ix_seq (pv 7) pe_int (fun _ _ => rfl)) (pa_cons (pv 1) pa_nil)))))))))))))))))), ?_⟩
  rw [tlaw]
  try dsimp only [cxOf, Cx.nox, Cx.wish]
  walk_at "rd"
  refine rd_sp2 ⟨l, ns, 40, rfl, rfl, by decide, by decide, hl, fun pf la ta wd vs tvs ts rows ch ow ord ws H1 hpf F lM how W hp0 hla0 hta0 hwd0 nlt npl npt _ _ E1 => ?_⟩
  walk_at "rd"
  refine rd_slL (.of hpf) fun p H2 hp2 E2 h2 => ?_
  have h2' : H2 p = some (.lst [.ref la, .ref ta, .int ch, .int ow]) := h2
  clear h2
  walk_at "rd"
  refine rd_sp2 ⟨l, ns, 2, rfl, rfl, sql_ex hl (E1.trans E2), fun r1 => ?_⟩
  walk_at "rd"
  refine rd_sp2 ⟨_, _, rfl, rfl, fun c c0 c1 => ?_⟩
  walk_at "rd"
  refine new_lst fun st H3 hst E3 h3 => ?_
  walk_at "rd"
  refine new_lst fun fl H4 hfl E4 h4 => ?_
  have nfl : fl ≠ st := by rintro rfl; rw [h3] at hfl; cases hfl
  have st4 : ∃ s, H4 st = some (.lst [.int s]) := ⟨_, E4 _ _ h3⟩
  walk_at "rd"
  refine rd_cut (fun σ H' => ∃ (fl : Addr) (fs : List Int), σ = [some (.ref l), some (.ref p), some (.int c), some (.ref st), some (.ref fl), none, none, none] ∧ H' fl = some (.lst (fs.map V.int)) ∧ (∀ f ∈ fs, 1 ≤ f ∧ f ≤ 6) ∧ fl ≠ st ∧ Ex H4 H') ?_ ?_
  · walk_at "rd"
    refine rd_ite (fun z => ?_) (fun z => ?_)
    · walk_at "rd"
      refine new_lst fun fl5 H5 hfl5 E5 h5 => ?_
      walk_at "rd"
      refine ⟨fl5, [1 + c / 4 % 6], rfl, h5, fun f hf => ?_, ne_st st4 hfl5, E5⟩
      rw [List.mem_singleton] at hf
      omega
    · walk_at "rd"
      exact ⟨fl, [], rfl, h4, fun f hf => (by cases hf), nfl, Evl.Ex.refl _⟩
  rintro σ H5 ⟨fl5, fs5, rfl, h5, hfs5, nfl5, E5⟩
  walk_at "rd"
  refine rd_cut (fun σ H' => ∃ (fl : Addr) (fs : List Int), σ = [some (.ref l), some (.ref p), some (.int c), some (.ref st), some (.ref fl), none, none, none] ∧ H' fl = some (.lst (fs.map V.int)) ∧ (∀ f ∈ fs, 1 ≤ f ∧ f ≤ 6) ∧ fl ≠ st ∧ Ex H4 H') ?_ ?_
  · walk_at "rd"
    refine rd_ite (fun z => ?_) (fun z => ?_)
    · walk_at "rd"
      refine new_lst fun p6 H6 hp6 E6 h6 => ?_
      have h6' : SqL K H6 p6 (([.inl (1 + c / 4 % 6), .inl (1 + c / 24 % 6)] : List Key).map kV) := .of h6
      refine rd_sortK h6' (.inl ⟨[1 + c / 4 % 6, 1 + c / 24 % 6], rfl⟩) fun ks' p7 H7 pm so hp7 E7 h7 => ?_
      walk_at "rd"
      obtain ⟨fs, rfl⟩ : ∃ fs : List Int, ks' = fs.map Sum.inl := by
        rcases so with ⟨ns, e, _⟩ | ⟨xs, e, _⟩
        · exact ⟨ns, e⟩
        · exfalso
          have := pm.mem_iff (a := Sum.inl (1 + c / 4 % 6))
          rw [e] at this
          have := this.mpr List.mem_cons_self
          obtain ⟨_, _, z⟩ := List.mem_map.mp this
          cases z
      refine ⟨p7, fs, rfl, by rw [h7, List.map_map]; rfl, fun f hf => ?_, ne_st (sta_ex st4 (E5.trans E6)) hp7, E5.trans (E6.trans E7)⟩
      have := pm.mem_iff.mp (List.mem_map.mpr ⟨f, hf, rfl⟩)
      simp only [List.mem_cons, List.not_mem_nil, or_false] at this
      rcases this with z | z <;> (have := Sum.inl.inj z; omega)
    · walk_at "rd"
      exact ⟨fl5, fs5, rfl, h5, hfs5, nfl5, E5⟩
  clear hfs5 h5 nfl5 E5 h4 hfl nfl
  clear H5 fl5 fs5 fl
  rintro σ H6 ⟨fl, fs, rfl, hfl6, hfs, nfl, E6⟩
  have st6 := sta_ex st4 E6
  have E26 := E3.trans (E4.trans E6)
  have hp6 : SqL K H6 p [.ref la, .ref ta, .int ch, .int ow] := .of (E26 _ _ h2')
  have P6 : Parts K H6 p la ta (.int ch) (.int ow) vs tvs ts (rows.map fun r => (Qa.T.tup (r.map rowT))) (.int ch) (.int ow) := ⟨hp6, .int _, .int _, .of (E26 _ _ (E2 _ _ F.lat)), tva_ex (tva_ex F.ltv E2) E26, .of (E26 _ _ (E2 _ _ F.tat)), tva_ex (tva_ex F.ttv E2) E26⟩
  have S0 := fine0 F how
  have o9 : okL 9 ts = true := okL_all fun t ht => okT_succ (F.rule t ht)
  have oo9 := okRows 7 rows
  have l41 : ts.length ≤ 41 := by have := F.few; omega
  clear F W hp0 hla0 hta0 hwd0 h2' hpf hst h3 hp2
  walk_at "rd"
  refine new_lst fun lo H7 hlo E7 h7 => ?_
  refine .inl (.inl ⟨lo, rfl, ⟨_, .of h7⟩, ?_⟩)
  have st7 := sta_ex st6 E7
  have nlo := ne_st st6 hlo
  refine forW_L [.int 5, .int 6, .int 2, .int 3, .int 4, .int 1] (fun i σ H' => ∃ (p la ta : Addr) (x y : V) (vs tvs : List V) (ts tts : List Qa.T) (tc to : Qa.T), ∃ fo, σ = [some (.ref l), some (.ref p), some (.int c), some (.ref st), some (.ref fl), fo, none, none] ∧ Parts K H' p la ta x y vs tvs ts tts tc to ∧ Stt (stW fs i) ts tts tc to ∧ okL 9 ts = true ∧ okL 9 tts = true ∧ ts.length ≤ 41 ∧ St1 st H7 H') ?_ ?_ ?_ ?_
  · exact ⟨p, la, ta, _, _, vs, tvs, ts, _, _, _, _, rfl, ⟨sql_ex P6.at_ E7, tv_ex P6.c_ E7, tv_ex P6.d_ E7, sql_ex P6.l_ E7, tva_ex P6.lt_ E7, sql_ex P6.t_ E7, tva_ex P6.tt_ E7⟩, S0, o9, oo9, l41, .refl st7⟩
  · rintro i σ H8 hi ⟨p, la, ta, x, y, vs, tvs, ts, tts, tc, to, fo, rfl, _, _, _, _, _, S8⟩
    exact .of (lst_st h7 S8 nlo)
  · rintro i v σ H8 hv ⟨p, la, ta, x, y, vs, tvs, ts, tts, tc, to, fo, rfl, P8, S0, o9, oo9, l41, S8⟩
    have hfl8 : SqL K H8 fl (fs.map V.int) := .of (lst_st (E7 _ _ hfl6) S8 nfl)
    have hi : i < 6 := (List.getElem?_eq_some_iff.mp hv).1
    have go : ∀ f : Int, (1 ≤ f ∧ f ≤ 6) → ((f = 5 ∨ f = 6) → 1 ≤ ts.length) → ∀ R : V → Hp → Prop, (∀ p' la' ta' x' y' vs' tvs' ts' tts' tc' to' H', Parts K H' p' la' ta' x' y' vs' tvs' ts' tts' tc' to' → Fault f ts tts tc to ts' tts' tc' to' → St1 st H8 H' → R (.ref p') H') → spFaulty K [.ref p, .int f, .ref st] H8 R E0 := by
      intro f hf h1 R h
      exact rd_sp3 ⟨p, f, st, la, ta, x, y, vs, tvs, ts, tts, tc, to, rfl, rfl, rfl, P8, hf.1, hf.2, l41, h1, S8.st, fun p' la' ta' x' y' vs' tvs' ts' tts' tc' to' H' a b _ _ _ c => h p' la' ta' x' y' vs' tvs' ts' tts' tc' to' H' a b c⟩
    rcases (by omega : i = 0 ∨ i = 1 ∨ i = 2 ∨ i = 3 ∨ i = 4 ∨ i = 5) with rfl | rfl | rfl | rfl | rfl | rfl
    · cases hv
      walk_at "rd"
      refine rd_inZ hfl8 ?_
      walk_at "rd"
      refine rd_ite (fun z => ?_) (fun z => ?_)
      · walk_at "rd"
        refine go 5 (by decide) (fun _ => S0.few) _ fun p' la' ta' x' y' vs' tvs' ts' tts' tc' to' H' a b c => ?_
        walk_at "rd"
        refine ⟨p', la', ta', x', y', vs', tvs', ts', tts', tc', to', _, rfl, a, ?_, b.okt o9, b.oktt oo9, b.few l41, S8.trans c⟩
        show Stt (if (5 : Int) ∈ fs then (("rule" : String) : Str) else (("" : String) : Str)) _ _ _ _
        rw [if_pos z]
        exact S0.to5 b
      · walk_at "rd"
        refine ⟨p, la, ta, x, y, vs, tvs, ts, tts, tc, to, _, rfl, P8, ?_, o9, oo9, l41, S8⟩
        show Stt (if (5 : Int) ∈ fs then (("rule" : String) : Str) else (("" : String) : Str)) _ _ _ _
        rw [if_neg z]
        exact S0
    · cases hv
      have e1 : stW fs 1 = (if (5 : Int) ∈ fs then (("rule" : String) : Str) else (("" : String) : Str)) := rfl
      have e2 : stW fs (1 + 1) = (if (5 : Int) ∈ fs then (("rule" : String) : Str) else if (6 : Int) ∈ fs then (("ring" : String) : Str) else (("" : String) : Str)) := rfl
      rw [e1] at S0
      walk_at "rd"
      refine rd_inZ hfl8 ?_
      walk_at "rd"
      have stay : ((5 : Int) ∈ fs ∨ (6 : Int) ∉ fs) → Stt (stW fs (1 + 1)) ts tts tc to := fun h => by
        rw [e2]
        rcases h with h | h
        · rw [if_pos h]; rw [if_pos h] at S0; exact S0
        · by_cases h5 : (5 : Int) ∈ fs
          · rw [if_pos h5]; rw [if_pos h5] at S0; exact S0
          · rw [if_neg h5, if_neg h]; rw [if_neg h5] at S0; exact S0
      refine rd_ite (fun z => ?_) (fun z => ?_)
      · walk_at "rd"
        refine rd_inZ hfl8 ?_
        walk_at "rd"
        refine rd_iteN (fun z5 => ?_) (fun z5 => ?_)
        · walk_at "rd"
          rw [if_neg z5] at S0
          refine go 6 (by decide) (fun _ => S0.few) _ fun p' la' ta' x' y' vs' tvs' ts' tts' tc' to' H' a b c => ?_
          walk_at "rd"
          refine ⟨p', la', ta', x', y', vs', tvs', ts', tts', tc', to', _, rfl, a, ?_, b.okt o9, b.oktt oo9, b.few l41, S8.trans c⟩
          rw [e2, if_neg z5, if_pos z]
          exact S0.to6 b
        · walk_at "rd"
          exact ⟨p, la, ta, x, y, vs, tvs, ts, tts, tc, to, _, rfl, P8, stay (.inl z5), o9, oo9, l41, S8⟩
      · walk_at "rd"
        exact ⟨p, la, ta, x, y, vs, tvs, ts, tts, tc, to, _, rfl, P8, stay (.inr z), o9, oo9, l41, S8⟩
    · cases hv
      walk_at "rd"
      refine rd_inZ hfl8 ?_
      walk_at "rd"
      refine rd_ite (fun z => ?_) (fun z => ?_)
      · walk_at "rd"
        refine go 2 (by decide) (fun z => by omega) _ fun p' la' ta' x' y' vs' tvs' ts' tts' tc' to' H' a b c => ?_
        walk_at "rd"
        refine ⟨p', la', ta', x', y', vs', tvs', ts', tts', tc', to', _, rfl, a, ?_, b.okt o9, b.oktt oo9, b.few l41, S8.trans c⟩
        show Stt (if (2 : Int) ∈ fs then (("form" : String) : Str) else w2 fs) _ _ _ _
        rw [if_pos z]
        exact S0.to2 (w2_ne fs) b
      · walk_at "rd"
        refine ⟨p, la, ta, x, y, vs, tvs, ts, tts, tc, to, _, rfl, P8, ?_, o9, oo9, l41, S8⟩
        show Stt (if (2 : Int) ∈ fs then (("form" : String) : Str) else w2 fs) _ _ _ _
        rw [if_neg z]
        exact S0
    · cases hv
      walk_at "rd"
      refine rd_inZ hfl8 ?_
      walk_at "rd"
      refine rd_ite (fun z => ?_) (fun z => ?_)
      · walk_at "rd"
        refine go 3 (by decide) (fun z => by omega) _ fun p' la' ta' x' y' vs' tvs' ts' tts' tc' to' H' a b c => ?_
        walk_at "rd"
        refine ⟨p', la', ta', x', y', vs', tvs', ts', tts', tc', to', _, rfl, a, ?_, b.okt o9, b.oktt oo9, b.few l41, S8.trans c⟩
        show Stt (if (3 : Int) ∈ fs then (("form" : String) : Str) else w3 fs) _ _ _ _
        rw [if_pos z]
        exact S0.to3 (w3_ne fs) b
      · walk_at "rd"
        refine ⟨p, la, ta, x, y, vs, tvs, ts, tts, tc, to, _, rfl, P8, ?_, o9, oo9, l41, S8⟩
        show Stt (if (3 : Int) ∈ fs then (("form" : String) : Str) else w3 fs) _ _ _ _
        rw [if_neg z]
        exact S0
    · cases hv
      walk_at "rd"
      refine rd_inZ hfl8 ?_
      walk_at "rd"
      refine rd_ite (fun z => ?_) (fun z => ?_)
      · walk_at "rd"
        refine go 4 (by decide) (fun z => by omega) _ fun p' la' ta' x' y' vs' tvs' ts' tts' tc' to' H' a b c => ?_
        walk_at "rd"
        refine ⟨p', la', ta', x', y', vs', tvs', ts', tts', tc', to', _, rfl, a, ?_, b.okt o9, b.oktt oo9, b.few l41, S8.trans c⟩
        show Stt (if (4 : Int) ∈ fs then (("form" : String) : Str) else w4 fs) _ _ _ _
        rw [if_pos z]
        exact S0.to4 (w4_ne fs) b
      · walk_at "rd"
        refine ⟨p, la, ta, x, y, vs, tvs, ts, tts, tc, to, _, rfl, P8, ?_, o9, oo9, l41, S8⟩
        show Stt (if (4 : Int) ∈ fs then (("form" : String) : Str) else w4 fs) _ _ _ _
        rw [if_neg z]
        exact S0
    · cases hv
      walk_at "rd"
      refine rd_inZ hfl8 ?_
      walk_at "rd"
      refine rd_ite (fun z => ?_) (fun z => ?_)
      · walk_at "rd"
        refine go 1 (by decide) (fun z => by omega) _ fun p' la' ta' x' y' vs' tvs' ts' tts' tc' to' H' a b c => ?_
        walk_at "rd"
        refine ⟨p', la', ta', x', y', vs', tvs', ts', tts', tc', to', _, rfl, a, ?_, b.okt o9, b.oktt oo9, b.few l41, S8.trans c⟩
        show Stt (if (1 : Int) ∈ fs then (("table" : String) : Str) else w5 fs) _ _ _ _
        rw [if_pos z]
        exact Stt.to1 b
      · walk_at "rd"
        refine ⟨p, la, ta, x, y, vs, tvs, ts, tts, tc, to, _, rfl, P8, ?_, o9, oo9, l41, S8⟩
        show Stt (if (1 : Int) ∈ fs then (("table" : String) : Str) else w5 fs) _ _ _ _
        rw [if_neg z]
        exact S0
  · rintro σ H8 ⟨p, la, ta, x, y, vs, tvs, ts, tts, tc, to, fo, rfl, P8, S0, o9, oo9, l41, S8⟩
    have hfl8 : H8 fl = some (.lst (fs.map V.int)) := lst_st (E7 _ _ hfl6) S8 nfl
    replace S0 : Stt (firstW fs) ts tts tc to := by rw [← stW_end]; exact S0
    clear S8 st7 h7 hlo P6 hp6 st6 st4
    walk_at "rd"
    refine rd_ixL P8.at_ (atI_nat (j := 0) rfl) ?_
    walk_at "rd"
    refine rd_lstOfL P8.l_ fun lh H9 hlh E9 h9 => ?_
    walk_at "rd"
    refine rd_ixL (sql_ex P8.at_ E9) (atI_nat (j := 1) rfl) ?_
    walk_at "rd"
    refine rd_lstOfL (sql_ex P8.t_ E9) fun th H10 hth E10 h10 => ?_
    have e10 := E9.trans E10
    walk_at "rd"
    refine rd_ixL (sql_ex P8.at_ e10) (atI_nat (j := 2) rfl) ?_
    walk_at "rd"
    refine rd_ixL (sql_ex P8.at_ e10) (atI_nat (j := 3) rfl) ?_
    walk_at "rd"
    refine new_lst fun ph H11 hph E11 h11 => ?_
    have e11 := e10.trans E11
    have P11 : Parts K H11 ph lh th x y vs tvs ts tts tc to := ⟨.of h11, tv_ex P8.c_ e11, tv_ex P8.d_ e11, .of ((E10.trans E11) _ _ h9), tva_ex P8.lt_ e11, .of (E11 _ _ h10), tva_ex P8.tt_ e11⟩
    have nlt : th ≠ lh := by rintro rfl; rw [h9] at hth; cases hth
    have nph1 : ph ≠ lh := by rintro rfl; rw [E10 _ _ h9] at hph; cases hph
    have nph2 : ph ≠ th := by rintro rfl; rw [h10] at hph; cases hph
    have key : ∀ R : VK, (∀ (f : Addr) (vv : V) (H12 : Hp), Ex H11 H12 → H11 f = none → H12 f = some (.lst [.str (firstW fs), vv]) → (firstW fs = "" → ∃ (q : Addr) (ch ow : Nat), vv = .ref q ∧ FormAt K H12 q ts tts ch ow ∧ tc = .int ch ∧ to = .int ow) → R (.ref f) H12) → spTried K [.ref ph] H11 R E0 := by
      intro R rest
      obtain ⟨k1, k2, k3, k4⟩ := S0.refusal
      refine rd_sp1 ⟨ph, lh, th, x, y, vs, tvs, ts, tts, tc, to, rfl, P11, fun xw hx f H12 e hf h => ?_, fun hn r hb => ⟨fun hr0 f H12 e hf h => ?_, fun hr0 ch ow hc ho qf f H12 FA e hq hf h => ?_⟩⟩
      · have ew : wordOf xw = firstW fs ∧ firstW fs ≠ "" := by
          rcases firstW_cases fs with z | z | z | z | z
          · rw [k1 z] at hx; cases hx; rw [z]; decide
          · rw [k2 z] at hx; cases hx; rw [z]; decide
          · rw [k3 z] at hx; cases hx; rw [z]; decide
          · rw [k4 (.inr z)] at hx; cases hx
          · rw [k4 (.inl z)] at hx; cases hx
        rw [ew.1] at h
        exact rest f _ H12 e hf h fun z => absurd z ew.2
      · have ew : firstW fs = "ring" := by
          rcases firstW_cases fs with z | z | z | z | z
          · rw [k1 z] at hn; cases hn
          · rw [k2 z] at hn; cases hn
          · rw [k3 z] at hn; cases hn
          · exact z
          · exact absurd ((S0.fine z).1 r hb) hr0
        rw [← ew] at h
        exact rest f _ H12 e hf h fun z => by rw [ew] at z; exact absurd z (by decide)
      · have ew : firstW fs = "" := by
          rcases firstW_cases fs with z | z | z | z | z
          · rw [k1 z] at hn; cases hn
          · rw [k2 z] at hn; cases hn
          · rw [k3 z] at hn; cases hn
          · exact absurd hr0 (S0.rng z r hb)
          · exact z
        rw [← ew] at h
        exact rest f _ H12 e hf h fun _ => ⟨qf, ch, ow, rfl, FA, hc, ho⟩
    walk_at "rd"
    refine key _ fun f vv H12 E12 hf11 h12 hfine => ?_
    have P12 : Parts K H12 ph lh th x y vs tvs ts tts tc to := ⟨sql_ex P11.at_ E12, tv_ex P11.c_ E12, tv_ex P11.d_ E12, sql_ex P11.l_ E12, tva_ex P11.lt_ E12, sql_ex P11.t_ E12, tva_ex P11.tt_ E12⟩
    have e12 := e11.trans E12
    walk_at "rd"
    refine rd_ixL P12.at_ (atI_nat (j := 0) rfl) ?_
    walk_at "rd"
    refine rd_ixL (sql_ex P8.at_ e12) (atI_nat (j := 0) rfl) ?_
    refine rd_neLsts o9 (by decide) P12.l_ P12.lt_ (sql_ex P8.l_ e12) (tva_ex P8.lt_ e12) ?_
    walk_at "rd"
    refine rd_ixL P12.at_ (atI_nat (j := 1) rfl) ?_
    walk_at "rd"
    refine rd_ixL (sql_ex P8.at_ e12) (atI_nat (j := 1) rfl) ?_
    refine rd_neLsts oo9 (by decide) P12.t_ P12.tt_ (sql_ex P8.t_ e12) (tva_ex P8.tt_ e12) ?_
    walk_at "rd"
    refine rd_ixL (.of h12) (atI_nat (j := 0) rfl) ?_
    walk_at "rd"
    refine rd_sp1 ⟨fl, fs, rfl, .of (e12 _ _ hfl8), fun H13 E13 => ?_⟩
    walk_at "rd"
    refine rd_iteN (fun z => absurd rfl z) (fun _ => ?_)
    walk_at "rd"
    refine new_lst fun em H14 hem E14 h14 => ?_
    have e1214 := E13.trans E14
    have okI : ∀ k ∈ fs.map (Sum.inl : Int → Key), okK k = true := fun k hk => by
      obtain ⟨_, _, rfl⟩ := List.mem_map.mp hk
      rfl
    have em_ : (fs.map (Sum.inl : Int → Key)).map kV = fs.map V.int := by rw [List.map_map]; rfl
    refine rd_neNil (ns := fs.map Sum.inl) okI (by rw [em_]; exact .of ((e12.trans e1214) _ _ hfl8)) (.of h14) ?_
    walk_at "rd"
    by_cases hfs0 : fs = []
    · subst hfs0
      obtain ⟨qf, ch, ow, rfl, FA, rfl, rfl⟩ := hfine rfl
      obtain ⟨_, ok8, ook8, _⟩ := S0.fine rfl
      walk_at "rd"
      refine rd_ixL (sql_ex P12.at_ e1214) (atI_nat (j := 0) rfl) ?_
      have hlh14 : H14 lh = some (.lst vs) := ((E10.trans E11).trans (E12.trans e1214)) _ _ h9
      refine rd_tyL (.of hlh14) ?_
      walk_at "rd"
      refine new_tup fun tn H15 htn E15 h15 => ?_
      have lv : vs.length = ts.length := P8.lt_.len
      have hlh15 := E15 _ _ hlh14
      walk_at "rd"
      refine rd_append hlh15 (by omega) ?_
      generalize eH : upd H15 lh _ = H16
      have tm : Tame H15 H16 := by rw [← eH]; exact Tame.upd hlh15
      have k16 : ∀ b, b ≠ lh → H16 b = H15 b := fun b hb => by rw [← eH, upd_ne hb]
      clear eH
      have e815 := (e12.trans e1214).trans E15
      have hth16 : H16 th = some (.lst tvs) := by rw [k16 th nlt]; exact (((E11.trans E12).trans e1214).trans E15) _ _ h10
      have hph16 : H16 ph = some (.lst [.ref lh, .ref th, .int ch, .int ow]) := by
        rw [k16 ph nph1]
        have := ((E12.trans e1214).trans E15) _ _ h11
        cases P8.c_
        cases P8.d_
        exact this
      walk_at "rd"
      refine rd_bm0 ?_
      walk_at "rd"
      refine rd_ixL (.of hph16) (atI_nat (j := 1) rfl) ?_
      refine rd_tyL (.of hth16) ?_
      refine rd_clear hth16 ?_
      generalize eH : upd H16 th _ = H17
      have tm2 : Tame H16 H17 := by rw [← eH]; exact Tame.upd hth16
      have k17 : ∀ b, b ≠ th → H17 b = H16 b := fun b hb => by rw [← eH, upd_ne hb]
      clear eH
      have stays : ∀ (a : Addr) (zs : List V), SqL K H8 a zs → SqL K H17 a zs := by
        intro a zs h
        have nn : ∀ o, H8 a = some o → a ≠ lh ∧ a ≠ th := fun o ho => ⟨(by rintro rfl; rw [hlh] at ho; cases ho), (by rintro rfl; rw [E9 _ _ ho] at hth; cases hth)⟩
        rcases h with (h | ⟨o, h⟩) | h
        · obtain ⟨n1, n2⟩ := nn _ h
          exact .inl (.inl (by rw [k17 a n2, k16 a n1]; exact e815 _ _ h))
        · obtain ⟨n1, n2⟩ := nn _ h
          exact .inl (.inr ⟨o, by rw [k17 a n2, k16 a n1]; exact e815 _ _ h⟩)
        · exact .inr h
      have tmm : Tame H8 H17 := ((Tame.ex e815).trans tm).trans tm2
      have nf1 : f ≠ lh := by rintro rfl; rw [(E10.trans E11) _ _ h9] at hf11; cases hf11
      have nf2 : f ≠ th := by rintro rfl; rw [E11 _ _ h10] at hf11; cases hf11
      have h17 : H17 f = some (.lst [.str (firstW []), .ref qf]) := by rw [k17 f nf2, k16 f nf1]; exact (e1214.trans E15) _ _ h12
      walk_at "rd"
      refine rd_ixL (.of h17) (atI_nat (j := 1) rfl) ?_
      have tm3 : Tame H12 H17 := ((Tame.ex (e1214.trans E15)).trans tm).trans tm2
      obtain ⟨lt, tt, vs2, tvs2, f1, f2, f3, f4, f5⟩ := FA.at_
      cases P8.c_
      cases P8.d_
      walk_at "rd"
      refine rd_sp2 ⟨qf, p, la, ta, vs, tvs, ts, tts, ch, ow, rfl, rfl, ⟨lt, tt, vs2, tvs2, tm3.sqT f1, tm3.sqT f2, tm3.tvA f3, tm3.sqT f4, tm3.tvA f5⟩, ⟨stays _ _ P8.at_, .int _, .int _, stays _ _ P8.l_, tmm.tvA P8.lt_, stays _ _ P8.t_, tmm.tvA P8.tt_⟩, ok8, ook8, fun H18 _ => q H18⟩
    · have hne : (fs.map (Sum.inl : Int → Key)).isEmpty = false := by cases fs with
        | nil => exact absurd rfl hfs0
        | cons _ _ => rfl
      rw [hne]
      walk_at "rd"
      refine rd_sp1 ⟨ph, lh, th, x, y, vs, tvs, ts, tts, tc, to, rfl, ⟨sql_ex P12.at_ e1214, tv_ex P12.c_ e1214, tv_ex P12.d_ e1214, sql_ex P12.l_ e1214, tva_ex P12.lt_ e1214, sql_ex P12.t_ e1214, tva_ex P12.tt_ e1214⟩, fun hn r hb => ?_, fun H18 _ => q H18⟩
      obtain ⟨k1, k2, k3, k4⟩ := S0.refusal
      rcases firstW_cases fs with z | z | z | z | z
      · rw [k1 z] at hn; cases hn
      · rw [k2 z] at hn; cases hn
      · rw [k3 z] at hn; cases hn
      · exact S0.rng z r hb
      · exact absurd (firstW_empty hfs z) hfs0
theorem all (T : Tx K w mg) : Cal P w K mg base "law" 30 plaw (spLaw K) := by
  have a1 := k_is_whole (P := P) (base := base) T
  have a2 := k_is_within T a1
  have a3 := k_is_number T a2
  have a4 := k_is_percent T a2
  have a5 := k_is_place T a1 a2
  have a6 := k_is_word (P := P) (base := base) T
  have a7 := k__has_form (P := P) (base := base) T
  have a8 := k_is_rule T (k_rwn T a7 a3 a4 a6 a5 8)
  have a9 := k_named T (k_behn (P := P) (base := base) T 8)
  have t1 := k_is_table T (k__is_row T a3 a4) (k__starts_rise T)
  have r1 := k_ring_of T (k__lines_named T a9 a5) (k__ring_from T)
  have f1 := kx_form_of T (kx_need_tables T t1) (kx_need_sizes T a2 a5) (kx_need_rules T a8) r1
  have b1 := k__law_next (P := P) (base := base) T
  have b2 := k__law_number T b1
  have b3 := k__law_plain T b1 b2
  have b4 := k_lrulen T b1 b3 7
  have b5 := k__law_form T (k__law_mixed T) (k__law_cell_at T) b1 (k__law_sizes T) (k__law_words T b1) (k__law_order T b1) b4 (k__law_table T b1 b2)
  exact (k_law T (k__law_cell_at T) (k__law_mixed T) b5 (k__law_faulty T b1) (k__law_tried T f1) (k__law_first T) (k__law_any T f1 (k__law_alone T)) (k__law_same_kinds T)).mono (by omega)
end
end KF
open PySem PySem.Spec PyProof.Rows L2 Qa Qr


namespace KF

theorem tx_mk {K : PySem.W.Frag} {w : World} {mg : Str → Option Value} {h : Heap} (X : K.In h) (G : h.Ns mainGlobals mg) {f0 f1 f2 f3 f4 f5 f6 f7 f8 f9 f10 f11 f12 f13 f14 f15 f16 f17 f18 f19 f20 f21 f22 f23 f24 f25 f26 f27 f28 f29 f30 f31 f32 f33 f34 f35 f36 f37 f38 f39 : Addr} {od0 an0 od1 an1 od2 an2 od3 an3 od4 an4 od5 an5 od6 an6 od7 an7 od8 an8 od9 an9 od10 an10 od11 an11 od12 an12 od13 an13 od14 an14 od15 an15 od16 an16 od17 an17 od18 an18 od19 an19 od20 an20 od21 an21 od22 an22 od23 an23 od24 an24 od25 an25 od26 an26 od27 an27 od28 an28 od29 an29 od30 an30 od31 an31 od32 an32 od33 an33 od34 an34 od35 an35 od36 an36 od37 an37 od38 an38 od39 an39 : Option Addr} {sl0 sl1 sl2 sl3 sl4 sl5 sl6 sl7 sl8 sl9 sl10 sl11 sl12 sl13 sl14 sl15 sl16 sl17 sl18 sl19 sl20 sl21 sl22 sl23 sl24 sl25 sl26 sl27 sl28 sl29 sl30 sl31 sl32 sl33 sl34 sl35 sl36 sl37 sl38 sl39 : Array (Option Value)} {oc0 kV0 dc0 pm0 cd0 ct0 oc1 kV1 dc1 pm1 cd1 ct1 oc2 kV2 dc2 pm2 cd2 ct2 oc3 kV3 dc3 pm3 cd3 ct3 oc4 kV4 dc4 pm4 cd4 ct4 oc5 kV5 dc5 pm5 cd5 ct5 oc6 kV6 dc6 pm6 cd6 ct6 oc7 kV7 dc7 pm7 cd7 ct7 oc8 kV8 dc8 pm8 cd8 ct8 oc9 kV9 dc9 pm9 cd9 ct9 oc10 kV10 dc10 pm10 cd10 ct10 oc11 kV11 dc11 pm11 cd11 ct11 oc12 kV12 dc12 pm12 cd12 ct12 oc13 kV13 dc13 pm13 cd13 ct13 oc14 kV14 dc14 pm14 cd14 ct14 oc15 kV15 dc15 pm15 cd15 ct15 oc16 kV16 dc16 pm16 cd16 ct16 oc17 kV17 dc17 pm17 cd17 ct17 oc18 kV18 dc18 pm18 cd18 ct18 oc19 kV19 dc19 pm19 cd19 ct19 oc20 kV20 dc20 pm20 cd20 ct20 oc21 kV21 dc21 pm21 cd21 ct21 oc22 kV22 dc22 pm22 cd22 ct22 oc23 kV23 dc23 pm23 cd23 ct23 oc24 kV24 dc24 pm24 cd24 ct24 oc25 kV25 dc25 pm25 cd25 ct25 oc26 kV26 dc26 pm26 cd26 ct26 oc27 kV27 dc27 pm27 cd27 ct27 oc28 kV28 dc28 pm28 cd28 ct28 oc29 kV29 dc29 pm29 cd29 ct29 oc30 kV30 dc30 pm30 cd30 ct30 oc31 kV31 dc31 pm31 cd31 ct31 oc32 kV32 dc32 pm32 cd32 ct32 oc33 kV33 dc33 pm33 cd33 ct33 oc34 kV34 dc34 pm34 cd34 ct34 oc35 kV35 dc35 pm35 cd35 ct35 oc36 kV36 dc36 pm36 cd36 ct36 oc37 kV37 dc37 pm37 cd37 ct37 oc38 kV38 dc38 pm38 cd38 ct38 oc39 kV39 dc39 pm39 cd39 ct39 : Value} {t0 t1 t2 t3 t4 t5 t6 t7 t8 t9 : Tok} {e0 : Addr} {es0 : Array DictEntry} {n0 : Nat} {ec0 ec1 ec2 ec3 ec4 ec5 ec6 ec7 ec8 ec9 : Addr}
    (z0 : PySem.W.nsIn K mainGlobals "ValueError" = some none)
    (z1 : PySem.W.nsIn K mainGlobals "sorted" = some none)
    (z2 : PySem.W.nsIn K mainGlobals "zip" = some none)
    (z3 : PySem.W.nsIn K mainGlobals "range" = some none)
    (z4 : PySem.W.nsIn K mainGlobals "tuple" = some none)
    (z5 : PySem.W.nsIn K mainGlobals "list" = some none)
    (z6 : PySem.W.nsIn K mainGlobals "isinstance" = some none)
    (z7 : PySem.W.nsIn K mainGlobals "int" = some none)
    (z8 : PySem.W.nsIn K mainGlobals "set" = some none)
    (z9 : PySem.W.nsIn K mainGlobals "len" = some none)
    (z10 : PySem.W.nsIn K mainGlobals "min" = some none)
    (z11 : PySem.W.nsIn K mainGlobals "max" = some none)
    (z12 : PySem.W.nsIn K mainGlobals "bool" = some none)
    (z13 : PySem.W.nsIn K mainGlobals "str" = some none)
    (w0 : PySem.W.nsIn K mainGlobals "FARTHEST" = some (some (.int 1000000000 t0)))
    (w1 : PySem.W.nsIn K mainGlobals "FULL_PERCENT" = some (some (.int 100 t1)))
    (w2 : PySem.W.nsIn K mainGlobals "DEEPEST" = some (some (.int 8 t2)))
    (w3 : PySem.W.nsIn K mainGlobals "LONGEST_WORD" = some (some (.int 8 t3)))
    (w4 : PySem.W.nsIn K mainGlobals "LETTERS" = some (some (.str "abcdefghijklmnopqrstuvwxyz" t4)))
    (w5 : PySem.W.nsIn K mainGlobals "MOST_ROWS" = some (some (.int 20 t5)))
    (w6 : PySem.W.nsIn K mainGlobals "ROW_PARTS" = some (some (.int 3 t6)))
    (w7 : PySem.W.nsIn K mainGlobals "MOST_LINES" = some (some (.int 40 t7)))
    (w8 : PySem.W.nsIn K mainGlobals "MOST_TABLES" = some (some (.int 5 t8)))
    (w9 : PySem.W.nsIn K mainGlobals "MOST_CHOICES" = some (some (.int 8 t9)))
    (da0 : PySem.W.nsIn K mainGlobals "PARTS" = some (some (.ref e0))) (dl0 : K.lookup e0 = some ⟨.type "dict", none, .dict es0 n0, #[]⟩) (dm0 : (e0 == sysModules) = false) (dp0 : Paired (EntIs K w) es0.toList tPARTS)
    (ea0 : PySem.W.nsIn K mainGlobals "FormError" = some (some (.ref ec0))) (ex0 : PySem.W.excIn K ec0 [.type "ValueError", .type "Exception", .type "BaseException", .type "object"] "ValueError.__new__" = true) (ek0 : PySem.W.keepIn K (.ref ec0) = true) (eb0 : PySem.W.subIn K (.ref ec0) (.type "BaseException") = some true) (et0 : PySem.W.typeIn K (.ref ec0) = some (.type "type")) (ed0 : PySem.W.hasDictIn K ec0 = true)
    (ea1 : PySem.W.nsIn K mainGlobals "NoTable" = some (some (.ref ec1))) (ex1 : PySem.W.excIn K ec1 [.type "ValueError", .type "Exception", .type "BaseException", .type "object"] "ValueError.__new__" = true) (ek1 : PySem.W.keepIn K (.ref ec1) = true) (eb1 : PySem.W.subIn K (.ref ec1) (.type "BaseException") = some true) (et1 : PySem.W.typeIn K (.ref ec1) = some (.type "type")) (ed1 : PySem.W.hasDictIn K ec1 = true)
    (ea2 : PySem.W.nsIn K mainGlobals "NoForm" = some (some (.ref ec2))) (ex2 : PySem.W.excIn K ec2 [.type "ValueError", .type "Exception", .type "BaseException", .type "object"] "ValueError.__new__" = true) (ek2 : PySem.W.keepIn K (.ref ec2) = true) (eb2 : PySem.W.subIn K (.ref ec2) (.type "BaseException") = some true) (et2 : PySem.W.typeIn K (.ref ec2) = some (.type "type")) (ed2 : PySem.W.hasDictIn K ec2 = true)
    (ea3 : PySem.W.nsIn K mainGlobals "NoRule" = some (some (.ref ec3))) (ex3 : PySem.W.excIn K ec3 [.type "ValueError", .type "Exception", .type "BaseException", .type "object"] "ValueError.__new__" = true) (ek3 : PySem.W.keepIn K (.ref ec3) = true) (eb3 : PySem.W.subIn K (.ref ec3) (.type "BaseException") = some true) (et3 : PySem.W.typeIn K (.ref ec3) = some (.type "type")) (ed3 : PySem.W.hasDictIn K ec3 = true)
    (ea4 : PySem.W.nsIn K mainGlobals "Ring" = some (some (.ref ec4))) (ex4 : PySem.W.excIn K ec4 [.type "ValueError", .type "Exception", .type "BaseException", .type "object"] "ValueError.__new__" = true) (ek4 : PySem.W.keepIn K (.ref ec4) = true) (eb4 : PySem.W.subIn K (.ref ec4) (.type "BaseException") = some true) (et4 : PySem.W.typeIn K (.ref ec4) = some (.type "type")) (ed4 : PySem.W.hasDictIn K ec4 = true)
    (ea5 : PySem.W.nsIn K mainGlobals "NoPaper" = some (some (.ref ec5))) (ex5 : PySem.W.excIn K ec5 [.type "ValueError", .type "Exception", .type "BaseException", .type "object"] "ValueError.__new__" = true) (ek5 : PySem.W.keepIn K (.ref ec5) = true) (eb5 : PySem.W.subIn K (.ref ec5) (.type "BaseException") = some true) (et5 : PySem.W.typeIn K (.ref ec5) = some (.type "type")) (ed5 : PySem.W.hasDictIn K ec5 = true)
    (ea6 : PySem.W.nsIn K mainGlobals "NoYear" = some (some (.ref ec6))) (ex6 : PySem.W.excIn K ec6 [.type "ValueError", .type "Exception", .type "BaseException", .type "object"] "ValueError.__new__" = true) (ek6 : PySem.W.keepIn K (.ref ec6) = true) (eb6 : PySem.W.subIn K (.ref ec6) (.type "BaseException") = some true) (et6 : PySem.W.typeIn K (.ref ec6) = some (.type "type")) (ed6 : PySem.W.hasDictIn K ec6 = true)
    (ea7 : PySem.W.nsIn K mainGlobals "NoLine" = some (some (.ref ec7))) (ex7 : PySem.W.excIn K ec7 [.type "ValueError", .type "Exception", .type "BaseException", .type "object"] "ValueError.__new__" = true) (ek7 : PySem.W.keepIn K (.ref ec7) = true) (eb7 : PySem.W.subIn K (.ref ec7) (.type "BaseException") = some true) (et7 : PySem.W.typeIn K (.ref ec7) = some (.type "type")) (ed7 : PySem.W.hasDictIn K ec7 = true)
    (ea8 : PySem.W.nsIn K mainGlobals "NoChoice" = some (some (.ref ec8))) (ex8 : PySem.W.excIn K ec8 [.type "ValueError", .type "Exception", .type "BaseException", .type "object"] "ValueError.__new__" = true) (ek8 : PySem.W.keepIn K (.ref ec8) = true) (eb8 : PySem.W.subIn K (.ref ec8) (.type "BaseException") = some true) (et8 : PySem.W.typeIn K (.ref ec8) = some (.type "type")) (ed8 : PySem.W.hasDictIn K ec8 = true)
    (ea9 : PySem.W.nsIn K mainGlobals "TooMany" = some (some (.ref ec9))) (ex9 : PySem.W.excIn K ec9 [.type "ValueError", .type "Exception", .type "BaseException", .type "object"] "ValueError.__new__" = true) (ek9 : PySem.W.keepIn K (.ref ec9) = true) (eb9 : PySem.W.subIn K (.ref ec9) (.type "BaseException") = some true) (et9 : PySem.W.typeIn K (.ref ec9) = some (.type "type")) (ed9 : PySem.W.hasDictIn K ec9 = true)
    (eq0 : PySem.W.subIn K (.ref ec4) (.ref ec1) = some false)
    (eq1 : PySem.W.subIn K (.ref ec4) (.ref ec2) = some false)
    (eq2 : PySem.W.subIn K (.ref ec4) (.ref ec3) = some false)
    (eq3 : PySem.W.subIn K (.ref ec4) (.ref ec4) = some true)
    (eq4 : PySem.W.subIn K (.ref ec4) (.ref ec0) = some true)
    (eq5 : PySem.W.subIn K (.ref ec1) (.ref ec1) = some true)
    (eq6 : PySem.W.subIn K (.ref ec1) (.ref ec2) = some false)
    (eq7 : PySem.W.subIn K (.ref ec1) (.ref ec3) = some false)
    (eq8 : PySem.W.subIn K (.ref ec1) (.ref ec4) = some false)
    (eq9 : PySem.W.subIn K (.ref ec1) (.ref ec0) = some true)
    (eq10 : PySem.W.subIn K (.ref ec2) (.ref ec1) = some false)
    (eq11 : PySem.W.subIn K (.ref ec2) (.ref ec2) = some true)
    (eq12 : PySem.W.subIn K (.ref ec2) (.ref ec3) = some false)
    (eq13 : PySem.W.subIn K (.ref ec2) (.ref ec4) = some false)
    (eq14 : PySem.W.subIn K (.ref ec2) (.ref ec0) = some true)
    (eq15 : PySem.W.subIn K (.ref ec3) (.ref ec1) = some false)
    (eq16 : PySem.W.subIn K (.ref ec3) (.ref ec2) = some false)
    (eq17 : PySem.W.subIn K (.ref ec3) (.ref ec3) = some true)
    (eq18 : PySem.W.subIn K (.ref ec3) (.ref ec4) = some false)
    (eq19 : PySem.W.subIn K (.ref ec3) (.ref ec0) = some true)
    (eg0 : ExcC K ec4)
    (eg1 : ExcC K ec1)
    (eg2 : ExcC K ec2)
    (eg3 : ExcC K ec3)
    (ey0 : PySem.W.kitOne K (.ref ec4) (.ref ec3) = some false)
    (ey1 : PySem.W.kitOne K (.ref ec4) (.ref ec6) = some false)
    (ey2 : PySem.W.kitOne K (.ref ec4) (.ref ec9) = some false)
    (ey3 : PySem.W.kitOne K (.ref ec4) (.ref ec1) = some false)
    (ey4 : PySem.W.kitOne K (.ref ec4) (.ref ec2) = some false)
    (ey5 : PySem.W.kitOne K (.ref ec4) (.ref ec5) = some false)
    (ey6 : PySem.W.kitOne K (.ref ec4) (.ref ec8) = some false)
    (ey7 : PySem.W.kitOne K (.ref ec4) (.ref ec4) = some true)
    (ey8 : PySem.W.kitOne K (.ref ec4) (.ref ec7) = some false)
    (ey9 : PySem.W.kitOne K (.ref ec4) (.type "ValueError") = some true)
    (ey10 : PySem.W.kitOne K (.ref ec1) (.ref ec3) = some false)
    (ey11 : PySem.W.kitOne K (.ref ec1) (.ref ec6) = some false)
    (ey12 : PySem.W.kitOne K (.ref ec1) (.ref ec9) = some false)
    (ey13 : PySem.W.kitOne K (.ref ec1) (.ref ec1) = some true)
    (ey14 : PySem.W.kitOne K (.ref ec1) (.ref ec2) = some false)
    (ey15 : PySem.W.kitOne K (.ref ec1) (.ref ec5) = some false)
    (ey16 : PySem.W.kitOne K (.ref ec1) (.ref ec8) = some false)
    (ey17 : PySem.W.kitOne K (.ref ec1) (.ref ec4) = some false)
    (ey18 : PySem.W.kitOne K (.ref ec1) (.ref ec7) = some false)
    (ey19 : PySem.W.kitOne K (.ref ec1) (.type "ValueError") = some true)
    (ey20 : PySem.W.kitOne K (.ref ec2) (.ref ec3) = some false)
    (ey21 : PySem.W.kitOne K (.ref ec2) (.ref ec6) = some false)
    (ey22 : PySem.W.kitOne K (.ref ec2) (.ref ec9) = some false)
    (ey23 : PySem.W.kitOne K (.ref ec2) (.ref ec1) = some false)
    (ey24 : PySem.W.kitOne K (.ref ec2) (.ref ec2) = some true)
    (ey25 : PySem.W.kitOne K (.ref ec2) (.ref ec5) = some false)
    (ey26 : PySem.W.kitOne K (.ref ec2) (.ref ec8) = some false)
    (ey27 : PySem.W.kitOne K (.ref ec2) (.ref ec4) = some false)
    (ey28 : PySem.W.kitOne K (.ref ec2) (.ref ec7) = some false)
    (ey29 : PySem.W.kitOne K (.ref ec2) (.type "ValueError") = some true)
    (ey30 : PySem.W.kitOne K (.ref ec3) (.ref ec3) = some true)
    (ey31 : PySem.W.kitOne K (.ref ec3) (.ref ec6) = some false)
    (ey32 : PySem.W.kitOne K (.ref ec3) (.ref ec9) = some false)
    (ey33 : PySem.W.kitOne K (.ref ec3) (.ref ec1) = some false)
    (ey34 : PySem.W.kitOne K (.ref ec3) (.ref ec2) = some false)
    (ey35 : PySem.W.kitOne K (.ref ec3) (.ref ec5) = some false)
    (ey36 : PySem.W.kitOne K (.ref ec3) (.ref ec8) = some false)
    (ey37 : PySem.W.kitOne K (.ref ec3) (.ref ec4) = some false)
    (ey38 : PySem.W.kitOne K (.ref ec3) (.ref ec7) = some false)
    (ey39 : PySem.W.kitOne K (.ref ec3) (.type "ValueError") = some true)
    (a0 : PySem.W.nsIn K mainGlobals "is_whole" = some (some (.ref f0))) (l0 : K.lookup f0 = some ⟨oc0, od0, .func (PySem.W.fnOf "is_whole" "is_whole" (defArgs sis_whole) (defBody sis_whole) (defScope sis_whole) .none kV0 dc0 pm0 an0 cd0 ct0), sl0⟩) (c0 : PySem.W.codeIn K cd0 "is_whole" = true) (k0 : PySem.W.keepIn K (.ref f0) = true)
    (a1 : PySem.W.nsIn K mainGlobals "is_within" = some (some (.ref f1))) (l1 : K.lookup f1 = some ⟨oc1, od1, .func (PySem.W.fnOf "is_within" "is_within" (defArgs sis_within) (defBody sis_within) (defScope sis_within) .none kV1 dc1 pm1 an1 cd1 ct1), sl1⟩) (c1 : PySem.W.codeIn K cd1 "is_within" = true) (k1 : PySem.W.keepIn K (.ref f1) = true)
    (a2 : PySem.W.nsIn K mainGlobals "is_number" = some (some (.ref f2))) (l2 : K.lookup f2 = some ⟨oc2, od2, .func (PySem.W.fnOf "is_number" "is_number" (defArgs sis_number) (defBody sis_number) (defScope sis_number) .none kV2 dc2 pm2 an2 cd2 ct2), sl2⟩) (c2 : PySem.W.codeIn K cd2 "is_number" = true) (k2 : PySem.W.keepIn K (.ref f2) = true)
    (a3 : PySem.W.nsIn K mainGlobals "is_percent" = some (some (.ref f3))) (l3 : K.lookup f3 = some ⟨oc3, od3, .func (PySem.W.fnOf "is_percent" "is_percent" (defArgs sis_percent) (defBody sis_percent) (defScope sis_percent) .none kV3 dc3 pm3 an3 cd3 ct3), sl3⟩) (c3 : PySem.W.codeIn K cd3 "is_percent" = true) (k3 : PySem.W.keepIn K (.ref f3) = true)
    (a4 : PySem.W.nsIn K mainGlobals "is_place" = some (some (.ref f4))) (l4 : K.lookup f4 = some ⟨oc4, od4, .func (PySem.W.fnOf "is_place" "is_place" (defArgs sis_place) (defBody sis_place) (defScope sis_place) .none kV4 dc4 pm4 an4 cd4 ct4), sl4⟩) (c4 : PySem.W.codeIn K cd4 "is_place" = true) (k4 : PySem.W.keepIn K (.ref f4) = true)
    (a5 : PySem.W.nsIn K mainGlobals "is_rule" = some (some (.ref f5))) (l5 : K.lookup f5 = some ⟨oc5, od5, .func (PySem.W.fnOf "is_rule" "is_rule" (defArgs sis_rule) (defBody sis_rule) (defScope sis_rule) .none kV5 dc5 pm5 an5 cd5 ct5), sl5⟩) (c5 : PySem.W.codeIn K cd5 "is_rule" = true) (k5 : PySem.W.keepIn K (.ref f5) = true)
    (a6 : PySem.W.nsIn K mainGlobals "is_word" = some (some (.ref f6))) (l6 : K.lookup f6 = some ⟨oc6, od6, .func (PySem.W.fnOf "is_word" "is_word" (defArgs sis_word) (defBody sis_word) (defScope sis_word) .none kV6 dc6 pm6 an6 cd6 ct6), sl6⟩) (c6 : PySem.W.codeIn K cd6 "is_word" = true) (k6 : PySem.W.keepIn K (.ref f6) = true)
    (a7 : PySem.W.nsIn K mainGlobals "named" = some (some (.ref f7))) (l7 : K.lookup f7 = some ⟨oc7, od7, .func (PySem.W.fnOf "named" "named" (defArgs snamed) (defBody snamed) (defScope snamed) .none kV7 dc7 pm7 an7 cd7 ct7), sl7⟩) (c7 : PySem.W.codeIn K cd7 "named" = true) (k7 : PySem.W.keepIn K (.ref f7) = true)
    (a8 : PySem.W.nsIn K mainGlobals "_is_rule_within" = some (some (.ref f8))) (l8 : K.lookup f8 = some ⟨oc8, od8, .func (PySem.W.fnOf "_is_rule_within" "_is_rule_within" (defArgs s_is_rule_within) (defBody s_is_rule_within) (defScope s_is_rule_within) .none kV8 dc8 pm8 an8 cd8 ct8), sl8⟩) (c8 : PySem.W.codeIn K cd8 "_is_rule_within" = true) (k8 : PySem.W.keepIn K (.ref f8) = true)
    (a9 : PySem.W.nsIn K mainGlobals "_has_form" = some (some (.ref f9))) (l9 : K.lookup f9 = some ⟨oc9, od9, .func (PySem.W.fnOf "_has_form" "_has_form" (defArgs s_has_form) (defBody s_has_form) (defScope s_has_form) .none kV9 dc9 pm9 an9 cd9 ct9), sl9⟩) (c9 : PySem.W.codeIn K cd9 "_has_form" = true) (k9 : PySem.W.keepIn K (.ref f9) = true)
    (a10 : PySem.W.nsIn K mainGlobals "_is_part" = some (some (.ref f10))) (l10 : K.lookup f10 = some ⟨oc10, od10, .func (PySem.W.fnOf "_is_part" "_is_part" (defArgs s_is_part) (defBody s_is_part) (defScope s_is_part) .none kV10 dc10 pm10 an10 cd10 ct10), sl10⟩) (c10 : PySem.W.codeIn K cd10 "_is_part" = true) (k10 : PySem.W.keepIn K (.ref f10) = true)
    (a11 : PySem.W.nsIn K mainGlobals "_behind" = some (some (.ref f11))) (l11 : K.lookup f11 = some ⟨oc11, od11, .func (PySem.W.fnOf "_behind" "_behind" (defArgs s_behind) (defBody s_behind) (defScope s_behind) .none kV11 dc11 pm11 an11 cd11 ct11), sl11⟩) (c11 : PySem.W.codeIn K cd11 "_behind" = true) (k11 : PySem.W.keepIn K (.ref f11) = true)
    (a12 : PySem.W.nsIn K mainGlobals "is_table" = some (some (.ref f12))) (l12 : K.lookup f12 = some ⟨oc12, od12, .func (PySem.W.fnOf "is_table" "is_table" (defArgs sis_table) (defBody sis_table) (defScope sis_table) .none kV12 dc12 pm12 an12 cd12 ct12), sl12⟩) (c12 : PySem.W.codeIn K cd12 "is_table" = true) (k12 : PySem.W.keepIn K (.ref f12) = true)
    (a13 : PySem.W.nsIn K mainGlobals "_is_row" = some (some (.ref f13))) (l13 : K.lookup f13 = some ⟨oc13, od13, .func (PySem.W.fnOf "_is_row" "_is_row" (defArgs s_is_row) (defBody s_is_row) (defScope s_is_row) .none kV13 dc13 pm13 an13 cd13 ct13), sl13⟩) (c13 : PySem.W.codeIn K cd13 "_is_row" = true) (k13 : PySem.W.keepIn K (.ref f13) = true)
    (a14 : PySem.W.nsIn K mainGlobals "_starts_rise" = some (some (.ref f14))) (l14 : K.lookup f14 = some ⟨oc14, od14, .func (PySem.W.fnOf "_starts_rise" "_starts_rise" (defArgs s_starts_rise) (defBody s_starts_rise) (defScope s_starts_rise) .none kV14 dc14 pm14 an14 cd14 ct14), sl14⟩) (c14 : PySem.W.codeIn K cd14 "_starts_rise" = true) (k14 : PySem.W.keepIn K (.ref f14) = true)
    (a15 : PySem.W.nsIn K mainGlobals "form_of" = some (some (.ref f15))) (l15 : K.lookup f15 = some ⟨oc15, od15, .func (PySem.W.fnOf "form_of" "form_of" (defArgs sform_of) (defBody sform_of) (defScope sform_of) .none kV15 dc15 pm15 an15 cd15 ct15), sl15⟩) (c15 : PySem.W.codeIn K cd15 "form_of" = true) (k15 : PySem.W.keepIn K (.ref f15) = true)
    (a16 : PySem.W.nsIn K mainGlobals "ring_of" = some (some (.ref f16))) (l16 : K.lookup f16 = some ⟨oc16, od16, .func (PySem.W.fnOf "ring_of" "ring_of" (defArgs sring_of) (defBody sring_of) (defScope sring_of) .none kV16 dc16 pm16 an16 cd16 ct16), sl16⟩) (c16 : PySem.W.codeIn K cd16 "ring_of" = true) (k16 : PySem.W.keepIn K (.ref f16) = true)
    (a17 : PySem.W.nsIn K mainGlobals "_need_tables" = some (some (.ref f17))) (l17 : K.lookup f17 = some ⟨oc17, od17, .func (PySem.W.fnOf "_need_tables" "_need_tables" (defArgs s_need_tables) (defBody s_need_tables) (defScope s_need_tables) .none kV17 dc17 pm17 an17 cd17 ct17), sl17⟩) (c17 : PySem.W.codeIn K cd17 "_need_tables" = true) (k17 : PySem.W.keepIn K (.ref f17) = true)
    (a18 : PySem.W.nsIn K mainGlobals "_need_sizes" = some (some (.ref f18))) (l18 : K.lookup f18 = some ⟨oc18, od18, .func (PySem.W.fnOf "_need_sizes" "_need_sizes" (defArgs s_need_sizes) (defBody s_need_sizes) (defScope s_need_sizes) .none kV18 dc18 pm18 an18 cd18 ct18), sl18⟩) (c18 : PySem.W.codeIn K cd18 "_need_sizes" = true) (k18 : PySem.W.keepIn K (.ref f18) = true)
    (a19 : PySem.W.nsIn K mainGlobals "_need_rules" = some (some (.ref f19))) (l19 : K.lookup f19 = some ⟨oc19, od19, .func (PySem.W.fnOf "_need_rules" "_need_rules" (defArgs s_need_rules) (defBody s_need_rules) (defScope s_need_rules) .none kV19 dc19 pm19 an19 cd19 ct19), sl19⟩) (c19 : PySem.W.codeIn K cd19 "_need_rules" = true) (k19 : PySem.W.keepIn K (.ref f19) = true)
    (a20 : PySem.W.nsIn K mainGlobals "_lines_named" = some (some (.ref f20))) (l20 : K.lookup f20 = some ⟨oc20, od20, .func (PySem.W.fnOf "_lines_named" "_lines_named" (defArgs s_lines_named) (defBody s_lines_named) (defScope s_lines_named) .none kV20 dc20 pm20 an20 cd20 ct20), sl20⟩) (c20 : PySem.W.codeIn K cd20 "_lines_named" = true) (k20 : PySem.W.keepIn K (.ref f20) = true)
    (a21 : PySem.W.nsIn K mainGlobals "_ring_from" = some (some (.ref f21))) (l21 : K.lookup f21 = some ⟨oc21, od21, .func (PySem.W.fnOf "_ring_from" "_ring_from" (defArgs s_ring_from) (defBody s_ring_from) (defScope s_ring_from) .none kV21 dc21 pm21 an21 cd21 ct21), sl21⟩) (c21 : PySem.W.codeIn K cd21 "_ring_from" = true) (k21 : PySem.W.keepIn K (.ref f21) = true)
    (a22 : PySem.W.nsIn K mainGlobals "_law_cell_at" = some (some (.ref f22))) (l22 : K.lookup f22 = some ⟨oc22, od22, .func (PySem.W.fnOf "_law_cell_at" "_law_cell_at" (defArgs s_law_cell_at) (defBody s_law_cell_at) (defScope s_law_cell_at) .none kV22 dc22 pm22 an22 cd22 ct22), sl22⟩) (c22 : PySem.W.codeIn K cd22 "_law_cell_at" = true) (k22 : PySem.W.keepIn K (.ref f22) = true)
    (a23 : PySem.W.nsIn K mainGlobals "_law_mixed" = some (some (.ref f23))) (l23 : K.lookup f23 = some ⟨oc23, od23, .func (PySem.W.fnOf "_law_mixed" "_law_mixed" (defArgs s_law_mixed) (defBody s_law_mixed) (defScope s_law_mixed) .none kV23 dc23 pm23 an23 cd23 ct23), sl23⟩) (c23 : PySem.W.codeIn K cd23 "_law_mixed" = true) (k23 : PySem.W.keepIn K (.ref f23) = true)
    (a24 : PySem.W.nsIn K mainGlobals "_law_next" = some (some (.ref f24))) (l24 : K.lookup f24 = some ⟨oc24, od24, .func (PySem.W.fnOf "_law_next" "_law_next" (defArgs s_law_next) (defBody s_law_next) (defScope s_law_next) .none kV24 dc24 pm24 an24 cd24 ct24), sl24⟩) (c24 : PySem.W.codeIn K cd24 "_law_next" = true) (k24 : PySem.W.keepIn K (.ref f24) = true)
    (a25 : PySem.W.nsIn K mainGlobals "_law_number" = some (some (.ref f25))) (l25 : K.lookup f25 = some ⟨oc25, od25, .func (PySem.W.fnOf "_law_number" "_law_number" (defArgs s_law_number) (defBody s_law_number) (defScope s_law_number) .none kV25 dc25 pm25 an25 cd25 ct25), sl25⟩) (c25 : PySem.W.codeIn K cd25 "_law_number" = true) (k25 : PySem.W.keepIn K (.ref f25) = true)
    (a26 : PySem.W.nsIn K mainGlobals "_law_table" = some (some (.ref f26))) (l26 : K.lookup f26 = some ⟨oc26, od26, .func (PySem.W.fnOf "_law_table" "_law_table" (defArgs s_law_table) (defBody s_law_table) (defScope s_law_table) .none kV26 dc26 pm26 an26 cd26 ct26), sl26⟩) (c26 : PySem.W.codeIn K cd26 "_law_table" = true) (k26 : PySem.W.keepIn K (.ref f26) = true)
    (a27 : PySem.W.nsIn K mainGlobals "_law_words" = some (some (.ref f27))) (l27 : K.lookup f27 = some ⟨oc27, od27, .func (PySem.W.fnOf "_law_words" "_law_words" (defArgs s_law_words) (defBody s_law_words) (defScope s_law_words) .none kV27 dc27 pm27 an27 cd27 ct27), sl27⟩) (c27 : PySem.W.codeIn K cd27 "_law_words" = true) (k27 : PySem.W.keepIn K (.ref f27) = true)
    (a28 : PySem.W.nsIn K mainGlobals "_law_plain" = some (some (.ref f28))) (l28 : K.lookup f28 = some ⟨oc28, od28, .func (PySem.W.fnOf "_law_plain" "_law_plain" (defArgs s_law_plain) (defBody s_law_plain) (defScope s_law_plain) .none kV28 dc28 pm28 an28 cd28 ct28), sl28⟩) (c28 : PySem.W.codeIn K cd28 "_law_plain" = true) (k28 : PySem.W.keepIn K (.ref f28) = true)
    (a29 : PySem.W.nsIn K mainGlobals "_law_rule" = some (some (.ref f29))) (l29 : K.lookup f29 = some ⟨oc29, od29, .func (PySem.W.fnOf "_law_rule" "_law_rule" (defArgs s_law_rule) (defBody s_law_rule) (defScope s_law_rule) .none kV29 dc29 pm29 an29 cd29 ct29), sl29⟩) (c29 : PySem.W.codeIn K cd29 "_law_rule" = true) (k29 : PySem.W.keepIn K (.ref f29) = true)
    (a30 : PySem.W.nsIn K mainGlobals "_law_sizes" = some (some (.ref f30))) (l30 : K.lookup f30 = some ⟨oc30, od30, .func (PySem.W.fnOf "_law_sizes" "_law_sizes" (defArgs s_law_sizes) (defBody s_law_sizes) (defScope s_law_sizes) .none kV30 dc30 pm30 an30 cd30 ct30), sl30⟩) (c30 : PySem.W.codeIn K cd30 "_law_sizes" = true) (k30 : PySem.W.keepIn K (.ref f30) = true)
    (a31 : PySem.W.nsIn K mainGlobals "_law_order" = some (some (.ref f31))) (l31 : K.lookup f31 = some ⟨oc31, od31, .func (PySem.W.fnOf "_law_order" "_law_order" (defArgs s_law_order) (defBody s_law_order) (defScope s_law_order) .none kV31 dc31 pm31 an31 cd31 ct31), sl31⟩) (c31 : PySem.W.codeIn K cd31 "_law_order" = true) (k31 : PySem.W.keepIn K (.ref f31) = true)
    (a32 : PySem.W.nsIn K mainGlobals "_law_form" = some (some (.ref f32))) (l32 : K.lookup f32 = some ⟨oc32, od32, .func (PySem.W.fnOf "_law_form" "_law_form" (defArgs s_law_form) (defBody s_law_form) (defScope s_law_form) .none kV32 dc32 pm32 an32 cd32 ct32), sl32⟩) (c32 : PySem.W.codeIn K cd32 "_law_form" = true) (k32 : PySem.W.keepIn K (.ref f32) = true)
    (a33 : PySem.W.nsIn K mainGlobals "_law_alone" = some (some (.ref f33))) (l33 : K.lookup f33 = some ⟨oc33, od33, .func (PySem.W.fnOf "_law_alone" "_law_alone" (defArgs s_law_alone) (defBody s_law_alone) (defScope s_law_alone) .none kV33 dc33 pm33 an33 cd33 ct33), sl33⟩) (c33 : PySem.W.codeIn K cd33 "_law_alone" = true) (k33 : PySem.W.keepIn K (.ref f33) = true)
    (a34 : PySem.W.nsIn K mainGlobals "_law_faulty" = some (some (.ref f34))) (l34 : K.lookup f34 = some ⟨oc34, od34, .func (PySem.W.fnOf "_law_faulty" "_law_faulty" (defArgs s_law_faulty) (defBody s_law_faulty) (defScope s_law_faulty) .none kV34 dc34 pm34 an34 cd34 ct34), sl34⟩) (c34 : PySem.W.codeIn K cd34 "_law_faulty" = true) (k34 : PySem.W.keepIn K (.ref f34) = true)
    (a35 : PySem.W.nsIn K mainGlobals "_law_tried" = some (some (.ref f35))) (l35 : K.lookup f35 = some ⟨oc35, od35, .func (PySem.W.fnOf "_law_tried" "_law_tried" (defArgs s_law_tried) (defBody s_law_tried) (defScope s_law_tried) .none kV35 dc35 pm35 an35 cd35 ct35), sl35⟩) (c35 : PySem.W.codeIn K cd35 "_law_tried" = true) (k35 : PySem.W.keepIn K (.ref f35) = true)
    (a36 : PySem.W.nsIn K mainGlobals "_law_any" = some (some (.ref f36))) (l36 : K.lookup f36 = some ⟨oc36, od36, .func (PySem.W.fnOf "_law_any" "_law_any" (defArgs s_law_any) (defBody s_law_any) (defScope s_law_any) .none kV36 dc36 pm36 an36 cd36 ct36), sl36⟩) (c36 : PySem.W.codeIn K cd36 "_law_any" = true) (k36 : PySem.W.keepIn K (.ref f36) = true)
    (a37 : PySem.W.nsIn K mainGlobals "_law_first" = some (some (.ref f37))) (l37 : K.lookup f37 = some ⟨oc37, od37, .func (PySem.W.fnOf "_law_first" "_law_first" (defArgs s_law_first) (defBody s_law_first) (defScope s_law_first) .none kV37 dc37 pm37 an37 cd37 ct37), sl37⟩) (c37 : PySem.W.codeIn K cd37 "_law_first" = true) (k37 : PySem.W.keepIn K (.ref f37) = true)
    (a38 : PySem.W.nsIn K mainGlobals "_law_same_kinds" = some (some (.ref f38))) (l38 : K.lookup f38 = some ⟨oc38, od38, .func (PySem.W.fnOf "_law_same_kinds" "_law_same_kinds" (defArgs s_law_same_kinds) (defBody s_law_same_kinds) (defScope s_law_same_kinds) .none kV38 dc38 pm38 an38 cd38 ct38), sl38⟩) (c38 : PySem.W.codeIn K cd38 "_law_same_kinds" = true) (k38 : PySem.W.keepIn K (.ref f38) = true)
    (a39 : PySem.W.nsIn K mainGlobals "law" = some (some (.ref f39))) (l39 : K.lookup f39 = some ⟨oc39, od39, .func (PySem.W.fnOf "law" "law" (defArgs slaw) (defBody slaw) (defScope slaw) .none kV39 dc39 pm39 an39 cd39 ct39), sl39⟩) (c39 : PySem.W.codeIn K cd39 "law" = true) (k39 : PySem.W.keepIn K (.ref f39) = true) : Tx K w mg :=
  ⟨PySem.W.mg_none_of X G z0,
   PySem.W.mg_none_of X G z1,
   PySem.W.mg_none_of X G z2,
   PySem.W.mg_none_of X G z3,
   PySem.W.mg_none_of X G z4,
   PySem.W.mg_none_of X G z5,
   PySem.W.mg_none_of X G z6,
   PySem.W.mg_none_of X G z7,
   PySem.W.mg_none_of X G z8,
   PySem.W.mg_none_of X G z9,
   PySem.W.mg_none_of X G z10,
   PySem.W.mg_none_of X G z11,
   PySem.W.mg_none_of X G z12,
   PySem.W.mg_none_of X G z13,
   ⟨_, PySem.W.mg_of X G w0⟩,
   ⟨_, PySem.W.mg_of X G w1⟩,
   ⟨_, PySem.W.mg_of X G w2⟩,
   ⟨_, PySem.W.mg_of X G w3⟩,
   ⟨_, PySem.W.mg_of X G w4⟩,
   ⟨_, PySem.W.mg_of X G w5⟩,
   ⟨_, PySem.W.mg_of X G w6⟩,
   ⟨_, PySem.W.mg_of X G w7⟩,
   ⟨_, PySem.W.mg_of X G w8⟩,
   ⟨_, PySem.W.mg_of X G w9⟩,
   ⟨_, PySem.W.mg_of X G da0, _, _, dl0, dm0, dp0⟩,
   Qe.errC_mk (PySem.W.mg_of X G ea0) ex0 ek0 eb0 et0 ed0,
   Qe.errC_mk (PySem.W.mg_of X G ea1) ex1 ek1 eb1 et1 ed1,
   Qe.errC_mk (PySem.W.mg_of X G ea2) ex2 ek2 eb2 et2 ed2,
   Qe.errC_mk (PySem.W.mg_of X G ea3) ex3 ek3 eb3 et3 ed3,
   Qe.errC_mk (PySem.W.mg_of X G ea4) ex4 ek4 eb4 et4 ed4,
   Qe.errC_mk (PySem.W.mg_of X G ea5) ex5 ek5 eb5 et5 ed5,
   Qe.errC_mk (PySem.W.mg_of X G ea6) ex6 ek6 eb6 et6 ed6,
   Qe.errC_mk (PySem.W.mg_of X G ea7) ex7 ek7 eb7 et7 ed7,
   Qe.errC_mk (PySem.W.mg_of X G ea8) ex8 ek8 eb8 et8 ed8,
   Qe.errC_mk (PySem.W.mg_of X G ea9) ex9 ek9 eb9 et9 ed9,
   Qe.catch_mk (PySem.W.mg_of X G ea4) (PySem.W.mg_of X G ea1) (Qe.errC_mk (PySem.W.mg_of X G ea1) ex1 ek1 eb1 et1 ed1) eq0,
   Qe.catch_mk (PySem.W.mg_of X G ea4) (PySem.W.mg_of X G ea2) (Qe.errC_mk (PySem.W.mg_of X G ea2) ex2 ek2 eb2 et2 ed2) eq1,
   Qe.catch_mk (PySem.W.mg_of X G ea4) (PySem.W.mg_of X G ea3) (Qe.errC_mk (PySem.W.mg_of X G ea3) ex3 ek3 eb3 et3 ed3) eq2,
   Qe.catch_mk (PySem.W.mg_of X G ea4) (PySem.W.mg_of X G ea4) (Qe.errC_mk (PySem.W.mg_of X G ea4) ex4 ek4 eb4 et4 ed4) eq3,
   Qe.catch_mk (PySem.W.mg_of X G ea4) (PySem.W.mg_of X G ea0) (Qe.errC_mk (PySem.W.mg_of X G ea0) ex0 ek0 eb0 et0 ed0) eq4,
   Qe.catch_mk (PySem.W.mg_of X G ea1) (PySem.W.mg_of X G ea1) (Qe.errC_mk (PySem.W.mg_of X G ea1) ex1 ek1 eb1 et1 ed1) eq5,
   Qe.catch_mk (PySem.W.mg_of X G ea1) (PySem.W.mg_of X G ea2) (Qe.errC_mk (PySem.W.mg_of X G ea2) ex2 ek2 eb2 et2 ed2) eq6,
   Qe.catch_mk (PySem.W.mg_of X G ea1) (PySem.W.mg_of X G ea3) (Qe.errC_mk (PySem.W.mg_of X G ea3) ex3 ek3 eb3 et3 ed3) eq7,
   Qe.catch_mk (PySem.W.mg_of X G ea1) (PySem.W.mg_of X G ea4) (Qe.errC_mk (PySem.W.mg_of X G ea4) ex4 ek4 eb4 et4 ed4) eq8,
   Qe.catch_mk (PySem.W.mg_of X G ea1) (PySem.W.mg_of X G ea0) (Qe.errC_mk (PySem.W.mg_of X G ea0) ex0 ek0 eb0 et0 ed0) eq9,
   Qe.catch_mk (PySem.W.mg_of X G ea2) (PySem.W.mg_of X G ea1) (Qe.errC_mk (PySem.W.mg_of X G ea1) ex1 ek1 eb1 et1 ed1) eq10,
   Qe.catch_mk (PySem.W.mg_of X G ea2) (PySem.W.mg_of X G ea2) (Qe.errC_mk (PySem.W.mg_of X G ea2) ex2 ek2 eb2 et2 ed2) eq11,
   Qe.catch_mk (PySem.W.mg_of X G ea2) (PySem.W.mg_of X G ea3) (Qe.errC_mk (PySem.W.mg_of X G ea3) ex3 ek3 eb3 et3 ed3) eq12,
   Qe.catch_mk (PySem.W.mg_of X G ea2) (PySem.W.mg_of X G ea4) (Qe.errC_mk (PySem.W.mg_of X G ea4) ex4 ek4 eb4 et4 ed4) eq13,
   Qe.catch_mk (PySem.W.mg_of X G ea2) (PySem.W.mg_of X G ea0) (Qe.errC_mk (PySem.W.mg_of X G ea0) ex0 ek0 eb0 et0 ed0) eq14,
   Qe.catch_mk (PySem.W.mg_of X G ea3) (PySem.W.mg_of X G ea1) (Qe.errC_mk (PySem.W.mg_of X G ea1) ex1 ek1 eb1 et1 ed1) eq15,
   Qe.catch_mk (PySem.W.mg_of X G ea3) (PySem.W.mg_of X G ea2) (Qe.errC_mk (PySem.W.mg_of X G ea2) ex2 ek2 eb2 et2 ed2) eq16,
   Qe.catch_mk (PySem.W.mg_of X G ea3) (PySem.W.mg_of X G ea3) (Qe.errC_mk (PySem.W.mg_of X G ea3) ex3 ek3 eb3 et3 ed3) eq17,
   Qe.catch_mk (PySem.W.mg_of X G ea3) (PySem.W.mg_of X G ea4) (Qe.errC_mk (PySem.W.mg_of X G ea4) ex4 ek4 eb4 et4 ed4) eq18,
   Qe.catch_mk (PySem.W.mg_of X G ea3) (PySem.W.mg_of X G ea0) (Qe.errC_mk (PySem.W.mg_of X G ea0) ex0 ek0 eb0 et0 ed0) eq19,
   Qe.excC_at (PySem.W.mg_of X G ea4) eg0,
   Qe.excC_at (PySem.W.mg_of X G ea1) eg1,
   Qe.excC_at (PySem.W.mg_of X G ea2) eg2,
   Qe.excC_at (PySem.W.mg_of X G ea3) eg3,
   Qe.kit_at2 (PySem.W.mg_of X G ea4) (PySem.W.mg_of X G ea3) ey0,
   Qe.kit_at2 (PySem.W.mg_of X G ea4) (PySem.W.mg_of X G ea6) ey1,
   Qe.kit_at2 (PySem.W.mg_of X G ea4) (PySem.W.mg_of X G ea9) ey2,
   Qe.kit_at2 (PySem.W.mg_of X G ea4) (PySem.W.mg_of X G ea1) ey3,
   Qe.kit_at2 (PySem.W.mg_of X G ea4) (PySem.W.mg_of X G ea2) ey4,
   Qe.kit_at2 (PySem.W.mg_of X G ea4) (PySem.W.mg_of X G ea5) ey5,
   Qe.kit_at2 (PySem.W.mg_of X G ea4) (PySem.W.mg_of X G ea8) ey6,
   Qe.kit_at2 (PySem.W.mg_of X G ea4) (PySem.W.mg_of X G ea4) ey7,
   Qe.kit_at2 (PySem.W.mg_of X G ea4) (PySem.W.mg_of X G ea7) ey8,
   Qe.kit_at1 (PySem.W.mg_of X G ea4) ey9,
   Qe.kit_at2 (PySem.W.mg_of X G ea1) (PySem.W.mg_of X G ea3) ey10,
   Qe.kit_at2 (PySem.W.mg_of X G ea1) (PySem.W.mg_of X G ea6) ey11,
   Qe.kit_at2 (PySem.W.mg_of X G ea1) (PySem.W.mg_of X G ea9) ey12,
   Qe.kit_at2 (PySem.W.mg_of X G ea1) (PySem.W.mg_of X G ea1) ey13,
   Qe.kit_at2 (PySem.W.mg_of X G ea1) (PySem.W.mg_of X G ea2) ey14,
   Qe.kit_at2 (PySem.W.mg_of X G ea1) (PySem.W.mg_of X G ea5) ey15,
   Qe.kit_at2 (PySem.W.mg_of X G ea1) (PySem.W.mg_of X G ea8) ey16,
   Qe.kit_at2 (PySem.W.mg_of X G ea1) (PySem.W.mg_of X G ea4) ey17,
   Qe.kit_at2 (PySem.W.mg_of X G ea1) (PySem.W.mg_of X G ea7) ey18,
   Qe.kit_at1 (PySem.W.mg_of X G ea1) ey19,
   Qe.kit_at2 (PySem.W.mg_of X G ea2) (PySem.W.mg_of X G ea3) ey20,
   Qe.kit_at2 (PySem.W.mg_of X G ea2) (PySem.W.mg_of X G ea6) ey21,
   Qe.kit_at2 (PySem.W.mg_of X G ea2) (PySem.W.mg_of X G ea9) ey22,
   Qe.kit_at2 (PySem.W.mg_of X G ea2) (PySem.W.mg_of X G ea1) ey23,
   Qe.kit_at2 (PySem.W.mg_of X G ea2) (PySem.W.mg_of X G ea2) ey24,
   Qe.kit_at2 (PySem.W.mg_of X G ea2) (PySem.W.mg_of X G ea5) ey25,
   Qe.kit_at2 (PySem.W.mg_of X G ea2) (PySem.W.mg_of X G ea8) ey26,
   Qe.kit_at2 (PySem.W.mg_of X G ea2) (PySem.W.mg_of X G ea4) ey27,
   Qe.kit_at2 (PySem.W.mg_of X G ea2) (PySem.W.mg_of X G ea7) ey28,
   Qe.kit_at1 (PySem.W.mg_of X G ea2) ey29,
   Qe.kit_at2 (PySem.W.mg_of X G ea3) (PySem.W.mg_of X G ea3) ey30,
   Qe.kit_at2 (PySem.W.mg_of X G ea3) (PySem.W.mg_of X G ea6) ey31,
   Qe.kit_at2 (PySem.W.mg_of X G ea3) (PySem.W.mg_of X G ea9) ey32,
   Qe.kit_at2 (PySem.W.mg_of X G ea3) (PySem.W.mg_of X G ea1) ey33,
   Qe.kit_at2 (PySem.W.mg_of X G ea3) (PySem.W.mg_of X G ea2) ey34,
   Qe.kit_at2 (PySem.W.mg_of X G ea3) (PySem.W.mg_of X G ea5) ey35,
   Qe.kit_at2 (PySem.W.mg_of X G ea3) (PySem.W.mg_of X G ea8) ey36,
   Qe.kit_at2 (PySem.W.mg_of X G ea3) (PySem.W.mg_of X G ea4) ey37,
   Qe.kit_at2 (PySem.W.mg_of X G ea3) (PySem.W.mg_of X G ea7) ey38,
   Qe.kit_at1 (PySem.W.mg_of X G ea3) ey39,
   ⟨_, _, fun_mk (st := sis_whole) l0 c0 k0, PySem.W.mg_of X G a0⟩,
   ⟨_, _, fun_mk (st := sis_within) l1 c1 k1, PySem.W.mg_of X G a1⟩,
   ⟨_, _, fun_mk (st := sis_number) l2 c2 k2, PySem.W.mg_of X G a2⟩,
   ⟨_, _, fun_mk (st := sis_percent) l3 c3 k3, PySem.W.mg_of X G a3⟩,
   ⟨_, _, fun_mk (st := sis_place) l4 c4 k4, PySem.W.mg_of X G a4⟩,
   ⟨_, _, fun_mk (st := sis_rule) l5 c5 k5, PySem.W.mg_of X G a5⟩,
   ⟨_, _, fun_mk (st := sis_word) l6 c6 k6, PySem.W.mg_of X G a6⟩,
   ⟨_, _, fun_mk (st := snamed) l7 c7 k7, PySem.W.mg_of X G a7⟩,
   ⟨_, _, fun_mk (st := s_is_rule_within) l8 c8 k8, PySem.W.mg_of X G a8⟩,
   ⟨_, _, fun_mk (st := s_has_form) l9 c9 k9, PySem.W.mg_of X G a9⟩,
   ⟨_, _, fun_mk (st := s_is_part) l10 c10 k10, PySem.W.mg_of X G a10⟩,
   ⟨_, _, fun_mk (st := s_behind) l11 c11 k11, PySem.W.mg_of X G a11⟩,
   ⟨_, _, fun_mk (st := sis_table) l12 c12 k12, PySem.W.mg_of X G a12⟩,
   ⟨_, _, fun_mk (st := s_is_row) l13 c13 k13, PySem.W.mg_of X G a13⟩,
   ⟨_, _, fun_mk (st := s_starts_rise) l14 c14 k14, PySem.W.mg_of X G a14⟩,
   ⟨_, _, fun_mk (st := sform_of) l15 c15 k15, PySem.W.mg_of X G a15⟩,
   ⟨_, _, fun_mk (st := sring_of) l16 c16 k16, PySem.W.mg_of X G a16⟩,
   ⟨_, _, fun_mk (st := s_need_tables) l17 c17 k17, PySem.W.mg_of X G a17⟩,
   ⟨_, _, fun_mk (st := s_need_sizes) l18 c18 k18, PySem.W.mg_of X G a18⟩,
   ⟨_, _, fun_mk (st := s_need_rules) l19 c19 k19, PySem.W.mg_of X G a19⟩,
   ⟨_, _, fun_mk (st := s_lines_named) l20 c20 k20, PySem.W.mg_of X G a20⟩,
   ⟨_, _, fun_mk (st := s_ring_from) l21 c21 k21, PySem.W.mg_of X G a21⟩,
   ⟨_, _, fun_mk (st := s_law_cell_at) l22 c22 k22, PySem.W.mg_of X G a22⟩,
   ⟨_, _, fun_mk (st := s_law_mixed) l23 c23 k23, PySem.W.mg_of X G a23⟩,
   ⟨_, _, fun_mk (st := s_law_next) l24 c24 k24, PySem.W.mg_of X G a24⟩,
   ⟨_, _, fun_mk (st := s_law_number) l25 c25 k25, PySem.W.mg_of X G a25⟩,
   ⟨_, _, fun_mk (st := s_law_table) l26 c26 k26, PySem.W.mg_of X G a26⟩,
   ⟨_, _, fun_mk (st := s_law_words) l27 c27 k27, PySem.W.mg_of X G a27⟩,
   ⟨_, _, fun_mk (st := s_law_plain) l28 c28 k28, PySem.W.mg_of X G a28⟩,
   ⟨_, _, fun_mk (st := s_law_rule) l29 c29 k29, PySem.W.mg_of X G a29⟩,
   ⟨_, _, fun_mk (st := s_law_sizes) l30 c30 k30, PySem.W.mg_of X G a30⟩,
   ⟨_, _, fun_mk (st := s_law_order) l31 c31 k31, PySem.W.mg_of X G a31⟩,
   ⟨_, _, fun_mk (st := s_law_form) l32 c32 k32, PySem.W.mg_of X G a32⟩,
   ⟨_, _, fun_mk (st := s_law_alone) l33 c33 k33, PySem.W.mg_of X G a33⟩,
   ⟨_, _, fun_mk (st := s_law_faulty) l34 c34 k34, PySem.W.mg_of X G a34⟩,
   ⟨_, _, fun_mk (st := s_law_tried) l35 c35 k35, PySem.W.mg_of X G a35⟩,
   ⟨_, _, fun_mk (st := s_law_any) l36 c36 k36, PySem.W.mg_of X G a36⟩,
   ⟨_, _, fun_mk (st := s_law_first) l37 c37 k37, PySem.W.mg_of X G a37⟩,
   ⟨_, _, fun_mk (st := s_law_same_kinds) l38 c38 k38, PySem.W.mg_of X G a38⟩,
   ⟨_, _, fun_mk (st := slaw) l39 c39 k39, PySem.W.mg_of X G a39⟩⟩

theorem fin {P : Program} {w : World} {K : PySem.W.Frag} {mg : Str → Option Value} {fa : Addr} (hfa : mg "law" = some (.ref fa)) (T : Tx K w mg) :
    ∃ fd : FuncData, (∀ (s : Shared) (v : Value), BindsTo s fd ⟨[v], []⟩ [("_law_script", v)]) ∧ ∀ base : Heap, K.In base → base.Ns mainGlobals mg → FnOk P w K mg base CX0 30 fa fd ["_law_script"] (spLaw K) := by
  obtain ⟨fd, b, f⟩ := law_fd (P := P) (w := w) (good := fun _ => True) T.F_law blaw hfa fun base _ => all T
  exact ⟨fd, b, fun base _ _ => f base trivial⟩
end KF
open PySem PySem.W PyProof.Rows
set_option maxHeartbeats 0 in
theorem PySem.Challenge.cw_formlines_k03_forms_made_holds : PySem.Challenge.rw_formlines_k03_forms_made.Holds := by
  w_on; o_law; k_head; (case hw => w_witness2)
  k_fill
  refine L2.walk_of (l := PySem.Challenge.rw_formlines_k03_forms_made) (n := 63) (k := 30) (x := "_law_script") (CX := fun _ => L2.CX0) (sp := fun w => KF.spLaw _) rfl (by decide) rfl ⟨rfl, by decide, by decide⟩ (fun w h Y => PySem.W.kIn_of Y) ?F (fun _ _ a ns hl _ hS => ⟨_, rfl, a, ns, rfl, hS, fun _ => rfl⟩) (fun _ _ _ _ _ h => h)
  case F =>
    intro w mg fa h KX G hmg
    refine' KF.fin hmg (KF.tx_mk KX G ?z0 ?z1 ?z2 ?z3 ?z4 ?z5 ?z6 ?z7 ?z8 ?z9 ?z10 ?z11 ?z12 ?z13 ?w0 ?w1 ?w2 ?w3 ?w4 ?w5 ?w6 ?w7 ?w8 ?w9 ?da0 ?dl0 ?dm0 ?dp0 ?ea0 ?ex0 ?ek0 ?eb0 ?et0 ?ed0 ?ea1 ?ex1 ?ek1 ?eb1 ?et1 ?ed1 ?ea2 ?ex2 ?ek2 ?eb2 ?et2 ?ed2 ?ea3 ?ex3 ?ek3 ?eb3 ?et3 ?ed3 ?ea4 ?ex4 ?ek4 ?eb4 ?et4 ?ed4 ?ea5 ?ex5 ?ek5 ?eb5 ?et5 ?ed5 ?ea6 ?ex6 ?ek6 ?eb6 ?et6 ?ed6 ?ea7 ?ex7 ?ek7 ?eb7 ?et7 ?ed7 ?ea8 ?ex8 ?ek8 ?eb8 ?et8 ?ed8 ?ea9 ?ex9 ?ek9 ?eb9 ?et9 ?ed9 ?eq0 ?eq1 ?eq2 ?eq3 ?eq4 ?eq5 ?eq6 ?eq7 ?eq8 ?eq9 ?eq10 ?eq11 ?eq12 ?eq13 ?eq14 ?eq15 ?eq16 ?eq17 ?eq18 ?eq19 ?eg0 ?eg1 ?eg2 ?eg3 ?ey0 ?ey1 ?ey2 ?ey3 ?ey4 ?ey5 ?ey6 ?ey7 ?ey8 ?ey9 ?ey10 ?ey11 ?ey12 ?ey13 ?ey14 ?ey15 ?ey16 ?ey17 ?ey18 ?ey19 ?ey20 ?ey21 ?ey22 ?ey23 ?ey24 ?ey25 ?ey26 ?ey27 ?ey28 ?ey29 ?ey30 ?ey31 ?ey32 ?ey33 ?ey34 ?ey35 ?ey36 ?ey37 ?ey38 ?ey39 ?a0 ?l0 ?c0 ?k0 ?a1 ?l1 ?c1 ?k1 ?a2 ?l2 ?c2 ?k2 ?a3 ?l3 ?c3 ?k3 ?a4 ?l4 ?c4 ?k4 ?a5 ?l5 ?c5 ?k5 ?a6 ?l6 ?c6 ?k6 ?a7 ?l7 ?c7 ?k7 ?a8 ?l8 ?c8 ?k8 ?a9 ?l9 ?c9 ?k9 ?a10 ?l10 ?c10 ?k10 ?a11 ?l11 ?c11 ?k11 ?a12 ?l12 ?c12 ?k12 ?a13 ?l13 ?c13 ?k13 ?a14 ?l14 ?c14 ?k14 ?a15 ?l15 ?c15 ?k15 ?a16 ?l16 ?c16 ?k16 ?a17 ?l17 ?c17 ?k17 ?a18 ?l18 ?c18 ?k18 ?a19 ?l19 ?c19 ?k19 ?a20 ?l20 ?c20 ?k20 ?a21 ?l21 ?c21 ?k21 ?a22 ?l22 ?c22 ?k22 ?a23 ?l23 ?c23 ?k23 ?a24 ?l24 ?c24 ?k24 ?a25 ?l25 ?c25 ?k25 ?a26 ?l26 ?c26 ?k26 ?a27 ?l27 ?c27 ?k27 ?a28 ?l28 ?c28 ?k28 ?a29 ?l29 ?c29 ?k29 ?a30 ?l30 ?c30 ?k30 ?a31 ?l31 ?c31 ?k31 ?a32 ?l32 ?c32 ?k32 ?a33 ?l33 ?c33 ?k33 ?a34 ?l34 ?c34 ?k34 ?a35 ?l35 ?c35 ?k35 ?a36 ?l36 ?c36 ?k36 ?a37 ?l37 ?c37 ?k37 ?a38 ?l38 ?c38 ?k38 ?a39 ?l39 ?c39 ?k39)
    (case z0 => k_is)
    (case z1 => k_is)
    (case z2 => k_is)
    (case z3 => k_is)
    (case z4 => k_is)
    (case z5 => k_is)
    (case z6 => k_is)
    (case z7 => k_is)
    (case z8 => k_is)
    (case z9 => k_is)
    (case z10 => k_is)
    (case z11 => k_is)
    (case z12 => k_is)
    (case z13 => k_is)
    (case w0 => k_is)
    (case w1 => k_is)
    (case w2 => k_is)
    (case w3 => k_is)
    (case w4 => k_is)
    (case w5 => k_is)
    (case w6 => k_is)
    (case w7 => k_is)
    (case w8 => k_is)
    (case w9 => k_is)
    (case da0 => k_is)
    (case dl0 => k_is)
    (case dm0 => decide)
    (case dp0 => walk_at "tab")
    (case ea0 => k_is)
    (case ex0 => k_exc)
    (case ek0 => k_is)
    (case eb0 => k_is)
    (case et0 => k_is)
    (case ed0 => k_is)
    (case ea1 => k_is)
    (case ex1 => k_exc)
    (case ek1 => k_is)
    (case eb1 => k_is)
    (case et1 => k_is)
    (case ed1 => k_is)
    (case ea2 => k_is)
    (case ex2 => k_exc)
    (case ek2 => k_is)
    (case eb2 => k_is)
    (case et2 => k_is)
    (case ed2 => k_is)
    (case ea3 => k_is)
    (case ex3 => k_exc)
    (case ek3 => k_is)
    (case eb3 => k_is)
    (case et3 => k_is)
    (case ed3 => k_is)
    (case ea4 => k_is)
    (case ex4 => k_exc)
    (case ek4 => k_is)
    (case eb4 => k_is)
    (case et4 => k_is)
    (case ed4 => k_is)
    (case ea5 => k_is)
    (case ex5 => k_exc)
    (case ek5 => k_is)
    (case eb5 => k_is)
    (case et5 => k_is)
    (case ed5 => k_is)
    (case ea6 => k_is)
    (case ex6 => k_exc)
    (case ek6 => k_is)
    (case eb6 => k_is)
    (case et6 => k_is)
    (case ed6 => k_is)
    (case ea7 => k_is)
    (case ex7 => k_exc)
    (case ek7 => k_is)
    (case eb7 => k_is)
    (case et7 => k_is)
    (case ed7 => k_is)
    (case ea8 => k_is)
    (case ex8 => k_exc)
    (case ek8 => k_is)
    (case eb8 => k_is)
    (case et8 => k_is)
    (case ed8 => k_is)
    (case ea9 => k_is)
    (case ex9 => k_exc)
    (case ek9 => k_is)
    (case eb9 => k_is)
    (case et9 => k_is)
    (case ed9 => k_is)
    (case eq0 => k_is)
    (case eq1 => k_is)
    (case eq2 => k_is)
    (case eq3 => k_is)
    (case eq4 => k_is)
    (case eq5 => k_is)
    (case eq6 => k_is)
    (case eq7 => k_is)
    (case eq8 => k_is)
    (case eq9 => k_is)
    (case eq10 => k_is)
    (case eq11 => k_is)
    (case eq12 => k_is)
    (case eq13 => k_is)
    (case eq14 => k_is)
    (case eq15 => k_is)
    (case eq16 => k_is)
    (case eq17 => k_is)
    (case eq18 => k_is)
    (case eq19 => k_is)
    (case eg0 => (refine' ⟨?_, ?_, ?_, ?_, ?_, ?_, ?_, ?_⟩ <;> k_is))
    (case eg1 => (refine' ⟨?_, ?_, ?_, ?_, ?_, ?_, ?_, ?_⟩ <;> k_is))
    (case eg2 => (refine' ⟨?_, ?_, ?_, ?_, ?_, ?_, ?_, ?_⟩ <;> k_is))
    (case eg3 => (refine' ⟨?_, ?_, ?_, ?_, ?_, ?_, ?_, ?_⟩ <;> k_is))
    (case ey0 => kit_is)
    (case ey1 => kit_is)
    (case ey2 => kit_is)
    (case ey3 => kit_is)
    (case ey4 => kit_is)
    (case ey5 => kit_is)
    (case ey6 => kit_is)
    (case ey7 => kit_is)
    (case ey8 => kit_is)
    (case ey9 => kit_is)
    (case ey10 => kit_is)
    (case ey11 => kit_is)
    (case ey12 => kit_is)
    (case ey13 => kit_is)
    (case ey14 => kit_is)
    (case ey15 => kit_is)
    (case ey16 => kit_is)
    (case ey17 => kit_is)
    (case ey18 => kit_is)
    (case ey19 => kit_is)
    (case ey20 => kit_is)
    (case ey21 => kit_is)
    (case ey22 => kit_is)
    (case ey23 => kit_is)
    (case ey24 => kit_is)
    (case ey25 => kit_is)
    (case ey26 => kit_is)
    (case ey27 => kit_is)
    (case ey28 => kit_is)
    (case ey29 => kit_is)
    (case ey30 => kit_is)
    (case ey31 => kit_is)
    (case ey32 => kit_is)
    (case ey33 => kit_is)
    (case ey34 => kit_is)
    (case ey35 => kit_is)
    (case ey36 => kit_is)
    (case ey37 => kit_is)
    (case ey38 => kit_is)
    (case ey39 => kit_is)
    (case a0 => k_is)
    (case l0 => k_is)
    (case c0 => k_is)
    (case k0 => k_is)
    (case a1 => k_is)
    (case l1 => k_is)
    (case c1 => k_is)
    (case k1 => k_is)
    (case a2 => k_is)
    (case l2 => k_is)
    (case c2 => k_is)
    (case k2 => k_is)
    (case a3 => k_is)
    (case l3 => k_is)
    (case c3 => k_is)
    (case k3 => k_is)
    (case a4 => k_is)
    (case l4 => k_is)
    (case c4 => k_is)
    (case k4 => k_is)
    (case a5 => k_is)
    (case l5 => k_is)
    (case c5 => k_is)
    (case k5 => k_is)
    (case a6 => k_is)
    (case l6 => k_is)
    (case c6 => k_is)
    (case k6 => k_is)
    (case a7 => k_is)
    (case l7 => k_is)
    (case c7 => k_is)
    (case k7 => k_is)
    (case a8 => k_is)
    (case l8 => k_is)
    (case c8 => k_is)
    (case k8 => k_is)
    (case a9 => k_is)
    (case l9 => k_is)
    (case c9 => k_is)
    (case k9 => k_is)
    (case a10 => k_is)
    (case l10 => k_is)
    (case c10 => k_is)
    (case k10 => k_is)
    (case a11 => k_is)
    (case l11 => k_is)
    (case c11 => k_is)
    (case k11 => k_is)
    (case a12 => k_is)
    (case l12 => k_is)
    (case c12 => k_is)
    (case k12 => k_is)
    (case a13 => k_is)
    (case l13 => k_is)
    (case c13 => k_is)
    (case k13 => k_is)
    (case a14 => k_is)
    (case l14 => k_is)
    (case c14 => k_is)
    (case k14 => k_is)
    (case a15 => k_is)
    (case l15 => k_is)
    (case c15 => k_is)
    (case k15 => k_is)
    (case a16 => k_is)
    (case l16 => k_is)
    (case c16 => k_is)
    (case k16 => k_is)
    (case a17 => k_is)
    (case l17 => k_is)
    (case c17 => k_is)
    (case k17 => k_is)
    (case a18 => k_is)
    (case l18 => k_is)
    (case c18 => k_is)
    (case k18 => k_is)
    (case a19 => k_is)
    (case l19 => k_is)
    (case c19 => k_is)
    (case k19 => k_is)
    (case a20 => k_is)
    (case l20 => k_is)
    (case c20 => k_is)
    (case k20 => k_is)
    (case a21 => k_is)
    (case l21 => k_is)
    (case c21 => k_is)
    (case k21 => k_is)
    (case a22 => k_is)
    (case l22 => k_is)
    (case c22 => k_is)
    (case k22 => k_is)
    (case a23 => k_is)
    (case l23 => k_is)
    (case c23 => k_is)
    (case k23 => k_is)
    (case a24 => k_is)
    (case l24 => k_is)
    (case c24 => k_is)
    (case k24 => k_is)
    (case a25 => k_is)
    (case l25 => k_is)
    (case c25 => k_is)
    (case k25 => k_is)
    (case a26 => k_is)
    (case l26 => k_is)
    (case c26 => k_is)
    (case k26 => k_is)
    (case a27 => k_is)
    (case l27 => k_is)
    (case c27 => k_is)
    (case k27 => k_is)
    (case a28 => k_is)
    (case l28 => k_is)
    (case c28 => k_is)
    (case k28 => k_is)
    (case a29 => k_is)
    (case l29 => k_is)
    (case c29 => k_is)
    (case k29 => k_is)
    (case a30 => k_is)
    (case l30 => k_is)
    (case c30 => k_is)
    (case k30 => k_is)
    (case a31 => k_is)
    (case l31 => k_is)
    (case c31 => k_is)
    (case k31 => k_is)
    (case a32 => k_is)
    (case l32 => k_is)
    (case c32 => k_is)
    (case k32 => k_is)
    (case a33 => k_is)
    (case l33 => k_is)
    (case c33 => k_is)
    (case k33 => k_is)
    (case a34 => k_is)
    (case l34 => k_is)
    (case c34 => k_is)
    (case k34 => k_is)
    (case a35 => k_is)
    (case l35 => k_is)
    (case c35 => k_is)
    (case k35 => k_is)
    (case a36 => k_is)
    (case l36 => k_is)
    (case c36 => k_is)
    (case k36 => k_is)
    (case a37 => k_is)
    (case l37 => k_is)
    (case c37 => k_is)
    (case k37 => k_is)
    (case a38 => k_is)
    (case l38 => k_is)
    (case c38 => k_is)
    (case k38 => k_is)
    (case a39 => k_is)
    (case l39 => k_is)
    (case c39 => k_is)
    (case k39 => k_is)

import PyProof.Rows.All
import Wide.All
import OpenK.AllK
import Wide.FinOn
import HandS.ForMost
import HandS.Evl
import HandS.IsInst
import HandS.Walk
import HandS.Zip
import HandS.TupAny
import HandS.More
import HandS.Set
import HandS.SetFor
import HandS.SetKeys
import HandS.SortInts
import PyProof.Rows.SortShellAny
import HandS.Conv
import HandS.Exc
import HandS.ExcOwn
import HandS.WordsExc
import HandS.TryMany
import HandS.TryOnly
import HandS.ExcIs
import HandS.HotCalls
import HandS.AnyAll
import HandS.Nested
import HandS.JoinGen
import HandS.RevRange
import KE.GoesMore
import HandS.Words
import HandS.EndTab
import HandS.EndOwn
import PyProof.Walk
import PyProof.WalkLemmas
import PyProof.MeetsSeq
import PyProof.SeqWrite
import PyProof.RulesMatch
import PyProof.RulesMatchSeq
import PyProof.Rows.MatchSeqLen
import PyProof.P3Eq
import HandS.Dict
import KE.KMinKey
import KE.KLam
import HandS.Iter
import HandS.Rev
import HandS.RevTup
import PyProof.ListRange
import PyProof.ListNew
import KE.RegKIsAll
import PySem.Challenge.RW_formlines_k09_whole_choices
set_option Elab.async false
set_option linter.all false
set_option maxRecDepth 100000
set_option maxHeartbeats 40000000
namespace Qa
open PySem PySem.Spec PyProof.Rows L2

/-- a def that can be called by its name -/
def Cal (P : Program) (w : World) (K : PySem.W.Frag) (mg : Str → Option Value) (base : Heap) (x : Str) (k : Nat) (ps : List Str) (sp : Sp) : Prop :=
  ∃ f fd, FnOk P w K mg base CX0 k f fd ps sp ∧ mg x = some (.ref f) ∧ PySem.W.keepIn K (.ref f) = true ∧ Binds K fd ps [] ∧ ∃ oc od osl, K.lookup f = some ⟨oc, od, .func fd, osl⟩
def tCal (sp : Sp) (t : TA) : TE := fun σ H Q => t σ H fun vs H1 => sp vs H1 Q E0
theorem pe_cal {X : Cx} {x : Str} {k : Nat} {ps : List Str} {sp : Sp} {e : Expr} {es : List Expr} {t : TA} {p pos : Pos} (c : Cal X.prog X.w X.K X.mg X.base x k ps sp) (hr : Room k X.A) (ha : PA X (e :: es) t) (hg : Gl X x := by rfl)
    (hdb : (x == ("__debug__" : Str)) = false := by decide) (he : starEach (e :: es) X.env = (false, eval e X.env) :: starEach es X.env := by rfl) (hpl : (backTo pos (starEach es X.env)).any (·.1) = false := by rfl) :
    PE X (.Call (.Name x p) (e :: es) [] pos) (tCal sp t) := by
  obtain ⟨f, fd, F, hm, hk, hb, _⟩ := c
  have h := pe_call (p := p) (pos := pos) F hr hg hm hk hb Paired.nil (pass0 (X := X)) ha hdb he hpl
  have e : tCall sp [] E0 t = tCal sp t := by
    funext σ H Q
    show (t σ H fun vs H1 => sp (vs ++ []) H1 Q E0) = t σ H fun vs H1 => sp vs H1 Q E0
    congr 1
    funext vs H1
    rw [List.append_nil]
  rw [e] at h
  exact h
theorem pe_cal0 {X : Cx} {x : Str} {k : Nat} {ps : List Str} {sp : Sp} {p pos : Pos} (c : Cal X.prog X.w X.K X.mg X.base x k ps sp) (hr : Room k X.A) (hg : Gl X x := by rfl)
    (hdb : (x == ("__debug__" : Str)) = false := by decide) : PE X (.Call (.Name x p) [] [] pos) (tCal sp tNil) := by
  obtain ⟨f, fd, F, hm, hk, hb, _⟩ := c
  exact pe_call0 (p := p) (pos := pos) F hr hg hm hk hb Paired.nil (pass0 (X := X)) hdb

/-! promises by the number of arguments -/
def sp1 (f : V → Hp → VK → Prop) : Sp := fun vs H Q _ => ∃ a, vs = [a] ∧ f a H Q
def sp2 (f : V → V → Hp → VK → Prop) : Sp := fun vs H Q _ => ∃ a b, vs = [a, b] ∧ f a b H Q
def sp3 (f : V → V → V → Hp → VK → Prop) : Sp := fun vs H Q _ => ∃ a b c, vs = [a, b, c] ∧ f a b c H Q
def sp4 (f : V → V → V → V → Hp → VK → Prop) : Sp := fun vs H Q _ => ∃ a b c d, vs = [a, b, c, d] ∧ f a b c d H Q
def sp5 (f : V → V → V → V → V → Hp → VK → Prop) : Sp := fun vs H Q _ => ∃ a b c d e, vs = [a, b, c, d, e] ∧ f a b c d e H Q
theorem rd_sp1 {f : V → Hp → VK → Prop} {a : V} {H : Hp} {Q : VK} {E : XK} (h : f a H Q) : sp1 f [a] H Q E := ⟨a, rfl, h⟩
theorem rd_sp2 {f : V → V → Hp → VK → Prop} {a b : V} {H : Hp} {Q : VK} {E : XK} (h : f a b H Q) : sp2 f [a, b] H Q E := ⟨a, b, rfl, h⟩
theorem rd_sp3 {f : V → V → V → Hp → VK → Prop} {a b c : V} {H : Hp} {Q : VK} {E : XK} (h : f a b c H Q) : sp3 f [a, b, c] H Q E := ⟨a, b, c, rfl, h⟩
theorem rd_sp4 {f : V → V → V → V → Hp → VK → Prop} {a b c d : V} {H : Hp} {Q : VK} {E : XK} (h : f a b c d H Q) : sp4 f [a, b, c, d] H Q E := ⟨a, b, c, d, rfl, h⟩
theorem rd_sp5 {f : V → V → V → V → V → Hp → VK → Prop} {a b c d e : V} {H : Hp} {Q : VK} {E : XK} (h : f a b c d e H Q) : sp5 f [a, b, c, d, e] H Q E := ⟨a, b, c, d, e, rfl, h⟩
section
variable {P : Program} {w : World} {K : PySem.W.Frag} {mg : Str → Option Value} {base : Heap} {x : Str} {st : Stmt} {N ps : List Str} {k : Nat}
def FunAt (K : PySem.W.Frag) (mg : Str → Option Value) (x : Str) (st : Stmt) : Prop := ∃ f fd, Fun K x x st f fd ∧ mg x = some (.ref f)
def BindOk (x : Str) (st : Stmt) (ps : List Str) : Prop := ∀ (kV doc pm : Value) (an : Option Addr) (cdv ct : Value) (us : List Value), us.length = ps.length → bindArgs (PySem.W.fnOf x x (defArgs st) (defBody st) (defScope st) .none kV doc pm an cdv ct) ⟨us, []⟩ = pure (ps.zip us)
theorem cal_mk {sp : Sp} (F : FunAt K mg x st) (S : FnScope N ps (defScope st)) (hb : BindOk x st ps) (len : ∀ vs H Q E, sp vs H Q E → vs.length = ps.length)
    (hbody : ∀ (f : Addr) (cdv : Value) (A : Around) (outer : List Env) (s : Shared) (H : Hp) (vs : List V) (Q : VK) (E : XK), Room k (A.deeper (envOfC x (defScope st) s.heap.objs.size f cdv)) → sp vs H Q E →
      ∃ t, PSs (cxOf CX0 P w K mg base N x (defScope st) f cdv A outer s H E).nox (defBody st) t ∧ t { nx := fun _ H' => Q .non H', rt := Q } (start N vs) H) : Cal P w K mg base x (k + 1) ps sp := by
  obtain ⟨f, fd, F, hm⟩ := F
  refine ⟨f, fd, F.ok S len (hbody f), hm, F.kp, F.binds hb, ?_⟩
  obtain ⟨oc, od, kV, doc, pm, an, cdv, ct, osl, _, l, _⟩ := F.ex
  exact ⟨oc, od, osl, l⟩
theorem cal1 {f : V → Hp → VK → Prop} (F : FunAt K mg x st) (S : FnScope N ps (defScope st)) (hb : BindOk x st ps) (hn : ps.length = 1)
    (hbody : ∀ (g : Addr) (cdv : Value) (A : Around) (outer : List Env) (s : Shared) (H : Hp) (a : V) (Q : VK) (E : XK), Room k (A.deeper (envOfC x (defScope st) s.heap.objs.size g cdv)) → f a H Q →
      ∃ t, PSs (cxOf CX0 P w K mg base N x (defScope st) g cdv A outer s H E).nox (defBody st) t ∧ t { nx := fun _ H' => Q .non H', rt := Q } (start N [a]) H) : Cal P w K mg base x (k + 1) ps (sp1 f) :=
  cal_mk F S hb (fun vs H Q E h => by obtain ⟨a, rfl, _⟩ := h; exact hn.symm) fun g cdv A outer s H vs Q E hr h => by obtain ⟨a, rfl, h⟩ := h; exact hbody g cdv A outer s H a Q E hr h
theorem cal2 {f : V → V → Hp → VK → Prop} (F : FunAt K mg x st) (S : FnScope N ps (defScope st)) (hb : BindOk x st ps) (hn : ps.length = 2)
    (hbody : ∀ (g : Addr) (cdv : Value) (A : Around) (outer : List Env) (s : Shared) (H : Hp) (a b : V) (Q : VK) (E : XK), Room k (A.deeper (envOfC x (defScope st) s.heap.objs.size g cdv)) → f a b H Q →
      ∃ t, PSs (cxOf CX0 P w K mg base N x (defScope st) g cdv A outer s H E).nox (defBody st) t ∧ t { nx := fun _ H' => Q .non H', rt := Q } (start N [a, b]) H) : Cal P w K mg base x (k + 1) ps (sp2 f) :=
  cal_mk F S hb (fun vs H Q E h => by obtain ⟨a, b, rfl, _⟩ := h; exact hn.symm) fun g cdv A outer s H vs Q E hr h => by obtain ⟨a, b, rfl, h⟩ := h; exact hbody g cdv A outer s H a b Q E hr h
theorem cal3 {f : V → V → V → Hp → VK → Prop} (F : FunAt K mg x st) (S : FnScope N ps (defScope st)) (hb : BindOk x st ps) (hn : ps.length = 3)
    (hbody : ∀ (g : Addr) (cdv : Value) (A : Around) (outer : List Env) (s : Shared) (H : Hp) (a b c : V) (Q : VK) (E : XK), Room k (A.deeper (envOfC x (defScope st) s.heap.objs.size g cdv)) → f a b c H Q →
      ∃ t, PSs (cxOf CX0 P w K mg base N x (defScope st) g cdv A outer s H E).nox (defBody st) t ∧ t { nx := fun _ H' => Q .non H', rt := Q } (start N [a, b, c]) H) : Cal P w K mg base x (k + 1) ps (sp3 f) :=
  cal_mk F S hb (fun vs H Q E h => by obtain ⟨a, b, c, rfl, _⟩ := h; exact hn.symm) fun g cdv A outer s H vs Q E hr h => by obtain ⟨a, b, c, rfl, h⟩ := h; exact hbody g cdv A outer s H a b c Q E hr h
theorem cal4 {f : V → V → V → V → Hp → VK → Prop} (F : FunAt K mg x st) (S : FnScope N ps (defScope st)) (hb : BindOk x st ps) (hn : ps.length = 4)
    (hbody : ∀ (g : Addr) (cdv : Value) (A : Around) (outer : List Env) (s : Shared) (H : Hp) (a b c d : V) (Q : VK) (E : XK), Room k (A.deeper (envOfC x (defScope st) s.heap.objs.size g cdv)) → f a b c d H Q →
      ∃ t, PSs (cxOf CX0 P w K mg base N x (defScope st) g cdv A outer s H E).nox (defBody st) t ∧ t { nx := fun _ H' => Q .non H', rt := Q } (start N [a, b, c, d]) H) : Cal P w K mg base x (k + 1) ps (sp4 f) :=
  cal_mk F S hb (fun vs H Q E h => by obtain ⟨a, b, c, d, rfl, _⟩ := h; exact hn.symm) fun g cdv A outer s H vs Q E hr h => by obtain ⟨a, b, c, d, rfl, h⟩ := h; exact hbody g cdv A outer s H a b c d Q E hr h
theorem cal5 {f : V → V → V → V → V → Hp → VK → Prop} (F : FunAt K mg x st) (S : FnScope N ps (defScope st)) (hb : BindOk x st ps) (hn : ps.length = 5)
    (hbody : ∀ (g : Addr) (cdv : Value) (A : Around) (outer : List Env) (s : Shared) (H : Hp) (a b c d e : V) (Q : VK) (E : XK), Room k (A.deeper (envOfC x (defScope st) s.heap.objs.size g cdv)) → f a b c d e H Q →
      ∃ t, PSs (cxOf CX0 P w K mg base N x (defScope st) g cdv A outer s H E).nox (defBody st) t ∧ t { nx := fun _ H' => Q .non H', rt := Q } (start N [a, b, c, d, e]) H) : Cal P w K mg base x (k + 1) ps (sp5 f) :=
  cal_mk F S hb (fun vs H Q E h => by obtain ⟨a, b, c, d, e, rfl, _⟩ := h; exact hn.symm) fun g cdv A outer s H vs Q E hr h => by obtain ⟨a, b, c, d, e, rfl, h⟩ := h; exact hbody g cdv A outer s H a b c d e Q E hr h
theorem Cal.mono {sp : Sp} {j : Nat} (c : Cal P w K mg base x k ps sp) (h : k ≤ j) : Cal P w K mg base x j ps sp := by
  obtain ⟨f, fd, F, r⟩ := c
  exact ⟨f, fd, F.mono h, r⟩
end

/-- the law's own def, for the end -/
theorem law_fd {P : Program} {w : World} {K : PySem.W.Frag} {mg : Str → Option Value} {x : Str} {st : Stmt} {p : Str} {k : Nat} {sp : Sp} {fa : Addr} {good : Heap → Prop} (F : FunAt K mg x st) (hb : BindOk x st [p]) (hfa : mg x = some (.ref fa))
    (h : ∀ base : Heap, good base → Cal P w K mg base x k [p] sp) :
    ∃ fd : FuncData, (∀ (s : Shared) (v : Value), BindsTo s fd ⟨[v], []⟩ [(p, v)]) ∧ ∀ base : Heap, good base → FnOk P w K mg base CX0 k fa fd [p] sp := by
  obtain ⟨f, fd, F, hm⟩ := F
  rw [hfa] at hm
  cases hm
  obtain ⟨oc, od, kV, doc, pm, an, cdv, ct, osl, rfl, l, _⟩ := F.ex
  refine ⟨_, fun s v => .of_eq (hb kV doc pm an cdv ct [v] rfl), fun base g => ?_⟩
  obtain ⟨f', fd', F', hm', _, _, oc', od', osl', l'⟩ := h base g
  rw [hfa] at hm'
  cases hm'
  rw [l] at l'
  cases l'
  exact F'

/-! names of the module -/
theorem pe_gint {X : Cx} {x : Str} {i : Int} {pos : Pos} (hm : ∃ t, X.mg x = some (.int i t)) (hg : Gl X x := by rfl) (hd : (x == ("__debug__" : Str)) = false := by decide) : PE X (.Name x pos) (tC (.int i)) := by
  obtain ⟨t, h⟩ := hm
  exact pe_glob hg h ⟨_, rfl⟩ hd
theorem pe_gstr {X : Cx} {x : Str} {i : Str} {pos : Pos} (hm : ∃ t, X.mg x = some (.str i t)) (hg : Gl X x := by rfl) (hd : (x == ("__debug__" : Str)) = false := by decide) : PE X (.Name x pos) (tC (.str i)) := by
  obtain ⟨t, h⟩ := hm
  exact pe_glob hg h ⟨_, rfl⟩ hd
theorem pe_ty {X : Cx} {x : Str} {n : String} {pos : Pos} (hm : X.mg x = none) (hv : bootBuiltins x = some (.type n)) (hg : Gl X x := by rfl) (hn : x ≠ "__name__" := by decide) (hd : (x == ("__debug__" : Str)) = false := by decide) : PE X (.Name x pos) (tC (.ty n)) :=
  pe_bltn hg hm hv rfl hn hd

/-! operators, all kinds -/
abbrev rAddS0 : R2 := fun x y H Q => ∃ i j, x = .str i ∧ y = .str j ∧ i.length + j.length ≤ sizeLine ∧ Q (.str (i ++ j)) H
def rAddA (K : PySem.W.Frag) : R2 := fun x y H Q => (rI0 (fun i j => .int (i + j)) x y H Q ∨ rAddS0 x y H Q) ∨ (rCatA K x y H Q ∨ rCat x y H Q)
theorem op_addA {X : Cx} : OpR X (binaryOp .Add) (rAddA X.K) := (op_add.or op_add_str).or (op_catA.or op_cat)
def rEqA (K : PySem.W.Frag) : R2 := fun x y H Q => rEq x y H Q ∨ rEqD K x y H Q
def rNeA (K : PySem.W.Frag) : R2 := fun x y H Q => rNe x y H Q ∨ rNeD K x y H Q
theorem op_eqA {X : Cx} {k : Nat} (hr : Room k X.A) : OpR X (compareOp .Eq) (rEqA X.K) := op_eq.or (op_eqD hr.units)
theorem op_neA {X : Cx} {k : Nat} (hr : Room k X.A) : OpR X (compareOp .NotEq) (rNeA X.K) := op_ne.or (op_neD hr.units)
def rLenA (K : PySem.W.Frag) : List V → Hp → VK → Prop := fun xs H Q => ∃ x n, xs = [x] ∧ LenV K x H n ∧ Q (.int n) H
theorem cr_lenA {X : Cx} : CallR X (.builtin "len") (rLenA X.K) := call_len
def rTupOf (K : PySem.W.Frag) : List V → Hp → VK → Prop := fun xs H Q => ∃ p ys, xs = [.ref p] ∧ ((SqL K H p ys ∧ ∀ l, H l = none → Q (.ref l) (upd H l (.tup ys))) ∨ (SqT K H p ys ∧ Q (.ref p) H))
theorem cr_tupOf {X : Cx} : CallR X (.type "tuple") (rTupOf X.K) := call_tuple_of
def rLstOf (K : PySem.W.Frag) : List V → Hp → VK → Prop := fun xs H Q => ∃ p ys, xs = [.ref p] ∧ (SqL K H p ys ∨ SqT K H p ys) ∧ ∀ l, H l = none → Q (.ref l) (upd H l (.lst ys))
theorem cr_lstOf {X : Cx} : CallR X (.type "list") (rLstOf X.K) := call_list_of
def rInt1 : List V → Hp → VK → Prop := fun xs H Q => (∃ i, xs = [.int i] ∧ Q (.int i) H) ∨ ∃ k, xs = [.bl k] ∧ Q (.int (if k then 1 else 0)) H
theorem cr_int1 {X : Cx} : CallR X (.type "int") rInt1 := call_int1
def rMin2 : List V → Hp → VK → Prop := fun xs H Q => ∃ i j, xs = [.int i, .int j] ∧ Q (.int (if j < i then j else i)) H
theorem cr_min2 {X : Cx} (hc : X.calm = true) : CallR X (.builtin "min") rMin2 := call_min2 hc
def rMax2 : List V → Hp → VK → Prop := fun xs H Q => ∃ i j, xs = [.int i, .int j] ∧ Q (.int (if j > i then j else i)) H
theorem cr_max2 {X : Cx} (hc : X.calm = true) : CallR X (.builtin "max") rMax2 := call_max2 hc

/-! walked things, all kinds -/
theorem pi_or {X : Cx} {tg e : Expr} {a b : TI} (h : PI X tg e a) (h' : PI X tg e b) : PI X tg e (fun σ H R => a σ H R ∨ b σ H R) :=
  ⟨fun pins s σ H R I hw => hw.elim (fun z => h.run pins s σ H R I z) fun z => h'.run pins s σ H R I z⟩
def iSeq (K : PySem.W.Frag) (t : TE) : TI := fun σ H R => t σ H fun x H1 => ((∃ a, x = .ref a ∧ (∃ xs, SqL K H1 a xs) ∧ R (Itl K a) H1) ∨ (∃ a, x = .ref a ∧ (∃ xs, SqT K H1 a xs) ∧ R (Itt K a) H1)) ∨ ∃ z, x = .str z ∧ R (Its z) H1
theorem pi_seq {X : Cx} {tg e : Expr} {te : TE} (he : PE X e te) : PI X tg e (iSeq X.K te) := by
  refine ⟨fun pins s σ H R I h => ?_⟩
  refine thn (he.run pins s σ H _ I h) fun v s1 ⟨x, H1, I1, r1, q1⟩ => ?_
  rcases q1 with (q | q) | q
  · obtain ⟨a, e, ⟨xs, hq⟩, q⟩ := q
    subst e
    cases r1
    obtain ⟨its, rv, p, hz⟩ := I1.list hq
    refine wpAny_pyIter_list p.isList ?_
    refine ⟨s1.heap.objs.size, [s1.heap.objs.size], _, _, H1, rfl, I1.kept (t' := s1.toks) fun b o e => Heap.get?_push_of_some _ e, turn_list a _, ⟨_, Heap.get?_push_size _ rfl, rfl, rfl⟩, fun b hb => ?_, q⟩
    have e : b = s1.heap.objs.size := by simpa using hb
    subst e
    exact I1.fpOk (Nat.le_refl _) (I1.hok.fresh (Nat.le_refl _))
  · obtain ⟨a, e, ⟨xs, hq⟩, q⟩ := q
    subst e
    cases r1
    obtain ⟨its, rv, p, hz⟩ := I1.tuple hq
    refine wpAny_pyIter_tuple (show s1.heap.IsTuple a its.toArray from p) ?_
    refine ⟨s1.heap.objs.size, [s1.heap.objs.size], _, _, H1, rfl, I1.kept (t' := s1.toks) fun b o e => Heap.get?_push_of_some _ e, turn_tuple a _, ⟨_, Heap.get?_push_size _ rfl, rfl, rfl⟩, fun b hb => ?_, q⟩
    have e : b = s1.heap.objs.size := by simpa using hb
    subst e
    exact I1.fpOk (Nat.le_refl _) (I1.hok.fresh (Nat.le_refl _))
  · obtain ⟨z, e, q⟩ := q
    subst e
    obtain ⟨t, rfl⟩ := r1
    cases ha : z.cps.all (· < 128)
    · exact wpAny_pyIter_wide ha (pi_one (tk := s1.toks) I1 _ (turn_str _ z t "str_iterator" (.inr rfl)) ⟨_, Heap.get?_push_size _ rfl, rfl, rfl⟩ q)
    · exact wpAny_pyIter_ascii ha (pi_one (tk := s1.toks) I1 _ (turn_str _ z t "str_ascii_iterator" (.inl rfl)) ⟨_, Heap.get?_push_size _ rfl, rfl, rfl⟩ q)

/-! slices, all kinds -/
def rSlX (K : PySem.W.Frag) : V → Option Int → Option Int → Hp → VK → Prop := fun x lo hi H Q => (rSlL K x lo hi H Q ∨ rSlA K x lo hi H Q) ∨ rSlS x lo hi H Q
theorem sl_any {X : Cx} : SlR X (rSlX X.K) := (sl_list.or sl_tupA).or sl_str

/-! ### data that stays: None, truths, ints, texts, tuples; of a list only that it is one -/
inductive T where
  | non | bl (b : Bool) | int (i : Int) | str (s : Str) | tup (ts : List T) | lst
mutual
inductive Tv (K : PySem.W.Frag) (H : Hp) : V → T → Prop
  | non : Tv K H .non .non
  | bl (b : Bool) : Tv K H (.bl b) (.bl b)
  | int (i : Int) : Tv K H (.int i) (.int i)
  | str (s : Str) (h : s.length ≤ 1000) : Tv K H (.str s) (.str s)
  | tup {a : Addr} {xs : List V} {ts : List T} : SqT K H a xs → TvA K H xs ts → Tv K H (.ref a) (.tup ts)
  | lst {a : Addr} {xs : List V} : SqL K H a xs → Tv K H (.ref a) .lst
inductive TvA (K : PySem.W.Frag) (H : Hp) : List V → List T → Prop
  | nil : TvA K H [] []
  | cons {v : V} {vs : List V} {t : T} {ts : List T} : Tv K H v t → TvA K H vs ts → TvA K H (v :: vs) (t :: ts)
end
/-- tuples stay, a list stays one -/
structure Tame (H H' : Hp) : Prop where
  tup : ∀ a xs, Rd H a (.tup xs) → Rd H' a (.tup xs)
  lst : ∀ a xs, Rd H a (.lst xs) → ∃ ys, Rd H' a (.lst ys)
theorem Tame.refl (H : Hp) : Tame H H := ⟨fun _ _ h => h, fun _ xs h => ⟨xs, h⟩⟩
theorem Tame.trans {H H1 H2 : Hp} (a : Tame H H1) (b : Tame H1 H2) : Tame H H2 :=
  ⟨fun x xs h => b.tup x xs (a.tup x xs h), fun x xs h => by obtain ⟨ys, h⟩ := a.lst x xs h; exact b.lst x ys h⟩
abbrev Ex := Evl.Ex
theorem Tame.ex {H H' : Hp} (e : Ex H H') : Tame H H' := ⟨fun _ _ h => Evl.ex_rd e h, fun _ xs h => ⟨xs, Evl.ex_rd e h⟩⟩
theorem Tame.sqT {K : PySem.W.Frag} {H H' : Hp} {a : Addr} {xs : List V} (e : Tame H H') (h : SqT K H a xs) : SqT K H' a xs := h.elim (fun z => .inl (e.tup _ _ z)) .inr
theorem Tame.sqL {K : PySem.W.Frag} {H H' : Hp} {a : Addr} {xs : List V} (e : Tame H H') (h : SqL K H a xs) : ∃ ys, SqL K H' a ys :=
  h.elim (fun z => by obtain ⟨ys, q⟩ := e.lst _ _ z; exact ⟨ys, .inl q⟩) fun z => ⟨xs, .inr z⟩
theorem Tame.upd {H : Hp} {a : Addr} {xs ys : List V} (h : H a = some (.lst xs)) : Tame H (upd H a (.lst ys)) := by
  refine ⟨fun b zs q => ?_, fun b zs q => ?_⟩
  · have ne : b ≠ a := by
      rintro rfl
      rcases q with q | ⟨o, q⟩
      · rw [h] at q; cases q
      · rw [h] at q; cases q
    rcases q with q | ⟨o, q⟩
    · exact .inl (by rw [upd_ne ne]; exact q)
    · exact .inr ⟨o, by rw [upd_ne ne]; exact q⟩
  · by_cases ne : b = a
    · subst ne
      exact ⟨ys, .inl upd_same⟩
    · rcases q with q | ⟨o, q⟩
      · exact ⟨zs, .inl (by rw [upd_ne ne]; exact q)⟩
      · exact ⟨zs, .inr ⟨o, by rw [upd_ne ne]; exact q⟩⟩
section
variable {K : PySem.W.Frag} {H H' : Hp}
mutual
theorem Tame.tv (e : Tame H H') : ∀ {v : V} {t : T}, Tv K H v t → Tv K H' v t
  | _, _, .non => .non
  | _, _, .bl b => .bl b
  | _, _, .int i => .int i
  | _, _, .str s h => .str s h
  | _, _, .tup h a => .tup (e.sqT h) (Tame.tvA e a)
  | _, _, .lst h => by obtain ⟨ys, q⟩ := e.sqL h; exact .lst q
theorem Tame.tvA (e : Tame H H') : ∀ {v : List V} {t : List T}, TvA K H v t → TvA K H' v t
  | _, _, .nil => .nil
  | _, _, .cons h a => .cons (Tame.tv e h) (Tame.tvA e a)
end
theorem TvA.len : ∀ {vs : List V} {ts : List T}, TvA K H vs ts → vs.length = ts.length
  | _, _, .nil => rfl
  | _, _, .cons _ a => congrArg (· + 1) a.len
theorem TvA.get : ∀ {vs : List V} {ts : List T} {i : Nat} {t : T}, TvA K H vs ts → ts[i]? = some t → ∃ v, vs[i]? = some v ∧ Tv K H v t
  | _, _, i, _, .nil, h => by simp at h
  | _, _, 0, _, .cons h _, e => by cases (Option.some.inj e); exact ⟨_, rfl, h⟩
  | _, _, i + 1, _, .cons _ a, e => a.get (i := i) e
theorem TvA.getV : ∀ {vs : List V} {ts : List T} {i : Nat} {v : V}, TvA K H vs ts → vs[i]? = some v → ∃ t, ts[i]? = some t ∧ Tv K H v t
  | _, _, i, _, .nil, h => by simp at h
  | _, _, 0, _, .cons h _, e => by cases (Option.some.inj e); exact ⟨_, rfl, h⟩
  | _, _, i + 1, _, .cons _ a, e => a.getV (i := i) e
theorem TvA.append : ∀ {xs ys : List V} {ts us : List T}, TvA K H xs ts → TvA K H ys us → TvA K H (xs ++ ys) (ts ++ us)
  | _, _, _, _, .nil, b => b
  | _, _, _, _, .cons h a, b => .cons h (a.append b)
theorem TvA.take : ∀ {xs : List V} {ts : List T} (n : Nat), TvA K H xs ts → TvA K H (xs.take n) (ts.take n)
  | _, _, 0, _ => .nil
  | _, _, n + 1, .nil => .nil
  | _, _, n + 1, .cons h a => .cons h (a.take n)
theorem TvA.drop : ∀ {xs : List V} {ts : List T} (n : Nat), TvA K H xs ts → TvA K H (xs.drop n) (ts.drop n)
  | _, _, 0, a => a
  | _, _, n + 1, .nil => .nil
  | _, _, n + 1, .cons _ a => a.drop n
def cutT (xs : List T) (lo hi : Option Int) : List T := (xs.drop (HT.sIx xs.length 0 lo)).take (HT.sIx xs.length xs.length hi - HT.sIx xs.length 0 lo)
theorem TvA.cut {xs : List V} {ts : List T} (h : TvA K H xs ts) (lo hi : Option Int) : TvA K H (cutV xs lo hi) (cutT ts lo hi) := by
  unfold cutV cutT
  rw [h.len]
  exact (h.drop _).take _
end
theorem TvA.one {K : PySem.W.Frag} {H : Hp} {v : V} {t : T} (h : Tv K H v t) : TvA K H [v] [t] := .cons h .nil
theorem Tv.tupE {K : PySem.W.Frag} {H : Hp} {v : V} {ts : List T} (h : Tv K H v (.tup ts)) : ∃ a xs, v = .ref a ∧ SqT K H a xs ∧ TvA K H xs ts := by
  cases h with | tup h a => exact ⟨_, _, rfl, h, a⟩
theorem TvA.consE {K : PySem.W.Frag} {H : Hp} {vs : List V} {t : T} {ts : List T} (h : TvA K H vs (t :: ts)) : ∃ x xs, vs = x :: xs ∧ Tv K H x t ∧ TvA K H xs ts := by
  cases h with | cons h a => exact ⟨_, _, rfl, h, a⟩
theorem TvA.nilE {K : PySem.W.Frag} {H : Hp} {vs : List V} (h : TvA K H vs []) : vs = [] := by cases h; rfl
theorem Tv.intE {K : PySem.W.Frag} {H : Hp} {v : V} {i : Int} (h : Tv K H v (.int i)) : v = .int i := by cases h; rfl
theorem Tv.strE {K : PySem.W.Frag} {H : Hp} {v : V} {i : Str} (h : Tv K H v (.str i)) : v = .str i := by cases h; rfl
theorem Tv.blE {K : PySem.W.Frag} {H : Hp} {v : V} {i : Bool} (h : Tv K H v (.bl i)) : v = .bl i := by cases h; rfl
theorem Tv.nonE {K : PySem.W.Frag} {H : Hp} {v : V} (h : Tv K H v .non) : v = .non := by cases h; rfl

theorem TvA.mem {K : PySem.W.Frag} {H : Hp} {vs : List V} {ts : List T} {v : V} (h : TvA K H vs ts) (m : v ∈ vs) : ∃ t, t ∈ ts ∧ Tv K H v t := by
  obtain ⟨i, e⟩ := List.getElem?_of_mem m
  obtain ⟨t, e2, hv⟩ := h.getV e
  exact ⟨t, List.mem_of_getElem? e2, hv⟩
/-! isinstance by kind -/
def tyT : T → String
  | .non => "NoneType" | .bl _ => "bool" | .int _ => "int" | .str _ => "str" | .tup _ => "tuple" | .lst => "list"
theorem Tv.ty {K : PySem.W.Frag} {H : Hp} {v : V} {t : T} (h : Tv K H v t) : TyX K H v (.type (tyT t)) := by
  cases h with
  | non => exact .base .non
  | bl b => exact .base (.bl b)
  | int i => exact .base (.int i)
  | str i _ => exact .base (.str i)
  | tup h _ =>
    rcases h with (h | ⟨o, h⟩) | ⟨o, its, n, h, c, _⟩
    · exact .base (.tup h)
    · exact .fTuple h
    · exact .kTuple h c
  | lst h =>
    rcases h with (h | ⟨o, h⟩) | ⟨o, its, n, h, c, _⟩
    · exact .base (.lst h)
    · exact .base (.frz h)
    · exact .kList h c
def isS (s n : String) : Bool := n == s || (s == "bool" && n == "int")
def isT (t : T) (n : String) : Bool := isS (tyT t) n
theorem kitS : ∀ s ∈ ["NoneType", "bool", "int", "str", "tuple", "list"], ∀ n ∈ ["int", "bool", "str", "tuple", "list"], kitB s n = some (isS s n) := by decide +kernel
theorem isT_kit {K : PySem.W.Frag} (t : T) {n : String} (hn : n ∈ ["int", "bool", "str", "tuple", "list"]) : PySem.W.kitOne K (.type (tyT t)) (.type n) = some (isT t n) := by
  refine kit_ty (kitS _ ?_ n hn)
  cases t <;> simp [tyT]
def isInt : T → Bool | .int _ => true | .bl _ => true | _ => false
def isBool : T → Bool | .bl _ => true | _ => false
def isStr : T → Bool | .str _ => true | _ => false
def isTup : T → Bool | .tup _ => true | _ => false
def isLst : T → Bool | .lst => true | _ => false
section
variable {K : PySem.W.Frag} {H : Hp} {Q : VK} {v : V} {t : T}
theorem rd_isi {n : String} {b : Bool} (h : Tv K H v t) (hn : n ∈ ["int", "bool", "str", "tuple", "list"]) (e : isT t n = b) (q : Q (.bl b) H) : rIsi K [v, .ty n] H Q :=
  ⟨v, .ty n, _, _, _, rfl, .ty n, h.ty, isT_kit t hn, by rw [e]; exact q⟩
theorem rd_isInt (h : Tv K H v t) (q : Q (.bl (isInt t)) H) : rIsi K [v, .ty "int"] H Q := rd_isi h (by decide) (by cases t <;> rfl) q
theorem rd_isBool (h : Tv K H v t) (q : Q (.bl (isBool t)) H) : rIsi K [v, .ty "bool"] H Q := rd_isi h (by decide) (by cases t <;> rfl) q
theorem rd_isStr (h : Tv K H v t) (q : Q (.bl (isStr t)) H) : rIsi K [v, .ty "str"] H Q := rd_isi h (by decide) (by cases t <;> rfl) q
theorem rd_isTup (h : Tv K H v t) (q : Q (.bl (isTup t)) H) : rIsi K [v, .ty "tuple"] H Q := rd_isi h (by decide) (by cases t <;> rfl) q
theorem rd_isLst (h : Tv K H v t) (q : Q (.bl (isLst t)) H) : rIsi K [v, .ty "list"] H Q := rd_isi h (by decide) (by cases t <;> rfl) q
end

/-! ### reading step by step -/
section
variable {K : PySem.W.Frag} {σ : L2.St} {H : Hp} {Q : VK} {ta tb tc te : TE} {tt tu : TT} {x y v : V} {D : Ends} {s1 s2 : TS}
theorem rd_var {i : Nat} (h : σ[i]? = some (some v)) (q : Q v H) : tVar i σ H Q := ⟨v, h, q⟩
theorem rd_c (q : Q v H) : tC v σ H Q := q
theorem rd_op {r : R2} (q : ta σ H fun x H1 => tb σ H1 fun y H2 => r x y H2 Q) : tOp r ta tb σ H Q := q
theorem rd_un {r : V → Hp → VK → Prop} (q : ta σ H fun x H1 => r x H1 Q) : tUn r ta σ H Q := q
theorem rd_cb {r : List V → Hp → VK → Prop} {t : TA} (q : t σ H fun vs H1 => r vs H1 Q) : tCB r t σ H Q := q
theorem rd_cal {sp : Sp} {t : TA} (q : t σ H fun vs H1 => sp vs H1 Q E0) : tCal sp t σ H Q := q
theorem rd_cons {t : TA} {R : List V → Hp → Prop} (q : ta σ H fun x H1 => t σ H1 fun xs H2 => R (x :: xs) H2) : tCons ta t σ H R := q
theorem rd_nil {R : List V → Hp → Prop} (q : R [] H) : tNil σ H R := q
def NewL (xs : List V) (H : Hp) (Q : VK) : Prop := xs.length ≤ sizeLine ∧ ∀ p, H p = none → Q (.ref p) (upd H p (.lst xs))
def NewT (xs : List V) (H : Hp) (Q : VK) : Prop := xs.length ≤ sizeLine ∧ ∀ p, H p = none → Q (.ref p) (upd H p (.tup xs))
theorem rd_tup {t : TA} (q : t σ H fun xs H1 => NewT xs H1 Q) : tTup t σ H Q := q
theorem rd_lst {t : TA} (q : t σ H fun xs H1 => NewL xs H1 Q) : tLst t σ H Q := q
theorem new_tup {xs : List V} (q : ∀ p H', H p = none → Ex H H' → H' p = some (.tup xs) → Q (.ref p) H') (hl : xs.length ≤ 1000 := by first | decide | assumption | simp) : NewT xs H Q :=
  ⟨Nat.le_of_lt (small1000 hl), fun p hp => q p _ hp (Evl.Ex.new hp) upd_same⟩
theorem new_lst {xs : List V} (q : ∀ p H', H p = none → Ex H H' → H' p = some (.lst xs) → Q (.ref p) H') (hl : xs.length ≤ 1000 := by first | decide | assumption | simp) : NewL xs H Q :=
  ⟨Nat.le_of_lt (small1000 hl), fun p hp => q p _ hp (Evl.Ex.new hp) upd_same⟩
theorem rd_test {R : Bool → Hp → Prop} (q : te σ H fun x H' => ∃ k, x = .bl k ∧ R k H') : tTest te σ H R := q
theorem rd_tB {R : Bool → Hp → Prop} (q : te σ H fun x H' => ∃ k, x = .bl k ∧ R k H') : tB te σ H R := q
theorem rd_bl {b : Bool} {R : Bool → Hp → Prop} (q : R b H) : ∃ k, V.bl b = .bl k ∧ R k H := ⟨b, rfl, q⟩
theorem rd_blP {b : Bool} {P : Bool → Prop} (q : P b) : ∃ k, V.bl b = .bl k ∧ P k := ⟨b, rfl, q⟩
def tTru (K : PySem.W.Frag) (ta : TE) : TT := fun σ H Q => ta σ H fun x H' => ∃ k, TruV K x H' k ∧ Q k H'
theorem pt_tru {X : Cx} {a : Expr} {ta : TE} (ha : PE X a ta) (he : ∀ whole, isTrue a X.env whole = (do let v ← whole; standAt a.pos; holding [v] (truthy v)) := by intro _; rfl) : PT X a (tTru X.K ta) := pt_truth ha he
theorem rd_tru {R : Bool → Hp → Prop} (q : ta σ H fun x H' => ∃ k, TruV K x H' k ∧ R k H') : tTru K ta σ H R := q
theorem rd_trub {b : Bool} {R : Bool → Prop} (q : R b) : ∃ k, TruV K (.bl b) H k ∧ R k := ⟨b, rfl, q⟩
theorem rd_trui {i : Int} {R : Bool → Prop} (q : R (i != 0)) : ∃ k, TruV K (.int i) H k ∧ R k := ⟨_, rfl, q⟩
theorem rd_trun {R : Bool → Prop} (q : R false) : ∃ k, TruV K .non H k ∧ R k := ⟨_, rfl, q⟩
theorem rd_truT {ts : List T} (h : Tv K H v (.tup ts)) {R : Bool → Prop} (q : R (!ts.isEmpty)) : ∃ k, TruV K v H k ∧ R k := by
  obtain ⟨a, xs, rfl, hs, ha⟩ := h.tupE
  refine ⟨_, .inr (.inl ⟨xs, hs, rfl⟩), ?_⟩
  have e : xs.isEmpty = ts.isEmpty := by cases ha <;> rfl
  rw [e]; exact q
theorem rd_truL {a : Addr} {xs : List V} (h : SqL K H a xs) {R : Bool → Prop} (q : R (!xs.isEmpty)) : ∃ k, TruV K (.ref a) H k ∧ R k := ⟨_, .inl ⟨xs, h, rfl⟩, q⟩
theorem rd_not {R : Bool → Hp → Prop} (q : tt σ H fun c H1 => R (!c) H1) : tNot tt σ H R := q
theorem rd_and {R : Bool → Hp → Prop} (q : tt σ H fun c H1 => if c = true then tu σ H1 R else R false H1) : tAnd tt tu σ H R := q
theorem rd_or {R : Bool → Hp → Prop} (q : tt σ H fun c H1 => if c = true then R true H1 else tu σ H1 R) : tOr tt tu σ H R := q
theorem rd_andV (q : ta σ H fun x H1 => ∃ c, x = .bl c ∧ if c = true then tb σ H1 Q else Q (.bl false) H1) : tAndV ta tb σ H Q := q
theorem rd_orV (q : ta σ H fun x H1 => ∃ c, x = .bl c ∧ if c = true then Q (.bl true) H1 else tb σ H1 Q) : tOrV ta tb σ H Q := q
theorem rd_notV (q : ta σ H fun x H1 => ∃ c, x = .bl c ∧ Q (.bl (!c)) H1) : tNotV ta σ H Q := q
theorem rd_ifE (q : tt σ H fun c H1 => if c = true then ta σ H1 Q else tb σ H1 Q) : tIf tt ta tb σ H Q := q
theorem rd_chain {r r' : R2} (q : ta σ H fun x H1 => tb σ H1 fun y H2 => r x y H2 fun z H3 => ∃ k, z = .bl k ∧ if k = true then tc σ H3 fun w H4 => r' y w H4 Q else Q (.bl false) H3) : tChain r r' ta tb tc σ H Q := q
theorem rd_seq (q : s1 { D with nx := s2 D } σ H) : tSeq s1 s2 D σ H := q
theorem rd_cut (M : L2.St → Hp → Prop) (h : s1 { D with nx := M } σ H) (k : ∀ σ' H', M σ' H' → s2 D σ' H') : Evl.tCut s1 s2 D σ H := ⟨M, h, k⟩
theorem rd_asg {g : TG} (q : te σ H fun x H1 => g x σ H1 D.nx) : tAsg te g D σ H := q
theorem rd_name {i : Nat} {σ' : L2.St} {R : L2.St → Hp → Prop} (e : σ.set i (some v) = σ') (q : R σ' H) : gName i v σ H R := by subst e; exact q
theorem rd_ifS (q : tt σ H fun b H1 => if b = true then s1 D σ H1 else s2 D σ H1) : tIfS tt s1 s2 D σ H := q
theorem rd_ret (q : te σ H D.rt) : tRet te D σ H := q
theorem rd_retN (q : D.rt .non H) : tRetN D σ H := q
theorem rd_drop (q : te σ H fun _ H1 => D.nx σ H1) : tDrop te D σ H := q
theorem rd_next (q : D.nx σ H) : tNext D σ H := q
theorem rd_brk (q : D.bk σ H) : tBreak D σ H := q
theorem rd_cont (q : D.ct σ H) : tCont D σ H := q
theorem rd_aug {i : Nat} {ti : TIp} {σ' : L2.St → L2.V → L2.St} (h : σ[i]? = some (some x)) (q : te σ H fun y H1 => ti x y H1 fun z H2 => gName i z σ H2 D.nx) : tAug i te ti D σ H := ⟨x, h, q⟩
theorem rd_par {i j : Nat} {t : TA} (q : t σ H fun vs H1 => ∃ v w, vs = [v, w] ∧ D.nx ((σ.set i (some v)).set j (some w)) H1) : tPar i j t D σ H := q
theorem rd_par2 {i j : Nat} {a b : V} {σ' : L2.St} {R : L2.St → Hp → Prop} (e : (σ.set i (some a)).set j (some b) = σ') (q : R σ' H) : ∃ v w, [a, b] = [v, w] ∧ R ((σ.set i (some v)).set j (some w)) H := ⟨a, b, rfl, by rw [e]; exact q⟩
theorem rd_gtup {n : Nat} {t : TGs} {a : Addr} {xs : List V} {R : L2.St → Hp → Prop} (h : SqT K H a xs) (hl : xs.length = n) (q : t xs σ H R) : gTup K n t (.ref a) σ H R := ⟨a, xs, rfl, h, hl, q⟩
theorem rd_gcons {g : TG} {t : TGs} {xs : List V} {R : L2.St → Hp → Prop} (q : g x σ H fun σ' H' => t xs σ' H' R) : gCons g t (x :: xs) σ H R := ⟨x, xs, rfl, q⟩
theorem rd_gnil {R : L2.St → Hp → Prop} (q : R σ H) : gNil [] σ H R := ⟨rfl, q⟩
theorem rd_gsub {to ti : TE} {t : TSet} {R : L2.St → Hp → Prop} (q : to σ H fun o H1 => ti σ H1 fun i H2 => t o i v H2 fun H3 => R σ H3) : gSub to ti t v σ H R := q
theorem rd_setL {p : Addr} {xs : List V} {k : Int} {j : Nat} {R : Hp → Prop} (h : H p = some (.lst xs)) (hk : ixN xs.length k = some j) (q : R (upd H p (.lst (xs.set j v)))) : rSetL (.ref p) (.int k) v H R := ⟨p, xs, k, j, rfl, rfl, h, hk, q⟩
theorem rd_bm {T' : String} {r : V → List V → Hp → VK → Prop} {to : TE} {t : TA} (q : to σ H fun x H1 => tyV K T' x H1 ∧ t σ H1 fun xs H2 => r x xs H2 Q) : tBM K T' r to t σ H Q := q
theorem rd_tyL {a : Addr} {xs : List V} {B : Prop} (h : SqL K H a xs) (q : B) : tyV K "list" (.ref a) H ∧ B := ⟨.inl ⟨rfl, _, h⟩, q⟩
theorem rd_append {l : Addr} {xs : List V} {y : V} (h : H l = some (.lst xs)) (hl : xs.length < 1000) (q : Q .non (upd H l (.lst (xs ++ [y])))) : rAppend (.ref l) [y] H Q := ⟨l, xs, y, rfl, rfl, h, small1000 (Nat.le_of_lt hl), q⟩
theorem rd_sl {r : V → Option Int → Option Int → Hp → VK → Prop} {tl th : TO} (q : te σ H fun x H1 => tl σ H1 fun l H2 => th σ H2 fun u H3 => r x l u H3 Q) : tSl r te tl th σ H Q := q
theorem rd_part {R : Option Int → Hp → Prop} (q : te σ H fun x H1 => ∃ i, x = .int i ∧ R (some i) H1) : tPart te σ H R := q
theorem rd_partI {i : Int} {R : Int → Prop} (q : R i) : ∃ j, V.int i = .int j ∧ R j := ⟨i, rfl, q⟩
theorem rd_nopart {R : Option Int → Hp → Prop} (q : R none H) : tNoPart σ H R := q
/-! values -/
theorem rd_addI {i j : Int} (q : Q (.int (i + j)) H) : rAddA K (.int i) (.int j) H Q := .inl (.inl ⟨i, j, rfl, rfl, q⟩)
theorem rd_addS {i j : Str} (hl : i.length + j.length ≤ 1000) (q : Q (.str (i ++ j)) H) : rAddA K (.str i) (.str j) H Q := .inl (.inr ⟨i, j, rfl, rfl, Nat.le_of_lt (small1000 hl), q⟩)
theorem rd_addT {a b : Addr} {xs ys : List V} (ha : SqT K H a xs) (hb : SqT K H b ys) (hl : xs.length + ys.length ≤ 1000) (q : ∀ p H', Ex H H' → SqT K H' p (xs ++ ys) → Q (.ref p) H') : rAddA K (.ref a) (.ref b) H Q := by
  refine .inr (.inl ⟨a, b, xs, ys, rfl, rfl, ha, hb, Nat.le_of_lt (small1000 hl), fun e => ?_, fun e e' => ?_, fun _ _ p hp => q p _ (Evl.Ex.new hp) (.inl (.inl upd_same))⟩)
  · subst e
    exact q b H (Evl.Ex.refl H) hb
  · subst e'
    exact q a H (Evl.Ex.refl H) (by rw [List.append_nil]; exact ha)
theorem rd_addL {a b : Addr} {xs ys : List V} (ha : H a = some (.lst xs)) (hb : H b = some (.lst ys)) (hl : xs.length + ys.length ≤ 1000) (q : ∀ p H', H p = none → Ex H H' → H' p = some (.lst (xs ++ ys)) → Q (.ref p) H') : rAddA K (.ref a) (.ref b) H Q :=
  .inr (.inr ⟨a, b, xs, ys, rfl, rfl, ha, hb, Nat.le_of_lt (small1000 hl), fun p hp => q p _ hp (Evl.Ex.new hp) upd_same⟩)
theorem rd_I0 {i j : Int} {g : Int → Int → V} (q : Q (g i j) H) : rI0 g (.int i) (.int j) H Q := ⟨i, j, rfl, rfl, q⟩
theorem rd_I {i j : Int} {C : Int → Int → Prop} {g : Int → Int → V} (h : C i j) (q : Q (g i j) H) : rI C g (.int i) (.int j) H Q := ⟨i, j, rfl, rfl, h, q⟩
theorem rd_pow9 (q : Q (.int 1000000000) H) : rI CPow (fun i j => .int (i ^ j.toNat)) (.int 10) (.int 9) H Q := ⟨10, 9, rfl, rfl, ⟨by decide, by decide, by decide⟩, q⟩
theorem rd_pow12 (q : Q (.int 1000000000000) H) : rI CPow (fun i j => .int (i ^ j.toNat)) (.int 10) (.int 12) H Q := ⟨10, 12, rfl, rfl, ⟨by decide, by decide, by decide⟩, q⟩
theorem rd_U {i : Int} {g : Int → V} (q : Q (g i) H) : rU g (.int i) H Q := ⟨i, rfl, q⟩
theorem rd_eqI {i j : Int} (q : Q (.bl (decide (i = j))) H) : rEqA K (.int i) (.int j) H Q := .inl ⟨rfl, by rw [show decide (V.int i = V.int j) = decide (i = j) from by rw [Bool.eq_iff_iff]; simp]; exact q⟩
theorem rd_eqS {i j : Str} (q : Q (.bl (decide (i = j))) H) : rEqA K (.str i) (.str j) H Q := .inl ⟨rfl, by rw [show decide (V.str i = V.str j) = decide (i = j) from by rw [Bool.eq_iff_iff]; simp]; exact q⟩
theorem rd_eqB {i j : Bool} (q : Q (.bl (decide (i = j))) H) : rEqA K (.bl i) (.bl j) H Q := .inl ⟨rfl, by rw [show decide (V.bl i = V.bl j) = decide (i = j) from by rw [Bool.eq_iff_iff]; simp]; exact q⟩
theorem rd_neI {i j : Int} (q : Q (.bl (!decide (i = j))) H) : rNeA K (.int i) (.int j) H Q := .inl ⟨rfl, by rw [show decide (V.int i = V.int j) = decide (i = j) from by rw [Bool.eq_iff_iff]; simp]; exact q⟩
theorem rd_neS {i j : Str} (q : Q (.bl (!decide (i = j))) H) : rNeA K (.str i) (.str j) H Q := .inl ⟨rfl, by rw [show decide (V.str i = V.str j) = decide (i = j) from by rw [Bool.eq_iff_iff]; simp]; exact q⟩
theorem rd_neB {i j : Bool} (q : Q (.bl (!decide (i = j))) H) : rNeA K (.bl i) (.bl j) H Q := .inl ⟨rfl, by rw [show decide (V.bl i = V.bl j) = decide (i = j) from by rw [Bool.eq_iff_iff]; simp]; exact q⟩
theorem rd_lenL {a : Addr} {xs : List V} (h : SqL K H a xs) (q : Q (.int (xs.length : Nat)) H) : rLenA K [.ref a] H Q := ⟨_, xs.length, rfl, .inl ⟨xs, h, rfl⟩, q⟩
theorem rd_lenT {a : Addr} {xs : List V} (h : SqT K H a xs) (q : Q (.int (xs.length : Nat)) H) : rLenA K [.ref a] H Q := ⟨_, xs.length, rfl, .inr ⟨xs, h, rfl⟩, q⟩
theorem rd_lenS {s : Str} (h : s.length ≤ 1000) (q : Q (.int (s.length : Nat)) H) : rLenA K [.str s] H Q := ⟨_, s.length, rfl, ⟨Nat.le_of_lt (small1000 h), rfl⟩, q⟩
theorem rd_ixL {a : Addr} {xs : List V} {i : Int} {v : V} (h : SqL K H a xs) (e : atI xs i = some v) (q : Q v H) : rIx K (.ref a) (.int i) H Q := .inl ⟨a, xs, i, v, rfl, rfl, h, e, q⟩
theorem rd_ixT {a : Addr} {xs : List V} {i : Int} {v : V} (h : SqT K H a xs) (e : atI xs i = some v) (q : Q v H) : rIx K (.ref a) (.int i) H Q := .inr (.inl ⟨a, xs, i, v, rfl, rfl, h, e, q⟩)
theorem rd_ixS {z : Str} {i : Int} {c : Nat} (h : z.length ≤ 1000) (e : atI z.cps.toList i = some c) (q : Q (.str ⟨#[c]⟩) H) : rIx K (.str z) (.int i) H Q := .inr (.inr ⟨z, i, c, rfl, rfl, Nat.le_of_lt (small1000 h), e, q⟩)
theorem rd_tupOfL {a : Addr} {xs : List V} (h : SqL K H a xs) (q : ∀ p H', H p = none → Ex H H' → H' p = some (.tup xs) → Q (.ref p) H') : rTupOf K [.ref a] H Q := ⟨a, xs, rfl, .inl ⟨h, fun p hp => q p _ hp (Evl.Ex.new hp) upd_same⟩⟩
theorem rd_lstOfT {a : Addr} {xs : List V} (h : SqT K H a xs) (q : ∀ p H', H p = none → Ex H H' → H' p = some (.lst xs) → Q (.ref p) H') : rLstOf K [.ref a] H Q := ⟨a, xs, rfl, .inr h, fun p hp => q p _ hp (Evl.Ex.new hp) upd_same⟩
theorem rd_lstOfL {a : Addr} {xs : List V} (h : SqL K H a xs) (q : ∀ p H', H p = none → Ex H H' → H' p = some (.lst xs) → Q (.ref p) H') : rLstOf K [.ref a] H Q := ⟨a, xs, rfl, .inl h, fun p hp => q p _ hp (Evl.Ex.new hp) upd_same⟩
theorem rd_intB {b : Bool} (q : Q (.int (if b then 1 else 0)) H) : rInt1 [.bl b] H Q := .inr ⟨b, rfl, q⟩
theorem rd_intI {i : Int} (q : Q (.int i) H) : rInt1 [.int i] H Q := .inl ⟨i, rfl, q⟩
theorem rd_min2 {i j : Int} (q : Q (.int (if j < i then j else i)) H) : rMin2 [.int i, .int j] H Q := ⟨i, j, rfl, q⟩
theorem rd_max2 {i j : Int} (q : Q (.int (if j > i then j else i)) H) : rMax2 [.int i, .int j] H Q := ⟨i, j, rfl, q⟩
theorem rd_slT {a : Addr} {xs : List V} {lo hi : Option Int} (h : SqT K H a xs) (q : ∀ p H', Ex H H' → SqT K H' p (cutV xs lo hi) → Q (.ref p) H') : rSlX K (.ref a) lo hi H Q := by
  refine .inl (.inr ⟨a, xs, rfl, h, fun e => ?_, fun _ p hp => q p _ (Evl.Ex.new hp) (.inl (.inl upd_same))⟩)
  have ec : cutV xs lo hi = xs := by
    unfold cutV
    rw [e.1, e.2, List.drop_zero, Nat.sub_zero, List.take_length]
  exact q a H (Evl.Ex.refl H) (by rw [ec]; exact h)
theorem rd_slL {a : Addr} {xs : List V} {lo hi : Option Int} (h : SqL K H a xs) (q : ∀ p H', H p = none → Ex H H' → H' p = some (.lst (cutV xs lo hi)) → Q (.ref p) H') : rSlX K (.ref a) lo hi H Q :=
  .inl (.inl ⟨a, xs, rfl, h, fun p hp => q p _ hp (Evl.Ex.new hp) upd_same⟩)
theorem rd_slS {z : Str} {lo hi : Option Int} (h : z.length ≤ 1000) (q : Q (.str (cutS z lo hi)) H) : rSlX K (.str z) lo hi H Q := .inr ⟨z, rfl, Nat.le_of_lt (small1000 h), q⟩
def rSignIn : R2 := fun x y H Q => ∃ (c : Nat) (z : Str), x = .str ⟨#[c]⟩ ∧ y = .str z ∧ Q (.bl (decide (c ∈ z.cps.toList))) H
def rSignOut : R2 := fun x y H Q => ∃ (c : Nat) (z : Str), x = .str ⟨#[c]⟩ ∧ y = .str z ∧ Q (.bl (!decide (c ∈ z.cps.toList))) H
theorem op_signIn {X : Cx} : OpR X (compareOp .In) rSignIn := op_in_sign
theorem op_signOut {X : Cx} : OpR X (compareOp .NotIn) rSignOut := op_notIn_sign
theorem rd_signIn {c : Nat} {z : Str} (q : Q (.bl (decide (c ∈ z.cps.toList))) H) : rSignIn (.str ⟨#[c]⟩) (.str z) H Q := ⟨c, z, rfl, rfl, q⟩
theorem rd_signOut {c : Nat} {z : Str} (q : Q (.bl (!decide (c ∈ z.cps.toList))) H) : rSignOut (.str ⟨#[c]⟩) (.str z) H Q := ⟨c, z, rfl, rfl, q⟩
theorem rd_inL {v : V} {a : Addr} {xs : List V} (h : SqL K H a xs) (f : flatV v = true) (g : xs.all flatV = true) (q : Q (.bl (inV v xs)) H) : rIn K false v (.ref a) H Q := ⟨a, xs, rfl, .inl h, f, g, q⟩
theorem rd_outL {v : V} {a : Addr} {xs : List V} (h : SqL K H a xs) (f : flatV v = true) (g : xs.all flatV = true) (q : Q (.bl (!inV v xs)) H) : rIn K true v (.ref a) H Q := ⟨a, xs, rfl, .inl h, f, g, q⟩
theorem rd_ite {p A B : Prop} [Decidable p] (h1 : p → A) (h2 : ¬ p → B) : if decide p = true then A else B := by
  by_cases h : p
  · rw [if_pos (decide_eq_true h)]; exact h1 h
  · rw [if_neg (by rw [decide_eq_false h]; exact Bool.false_ne_true)]; exact h2 h
theorem rd_iteN {p A B : Prop} [Decidable p] (h1 : ¬ p → A) (h2 : p → B) : if (!decide p) = true then A else B := by
  by_cases h : p
  · rw [decide_eq_true h]; exact iteF (h2 h)
  · rw [decide_eq_false h]; exact iteT (h1 h)
theorem rd_iteB {b : Bool} {A B : Prop} (h1 : b = true → A) (h2 : b = false → B) : if b = true then A else B := by
  cases b
  · exact iteF (h2 rfl)
  · exact iteT (h1 rfl)
theorem rd_iteK {b c : Bool} {A B : Prop} (e : b = c) (q : if c = true then A else B) : if b = true then A else B := by rw [e]; exact q
end

theorem cutV_tail (xs : List V) : cutV xs (some 1) none = xs.drop 1 := by
  unfold cutV
  rw [show HT.sIx xs.length 0 (some 1) = min 1 xs.length from HT.sIx_nat xs.length 0 1, HT.sIx_none]
  cases xs with
  | nil => rfl
  | cons x r =>
    rw [show min 1 (x :: r).length = 1 by rw [List.length_cons]; omega]
    show (List.take ((x :: r).length - 1) r) = r
    rw [List.length_cons, Nat.add_sub_cancel]
    exact List.take_length
theorem cutV_from (xs : List V) (n : Nat) : cutV xs (some (n : Int)) none = xs.drop n := by
  unfold cutV
  rw [HT.sIx_nat xs.length 0 n, HT.sIx_none]
  by_cases h : n ≤ xs.length
  · rw [Nat.min_eq_left h]
    exact List.take_of_length_le (by rw [List.length_drop]; exact Nat.le_refl _)
  · rw [Nat.min_eq_right (by omega), Nat.sub_self, List.take_zero, List.drop_eq_nil_of_le (by omega)]
theorem cutV_to (xs : List V) (n : Nat) : cutV xs none (some (n : Int)) = xs.take n := by
  unfold cutV
  rw [HT.sIx_nat xs.length xs.length n, HT.sIx_none, List.drop_zero, Nat.sub_zero]
  by_cases h : n ≤ xs.length
  · rw [Nat.min_eq_left h]
  · rw [Nat.min_eq_right (by omega), List.take_length, List.take_of_length_le (by omega)]
/-! ### loops -/
def ForW (J : It) (g : TG) (tb : TS) (D : Ends) (σ : L2.St) (H : Hp) : Prop :=
  ∃ W : Nat → Nat → L2.St → Hp → Prop, (∃ m, W 0 m σ H) ∧ ∀ i m σ H, W i m σ H →
    (J.stop i H ∧ D.nx σ H) ∨ (J.go i H ∧ ∃ N : L2.St → Hp → Prop, (∀ σ' H', N σ' H' → ∃ m', m' < m ∧ W (i + 1) m' σ' H') ∧ ∀ x H', J.yld i H x H' → g x σ H' fun σ2 H2 => tb { D with nx := N, ct := N, bk := D.nx } σ2 H2)
section
variable {K : PySem.W.Frag} {σ : L2.St} {H : Hp} {g : TG} {tb : TS} {D : Ends} {te : TE} {ta : TA} {J : It}
theorem rd_forS (q : te σ H fun x H1 => ((∃ a, x = .ref a ∧ (∃ xs, SqL K H1 a xs) ∧ ForW (Itl K a) g tb D σ H1) ∨ (∃ a, x = .ref a ∧ (∃ xs, SqT K H1 a xs) ∧ ForW (Itt K a) g tb D σ H1)) ∨ ∃ z, x = .str z ∧ ForW (Its z) g tb D σ H1) : tFor (iSeq K te) g tb D σ H := q
theorem rd_fsT {a : Addr} {xs : List V} {R : Addr → Prop} {A B : Prop} (h : SqT K H a xs) (q : R a) : (A ∨ (∃ b, V.ref a = .ref b ∧ (∃ xs, SqT K H b xs) ∧ R b)) ∨ B := .inl (.inr ⟨a, rfl, ⟨xs, h⟩, q⟩)
theorem rd_fsL {a : Addr} {xs : List V} {R : Addr → Prop} {A B : Prop} (h : SqL K H a xs) (q : R a) : ((∃ b, V.ref a = .ref b ∧ (∃ xs, SqL K H b xs) ∧ R b) ∨ A) ∨ B := .inl (.inl ⟨a, rfl, ⟨xs, h⟩, q⟩)
theorem rd_fsS {z : Str} {R : Str → Prop} {A : Prop} (q : R z) : A ∨ ∃ y, V.str z = .str y ∧ R y := .inr ⟨z, rfl, q⟩
theorem rd_forR1 (q : ta σ H fun vs H1 => ∃ j : Int, vs = [.int j] ∧ -(2 ^ 62) ≤ j ∧ j < 2 ^ 62 ∧ ForW (Itr 0 j.toNat) g tb D σ H1) : tFor (iRng1 ta) g tb D σ H := q
theorem rd_fr1 {j : Int} {R : Int → Prop} (h : 0 ≤ j) (h' : j < 2 ^ 62) (q : R j) : ∃ k : Int, [V.int j] = [.int k] ∧ -(2 ^ 62) ≤ k ∧ k < 2 ^ 62 ∧ R k := ⟨j, rfl, by omega, h', q⟩
theorem rd_forR2 (q : ta σ H fun vs H1 => ∃ i j : Int, vs = [.int i, .int j] ∧ (-(2 ^ 62) ≤ i ∧ i < 2 ^ 62 ∧ -(2 ^ 62) ≤ j ∧ j < 2 ^ 62) ∧ ForW (Itr i (j - i).toNat) g tb D σ H1) : tFor (iRng2 ta) g tb D σ H := q
theorem rd_fr2 {i j : Int} {R : Int → Int → Prop} (h : -(2 ^ 62) ≤ i ∧ i < 2 ^ 62 ∧ -(2 ^ 62) ≤ j ∧ j < 2 ^ 62) (q : R i j) : ∃ k l : Int, [V.int i, V.int j] = [.int k, .int l] ∧ (-(2 ^ 62) ≤ k ∧ k < 2 ^ 62 ∧ -(2 ^ 62) ≤ l ∧ l < 2 ^ 62) ∧ R k l := ⟨i, j, rfl, h, q⟩
theorem rd_forZ (q : ta σ H fun vs H1 => ∃ a b xs ys, vs = [.ref a, .ref b] ∧ ((SqL K H1 a xs ∧ SqL K H1 b ys ∧ ForW (Itz K a b) g tb D σ H1) ∨ (SqT K H1 a xs ∧ SqT K H1 b ys ∧ ForW (RZ.ItzT K a b) g tb D σ H1))) : tFor (RZ.iZipA K ta) g tb D σ H := q
theorem rd_fzT {a b : Addr} {xs ys : List V} {R R' : Addr → Addr → Prop} (h1 : SqT K H a xs) (h2 : SqT K H b ys) (q : R' a b) : ∃ c d xs ys, [V.ref a, V.ref b] = [.ref c, .ref d] ∧ ((SqL K H c xs ∧ SqL K H d ys ∧ R c d) ∨ (SqT K H c xs ∧ SqT K H d ys ∧ R' c d)) := ⟨a, b, xs, ys, rfl, .inr ⟨h1, h2, q⟩⟩
theorem rd_fzL {a b : Addr} {xs ys : List V} {R R' : Addr → Addr → Prop} (h1 : SqL K H a xs) (h2 : SqL K H b ys) (q : R a b) : ∃ c d xs ys, [V.ref a, V.ref b] = [.ref c, .ref d] ∧ ((SqL K H c xs ∧ SqL K H d ys ∧ R c d) ∨ (SqT K H c xs ∧ SqT K H d ys ∧ R' c d)) := ⟨a, b, xs, ys, rfl, .inl ⟨h1, h2, q⟩⟩
/-- the loop by its invariant: over a tuple, a list, a range, zip of two tuples -/
theorem forW_T {a : Addr} (xs : List V) (Pv : Nat → L2.St → Hp → Prop) (h0 : Pv 0 σ H) (hl : ∀ i σ H, i ≤ xs.length → Pv i σ H → SqT K H a xs)
    (hs : ∀ i x σ H, xs[i]? = some x → Pv i σ H → g x σ H fun σ2 H2 => tb { D with nx := Pv (i + 1), ct := Pv (i + 1), bk := D.nx } σ2 H2) (hd : ∀ σ H, Pv xs.length σ H → D.nx σ H) : ForW (Itt K a) g tb D σ H := for_tup Pv h0 hl hs hd
theorem forW_L {a : Addr} (xs : List V) (Pv : Nat → L2.St → Hp → Prop) (h0 : Pv 0 σ H) (hl : ∀ i σ H, i ≤ xs.length → Pv i σ H → SqL K H a xs)
    (hs : ∀ i x σ H, xs[i]? = some x → Pv i σ H → g x σ H fun σ2 H2 => tb { D with nx := Pv (i + 1), ct := Pv (i + 1), bk := D.nx } σ2 H2) (hd : ∀ σ H, Pv xs.length σ H → D.nx σ H) : ForW (Itl K a) g tb D σ H := for_list Pv h0 hl hs hd
theorem forW_S {z : Str} (Pv : Nat → L2.St → Hp → Prop) (h0 : Pv 0 σ H)
    (hs : ∀ i c σ H, z.cps.toList[i]? = some c → Pv i σ H → g (.str ⟨#[c]⟩) σ H fun σ2 H2 => tb { D with nx := Pv (i + 1), ct := Pv (i + 1), bk := D.nx } σ2 H2) (hd : ∀ σ H, Pv z.length σ H → D.nx σ H) : ForW (Its z) g tb D σ H :=
  for_it walk_str Pv h0 (fun _ _ _ _ _ => trivial) (fun i x σ H H' _ hp y => by
    obtain ⟨rfl, c, e, rfl⟩ := y
    exact hs i c σ H' (by rw [Array.getElem?_toList]; exact e) hp) hd
theorem forW_Lx {a : Addr} {xs : List V} (_ : SqL K H a xs) (Pv : Nat → L2.St → Hp → Prop) (h0 : Pv 0 σ H) (hl : ∀ i σ H, i ≤ xs.length → Pv i σ H → SqL K H a xs)
    (hs : ∀ i x σ H, xs[i]? = some x → Pv i σ H → g x σ H fun σ2 H2 => tb { D with nx := Pv (i + 1), ct := Pv (i + 1), bk := D.nx } σ2 H2) (hd : ∀ σ H, Pv xs.length σ H → D.nx σ H) : ForW (Itl K a) g tb D σ H := for_list Pv h0 hl hs hd
theorem forW_R {lo : Int} {n : Nat} (Pv : Nat → L2.St → Hp → Prop) (h0 : Pv 0 σ H)
    (hs : ∀ i σ H, i < n → Pv i σ H → g (.int (lo + i)) σ H fun σ2 H2 => tb { D with nx := Pv (i + 1), ct := Pv (i + 1), bk := D.nx } σ2 H2) (hd : ∀ σ H, Pv n σ H → D.nx σ H) : ForW (Itr lo n) g tb D σ H := for_range Pv h0 hs hd
theorem forW_it {n : Nat} {G : Hp → Prop} {Y : Nat → Hp → V → Hp → Prop} (w : Walk J n G Y) (Pv : Nat → L2.St → Hp → Prop) (h0 : Pv 0 σ H) (hG : ∀ i σ H, i ≤ n → Pv i σ H → G H)
    (hs : ∀ i x σ H H', i < n → Pv i σ H → Y i H x H' → g x σ H' fun σ2 H2 => tb { D with nx := Pv (i + 1), ct := Pv (i + 1), bk := D.nx } σ2 H2) (hd : ∀ σ H, Pv n σ H → D.nx σ H) : ForW J g tb D σ H := for_it w Pv h0 hG hs hd
end
/-- over zip of two tuples, of any lengths -/
theorem walk_zipT {K : PySem.W.Frag} {a b : Addr} {xs ys : List V} {n : Nat} (hn : n = min xs.length ys.length) : Walk (RZ.ItzT K a b) n (fun H => SqT K H a xs ∧ SqT K H b ys) (YPair (fun i => xs[i]?) (fun i => ys[i]?)) := by
  subst hn
  refine ⟨fun i _ hi q => ?_, fun _ q => ⟨xs, ys, q.1, q.2, by omega⟩, fun i H v H' _ q y => ?_⟩
  · have h1 : i < xs.length := by omega
    have h2 : i < ys.length := by omega
    exact ⟨xs, ys, xs[i], ys[i], q.1, q.2, by simp [h1], by simp [h2]⟩
  · obtain ⟨T, x, z, h1, h2, h3, h4, h5⟩ := y
    exact ⟨T, x, z, h1, h2, h3, h4 xs q.1, h5 ys q.2⟩
theorem forW_Z {K : PySem.W.Frag} {σ : L2.St} {H : Hp} {g : TG} {tb : TS} {D : Ends} {a b : Addr} (xs ys : List V) {n : Nat} (hn : n = min xs.length ys.length) (Pv : Nat → L2.St → Hp → Prop) (h0 : Pv 0 σ H) (hG : ∀ i σ H, i ≤ n → Pv i σ H → SqT K H a xs ∧ SqT K H b ys)
    (hs : ∀ i x y T σ H H', i < n → Pv i σ H → xs[i]? = some x → ys[i]? = some y → H T = none → Ex H H' → H' T = some (.tup [x, y]) → g (.ref T) σ H' fun σ2 H2 => tb { D with nx := Pv (i + 1), ct := Pv (i + 1), bk := D.nx } σ2 H2) (hd : ∀ σ H, Pv n σ H → D.nx σ H) : ForW (RZ.ItzT K a b) g tb D σ H :=
  forW_it (walk_zipT hn) Pv h0 hG (fun i x σ H H' hi hp y => by
    obtain ⟨T, x, z, rfl, hT, rfl, h4, h5⟩ := y
    exact hs i x z T σ H _ hi hp h4 h5 hT (Evl.Ex.new hT) upd_same) hd

/-! comprehensions -/
def LcW (J : It) (g : TG) (tt : TT) (te : TE) (vs : List Nat) (σ : L2.St) (H1 : Hp) (Q : VK) : Prop :=
  ∀ D, H1 D = none → ∃ W : Nat → Nat → Hp → Prop, (∃ m, W 0 m (upd H1 D (.lst []))) ∧ ∀ i m H, W i m H →
  (J.stop i H ∧ Q (.ref D) H) ∨ (J.go i H ∧ ∃ Nx : Hp → Prop, (∀ H', Nx H' → ∃ m', m' < m ∧ W (i + 1) m' H') ∧ ∀ x H', J.yld i H x H' → g x (wipe σ vs) H' fun σ2 H2 => wipe σ2 vs = wipe σ vs ∧ tt σ2 H2 fun b H3 =>
    if b = true then te σ2 H3 fun y H4 => ∃ acc, H4 D = some (.lst acc) ∧ acc.length < sizeLine ∧ Nx (upd H4 D (.lst (acc ++ [y]))) else Nx H3)
section
variable {K : PySem.W.Frag} {σ : L2.St} {H : Hp} {Q : VK} {g : TG} {tt : TT} {te tl : TE} {ta : TA} {vs : List Nat}
theorem rd_lcS (q : tl σ H fun x H1 => ((∃ a, x = .ref a ∧ (∃ xs, SqL K H1 a xs) ∧ LcW (Itl K a) g tt te vs σ H1 Q) ∨ (∃ a, x = .ref a ∧ (∃ xs, SqT K H1 a xs) ∧ LcW (Itt K a) g tt te vs σ H1 Q)) ∨ ∃ z, x = .str z ∧ LcW (Its z) g tt te vs σ H1 Q) : tLc (iSeq K tl) g tt te vs σ H Q := q
theorem rd_lcR1 (q : ta σ H fun us H1 => ∃ j : Int, us = [.int j] ∧ -(2 ^ 62) ≤ j ∧ j < 2 ^ 62 ∧ LcW (Itr 0 j.toNat) g tt te vs σ H1 Q) : tLc (iRng1 ta) g tt te vs σ H Q := q
theorem rd_lcR2 (q : ta σ H fun us H1 => ∃ i j : Int, us = [.int i, .int j] ∧ (-(2 ^ 62) ≤ i ∧ i < 2 ^ 62 ∧ -(2 ^ 62) ≤ j ∧ j < 2 ^ 62) ∧ LcW (Itr i (j - i).toNat) g tt te vs σ H1 Q) : tLc (iRng2 ta) g tt te vs σ H Q := q
/-- the step of a comprehension's turn: the new item -/
def LcIt (D : Addr) (N : Hp → Prop) : VK := fun y H4 => ∃ acc, H4 D = some (.lst acc) ∧ acc.length < sizeLine ∧ N (upd H4 D (.lst (acc ++ [y])))
theorem lc_item {D : Addr} {N : Hp → Prop} {y : V} {H4 : Hp} {acc : List V} (h : H4 D = some (.lst acc)) (hl : acc.length < 1000) (q : N (upd H4 D (.lst (acc ++ [y])))) : ∃ acc, H4 D = some (.lst acc) ∧ acc.length < sizeLine ∧ N (upd H4 D (.lst (acc ++ [y]))) := ⟨acc, h, small1000 (Nat.le_of_lt hl), q⟩
theorem lcW_R {lo : Int} {n : Nat} (Pv : Addr → Nat → Hp → Prop) (h0 : ∀ D H', H D = none → Ex H H' → H' D = some (.lst []) → Pv D 0 H')
    (hs : ∀ D i H', H D = none → i < n → Pv D i H' → g (.int (lo + i)) (wipe σ vs) H' fun σ2 H2 => wipe σ2 vs = wipe σ vs ∧ tt σ2 H2 fun b H3 =>
      if b = true then te σ2 H3 fun y H4 => ∃ acc, H4 D = some (.lst acc) ∧ acc.length < sizeLine ∧ Pv D (i + 1) (upd H4 D (.lst (acc ++ [y]))) else Pv D (i + 1) H3)
    (hd : ∀ D H', H D = none → Pv D n H' → Q (.ref D) H') : LcW (Itr lo n) g tt te vs σ H Q := fun D hD =>
  lc_range (Pv D) (h0 D _ hD (Evl.Ex.new hD) upd_same) (fun i H' hi hp => hs D i H' hD hi hp) fun H' hp => hd D H' hD hp
theorem lcW_L {a : Addr} (xs : List V) (Pv : Addr → Nat → Hp → Prop) (h0 : ∀ D H', H D = none → Ex H H' → H' D = some (.lst []) → Pv D 0 H') (hl : ∀ D i H', H D = none → i ≤ xs.length → Pv D i H' → SqL K H' a xs)
    (hs : ∀ D i x H', H D = none → xs[i]? = some x → Pv D i H' → g x (wipe σ vs) H' fun σ2 H2 => wipe σ2 vs = wipe σ vs ∧ tt σ2 H2 fun b H3 =>
      if b = true then te σ2 H3 fun y H4 => ∃ acc, H4 D = some (.lst acc) ∧ acc.length < sizeLine ∧ Pv D (i + 1) (upd H4 D (.lst (acc ++ [y]))) else Pv D (i + 1) H3)
    (hd : ∀ D H', H D = none → Pv D xs.length H' → Q (.ref D) H') : LcW (Itl K a) g tt te vs σ H Q := fun D hD =>
  lc_list (Pv D) (h0 D _ hD (Evl.Ex.new hD) upd_same) (fun i H' hi hp => hl D i H' hD hi hp) (fun i x H' hx hp => hs D i x H' hD hx hp) fun H' hp => hd D H' hD hp
theorem lcW_T {a : Addr} (xs : List V) (Pv : Addr → Nat → Hp → Prop) (h0 : ∀ D H', H D = none → Ex H H' → H' D = some (.lst []) → Pv D 0 H') (hl : ∀ D i H', H D = none → i ≤ xs.length → Pv D i H' → SqT K H' a xs)
    (hs : ∀ D i x H', H D = none → xs[i]? = some x → Pv D i H' → g x (wipe σ vs) H' fun σ2 H2 => wipe σ2 vs = wipe σ vs ∧ tt σ2 H2 fun b H3 =>
      if b = true then te σ2 H3 fun y H4 => ∃ acc, H4 D = some (.lst acc) ∧ acc.length < sizeLine ∧ Pv D (i + 1) (upd H4 D (.lst (acc ++ [y]))) else Pv D (i + 1) H3)
    (hd : ∀ D H', H D = none → Pv D xs.length H' → Q (.ref D) H') : LcW (Itt K a) g tt te vs σ H Q := fun D hD =>
  lc_tup (Pv D) (h0 D _ hD (Evl.Ex.new hD) upd_same) (fun i H' hi hp => hl D i H' hD hi hp) (fun i x H' hx hp => hs D i x H' hD hx hp) fun H' hp => hd D H' hD hp
theorem rd_yes {R : Bool → Hp → Prop} (q : R true H) : tYes σ H R := q
theorem ex_new {H H1 : Hp} {D : Addr} {o : HO} (hn : H D = none) (e : Ex H H1) : Ex H (upd H1 D o) := fun b u q => by
  rw [upd_ne (ne_of_none q hn)]
  exact e b u q
end

/-! ### what a state list's def leaves: all but the list, its one int another -/
structure St1 (a : Addr) (H H' : Hp) : Prop where
  fr : ∀ b o, b ≠ a → H b = some o → H' b = some o
  st : ∃ s, H' a = some (.lst [.int s])
  tame : Tame H H'
theorem St1.trans {a : Addr} {H H1 H2 : Hp} (x : St1 a H H1) (y : St1 a H1 H2) : St1 a H H2 := ⟨fun b o n h => y.fr b o n (x.fr b o n h), y.st, x.tame.trans y.tame⟩
theorem St1.ex {a : Addr} {H H1 : Hp} (h : ∃ s, H a = some (.lst [.int s])) (e : Ex H H1) : St1 a H H1 := by
  obtain ⟨s, h⟩ := h
  exact ⟨fun b o _ q => e b o q, ⟨s, e a _ h⟩, .ex e⟩
theorem St1.free {a o : Addr} {H H1 : Hp} (S : St1 a H H1) (h : H1 o = none) : H o = none := by
  cases e : H o with
  | none => rfl
  | some x =>
    by_cases n : o = a
    · subst n
      obtain ⟨s, q⟩ := S.st
      rw [h] at q; cases q
    · rw [S.fr o x n e] at h; cases h
/-- a list that was not there at the start has grown -/
theorem St1.upd {a o : Addr} {H H1 : Hp} {xs ys : List V} (S : St1 a H H1) (hn : H o = none) (ho : H1 o = some (.lst xs)) (ne : o ≠ a) : St1 a H (upd H1 o (.lst ys)) := by
  refine ⟨fun b u nb e => ?_, ?_, S.tame.trans (Tame.upd ho)⟩
  · rw [upd_ne (by rintro rfl; rw [hn] at e; cases e)]
    exact S.fr b u nb e
  · obtain ⟨s, q⟩ := S.st
    exact ⟨s, by rw [upd_ne (Ne.symm ne)]; exact q⟩
theorem St1.refl {a : Addr} {H : Hp} (h : ∃ s, H a = some (.lst [.int s])) : St1 a H H := ⟨fun _ _ _ h => h, h, .refl H⟩
/-! what St1 and Ex keep -/
section
variable {K : PySem.W.Frag} {H H' : Hp} {a b : Addr} {v : V} {t : T} {vs : List V} {ts : List T} {xs : List V}
theorem tv_st (h : Tv K H v t) (e : St1 a H H') : Tv K H' v t := e.tame.tv h
theorem tv_ex (h : Tv K H v t) (e : Ex H H') : Tv K H' v t := (Tame.ex e).tv h
theorem tva_st (h : TvA K H vs ts) (e : St1 a H H') : TvA K H' vs ts := e.tame.tvA h
theorem tva_ex (h : TvA K H vs ts) (e : Ex H H') : TvA K H' vs ts := (Tame.ex e).tvA h
theorem sqt_st (h : SqT K H b xs) (e : St1 a H H') : SqT K H' b xs := e.tame.sqT h
theorem sqt_ex (h : SqT K H b xs) (e : Ex H H') : SqT K H' b xs := Evl.ex_t e h
theorem lst_st (h : H b = some (.lst xs)) (e : St1 a H H') (n : b ≠ a) : H' b = some (.lst xs) := e.fr b _ n h
theorem lst_ex (h : H b = some (.lst xs)) (e : Ex H H') : H' b = some (.lst xs) := e b _ h
theorem sql_ex (h : SqL K H b xs) (e : Ex H H') : SqL K H' b xs := Evl.ex_l e h
theorem sql_st {l st : Addr} {H0 : Hp} (h : SqL K H0 l xs) (hn : H0 st = none) (e0 : Ex H0 H) (e : St1 st H H') : SqL K H' l xs := by
  rcases h with (h | ⟨o, h⟩) | h
  · exact .inl (.inl (e.fr _ _ (by rintro rfl; rw [hn] at h; cases h) (e0 _ _ h)))
  · exact .inl (.inr ⟨o, e.fr _ _ (by rintro rfl; rw [hn] at h; cases h) (e0 _ _ h)⟩)
  · exact .inr h
theorem sta_st (e : St1 a H H') : ∃ s, H' a = some (.lst [.int s]) := e.st
theorem sta_ex (h : ∃ s, H a = some (.lst [.int s])) (e : Ex H H') : ∃ s, H' a = some (.lst [.int s]) := by obtain ⟨s, h⟩ := h; exact ⟨s, e a _ h⟩
theorem ne_st (h : ∃ s, H a = some (.lst [.int s])) (hp : H b = none) : b ≠ a := by
  obtain ⟨s, h⟩ := h
  rintro rfl
  rw [h] at hp; cases hp
end
section
variable {K : PySem.W.Frag} {H : Hp} {Q : VK}
/-- an item, whichever it is -/
theorem mem_at {xs : List V} {i : Int} (h0 : 0 ≤ i) (h1 : i < xs.length) : ∃ v, atI xs i = some v ∧ v ∈ xs := by
  have hk : i.toNat < xs.length := by omega
  refine ⟨xs[i.toNat], ?_, List.getElem_mem hk⟩
  have e : ((i.toNat : Nat) : Int) = i := by omega
  have q := atI_nat (List.getElem?_eq_getElem hk)
  rw [e] at q
  exact q
theorem rd_ixLm {a : Addr} {xs : List V} {i : Int} (h : SqL K H a xs) (h0 : 0 ≤ i) (h1 : i < xs.length) (q : ∀ v, v ∈ xs → Q v H) : rIx K (.ref a) (.int i) H Q := by
  obtain ⟨v, e, m⟩ := mem_at h0 h1
  exact rd_ixL h e (q v m)
theorem rd_ixTm {a : Addr} {xs : List V} {i : Int} (h : SqT K H a xs) (h0 : 0 ≤ i) (h1 : i < xs.length) (q : ∀ v, v ∈ xs → Q v H) : rIx K (.ref a) (.int i) H Q := by
  obtain ⟨v, e, m⟩ := mem_at h0 h1
  exact rd_ixT h e (q v m)
/-- the k-th of a tuple of data -/
theorem rd_ixD {v : V} {ts : List T} {i : Int} {n : Nat} {t : T} (h : Tv K H v (.tup ts)) (hi : i = (n : Nat)) (e : ts[n]? = some t) (q : ∀ x, Tv K H x t → Q x H) : rIx K v (.int i) H Q := by
  obtain ⟨a, xs, rfl, hs, ha⟩ := h.tupE
  obtain ⟨x, e1, hx⟩ := ha.get e
  subst hi
  exact rd_ixT hs (atI_nat e1) (q x hx)
theorem rd_lenD {v : V} {ts : List T} (h : Tv K H v (.tup ts)) (q : Q (.int (ts.length : Nat)) H) : rLenA K [v] H Q := by
  obtain ⟨a, xs, rfl, hs, ha⟩ := h.tupE
  refine rd_lenT hs ?_
  rw [ha.len]
  exact q
end
/-! ### a written dict: texts to tuples of texts -/
def TupIn (K : PySem.W.Frag) (a : Addr) (ws : List Str) : Prop :=
  ∃ (dd : Option Addr) (its : Array Value) (n : Nat) (sl : Array (Option Value)), K.lookup a = some ⟨.type "tuple", dd, .seq its n, sl⟩ ∧ its.size ≤ sizeLine ∧ Vals (ws.map V.str) its.toList
theorem TupIn.sq {K : PySem.W.Frag} {a : Addr} {ws : List Str} (h : TupIn K a ws) (H : Hp) : SqT K H a (ws.map V.str) := by
  obtain ⟨dd, its, n, sl, h, hz, hv⟩ := h
  exact .inr ⟨_, its, n, h, rfl, rfl, hz, hv⟩
def EntIs (K : PySem.W.Frag) (w : World) (e : DictEntry) (p : Str × List Str) : Prop :=
  ∃ t a, e.key = .str p.1 t ∧ e.hash = PyData.keyHash w.params p.1 ∧ e.val = .ref a ∧ TupIn K a p.2
/-- one entry after another -/
theorem ent_cons {K : PySem.W.Frag} {w : World} {a : Addr} {x : Str} {t : Tok} {ws : List Str} {l : List DictEntry} {ps : List (Str × List Str)} {dd : Option Addr} {its : Array Value} {n : Nat} {sl : Array (Option Value)}
    (k : K.lookup a = some ⟨.type "tuple", dd, .seq its n, sl⟩) (s : its.size ≤ sizeLine) (v : Vals (ws.map V.str) its.toList) (b : Paired (EntIs K w) l ps) :
    Paired (EntIs K w) (⟨PyData.keyHash w.params x, .str x t, .ref a⟩ :: l) ((x, ws) :: ps) := .cons ⟨t, a, rfl, rfl, rfl, dd, its, n, sl, k, s, v⟩ b
def TabAt (K : PySem.W.Frag) (w : World) (d : Addr) (ps : List (Str × List Str)) : Prop :=
  ∃ es n, K.lookup d = some ⟨.type "dict", none, .dict es n, #[]⟩ ∧ (d == sysModules) = false ∧ Paired (EntIs K w) es.toList ps
section
variable {K : PySem.W.Frag} {w : World} {d : Addr} {ps : List (Str × List Str)}
theorem ent_lit : ∀ {l : List DictEntry} {ps : List (Str × List Str)}, Paired (EntIs K w) l ps → PySem.W.KeysLit w.params l
  | _, _, .nil => trivial
  | _, _, .cons h t => by
    obtain ⟨t', a, h1, h2, _⟩ := h
    exact ⟨⟨_, t', h1, h2⟩, ent_lit t⟩
theorem ent_find (z : Str) : ∀ {l : List DictEntry} {ps : List (Str × List Str)}, Paired (EntIs K w) l ps →
    (match ps.lookup z with | some ws => ∃ e a, l.find? (·.key.isStr z) = some e ∧ e.val = .ref a ∧ TupIn K a ws | none => l.find? (·.key.isStr z) = none) ∧ l.any (·.refKey) = false
  | _, _, .nil => ⟨rfl, rfl⟩
  | e :: l, p :: ps, .cons h t => by
    have ih := ent_find z t
    obtain ⟨t', a, h1, h2, h3, h4⟩ := h
    have hr : e.refKey = false := by
      unfold DictEntry.refKey
      rw [h1]
    have hk : e.key.isStr z = (z == p.1) := by
      rw [h1, PySem.W.isStr_of]
      show (p.1 == z) = (z == p.1)
      rw [Bool.eq_iff_iff, beq_iff_eq, beq_iff_eq]
      exact eq_comm
    refine ⟨?_, by rw [List.any_cons, hr, ih.2]; rfl⟩
    rw [List.find?_cons, hk, List.lookup_cons]
    cases hz : z == p.1 with
    | true => exact ⟨e, a, rfl, h3, h4⟩
    | false => exact ih.1
theorem tab_ns (T : TabAt K w d ps) (z : Str) : match ps.lookup z with | some ws => ∃ a, PySem.W.nsIn K d z = some (some (.ref a)) ∧ TupIn K a ws | none => PySem.W.nsIn K d z = some none := by
  obtain ⟨es, n, hl, _, pr⟩ := T
  have f := ent_find z pr
  cases e : ps.lookup z with
  | some ws =>
    rw [e] at f
    obtain ⟨⟨en, a, f1, f2, f3⟩, _⟩ := f
    refine ⟨a, ?_, f3⟩
    unfold PySem.W.nsIn
    rw [hl]
    dsimp only
    rw [f1]
    dsimp only
    rw [f2]
  | none =>
    rw [e] at f
    unfold PySem.W.nsIn
    rw [hl]
    dsimp only
    rw [f.1]
    dsimp only
    rw [f.2]
    rfl
end
def rInTab (K : PySem.W.Frag) (w : World) (neg : Bool) : R2 := fun x y H Q => ∃ z d ps, x = .str z ∧ y = .ref d ∧ TabAt K w d ps ∧ Q (.bl (if neg then !(ps.lookup z).isSome else (ps.lookup z).isSome)) H
theorem tab_kd {K : PySem.W.Frag} {w : World} {d : Addr} {ps : List (Str × List Str)} (T : TabAt K w d ps) : ∃ es n, KDict K w d es n := by
  obtain ⟨es, n, hl, low, pr⟩ := T
  exact ⟨es, n, hl, ent_lit pr, low⟩
theorem tab_some {K : PySem.W.Frag} {w : World} {d : Addr} {ps : List (Str × List Str)} (T : TabAt K w d ps) (z : Str) : ∃ r, PySem.W.nsIn K d z = some r ∧ r.isSome = (ps.lookup z).isSome := by
  have f := tab_ns T z
  cases e : ps.lookup z with
  | some ws =>
    rw [e] at f
    obtain ⟨a, f1, _⟩ := f
    exact ⟨_, f1, rfl⟩
  | none =>
    rw [e] at f
    exact ⟨_, f, rfl⟩
theorem op_inTab {X : Cx} : OpR X (compareOp .In) (rInTab X.K X.w false) := by
  intro pins s σ H x y v u Q I rx ry h
  obtain ⟨z, d, ps, rfl, rfl, T, q⟩ := h
  obtain ⟨es, n, D⟩ := tab_kd T
  obtain ⟨r, hr, e⟩ := tab_some T z
  refine op_in_kd D pins s σ H _ _ v u Q I rx ry ⟨z, r, rfl, rfl, hr, ?_⟩
  rw [e]
  exact q
theorem op_notinTab {X : Cx} : OpR X (compareOp .NotIn) (rInTab X.K X.w true) := by
  intro pins s σ H x y v u Q I rx ry h
  obtain ⟨z, d, ps, rfl, rfl, T, q⟩ := h
  obtain ⟨es, n, D⟩ := tab_kd T
  obtain ⟨r, hr, e⟩ := tab_some T z
  refine op_notIn_kd D pins s σ H _ _ v u Q I rx ry ⟨z, r, rfl, rfl, hr, ?_⟩
  rw [e]
  exact q
theorem pe_gtab {X : Cx} {x : Str} {d : Addr} {pos : Pos} (hm : X.mg x = some (.ref d)) (hg : Gl X x := by rfl) (hd : (x == ("__debug__" : Str)) = false := by decide) : PE X (.Name x pos) (tC (.ref d)) := pe_glob hg hm rfl hd
theorem rd_inTab {K : PySem.W.Frag} {w : World} {d : Addr} {ps : List (Str × List Str)} {H : Hp} {Q : VK} {z : Str} (T : TabAt K w d ps) (q : Q (.bl (ps.lookup z).isSome) H) : rInTab K w false (.str z) (.ref d) H Q := ⟨z, d, ps, rfl, rfl, T, q⟩
theorem rd_outTab {K : PySem.W.Frag} {w : World} {d : Addr} {ps : List (Str × List Str)} {H : Hp} {Q : VK} {z : Str} (T : TabAt K w d ps) (q : Q (.bl (!(ps.lookup z).isSome)) H) : rInTab K w true (.str z) (.ref d) H Q := ⟨z, d, ps, rfl, rfl, T, q⟩
theorem rd_dgetT {σ : L2.St} {H : Hp} {Q : VK} {td ty : TE} (q : td σ H fun x H1 => ty σ H1 fun y H2 => ∃ a v, x = .ref a ∧ DGet H2 a y (some v) ∧ Q v H2) : tDGet td ty σ H Q := q
theorem rd_dgetK {H : Hp} {d : Addr} {kvs : List (Key × V)} {z : Str} {v : V} {R : V → Prop} (h : H d = some (.dK kvs)) (e : valV kvs (.inr z) = some v) (q : R v) : ∃ a u, V.ref d = .ref a ∧ DGet H a (.str z) (some u) ∧ R u := ⟨d, v, rfl, by rw [← e]; exact DGet.k (k := .inr z) h, q⟩
theorem rd_dgetI {H : Hp} {d : Addr} {kvs : List (Key × V)} {z : Int} {v : V} {R : V → Prop} (h : H d = some (.dK kvs)) (e : valV kvs (.inl z) = some v) (q : R v) : ∃ a u, V.ref d = .ref a ∧ DGet H a (.int z) (some u) ∧ R u := ⟨d, v, rfl, by rw [← e]; exact DGet.k (k := .inl z) h, q⟩
/-- d[z], z there -/
theorem rd_ixTab {K : PySem.W.Frag} {w : World} {d : Addr} {ps : List (Str × List Str)} {H : Hp} {Q : VK} {z : Str} {ws : List Str} (T : TabAt K w d ps) (e : ps.lookup z = some ws) (q : ∀ a, SqT K H a (ws.map V.str) → Q (.ref a) H) : rIxD K w (.ref d) (.str z) H Q := by
  have f := tab_ns T z
  rw [e] at f
  obtain ⟨a, f1, f2⟩ := f
  obtain ⟨es, n, hl, _, pr⟩ := T
  exact ⟨d, z, .ref a, rfl, rfl, ⟨es, n, _, hl, ent_lit pr, f1, rfl⟩, q a (f2.sq H)⟩
/-- a dict that stands in the heap stays -/
theorem dK_ex {H H' : Hp} {d : Addr} {kvs : List (Key × V)} (h : H d = some (.dK kvs)) (e : Ex H H') : H' d = some (.dK kvs) := e _ _ h
end Qa
namespace Qa
open PySem PySem.Spec PyProof.Rows L2
/-! within a comprehension: the fragment named -/
section
variable {X : Cx} {K : PySem.W.Frag}
theorem pt_truK {a : Expr} {ta : TE} (hK : X.K = K) (ha : PE X a ta) (he : ∀ whole, isTrue a X.env whole = (do let v ← whole; standAt a.pos; holding [v] (truthy v)) := by intro _; rfl) : PT X a (tTru K ta) := by
  subst hK
  exact pt_tru ha he
theorem isiK (hK : X.K = K) : CallR X (.builtin "isinstance") (rIsi K) := by
  subst hK
  exact call_isi
theorem notInK (hK : X.K = K) : OpR X (compareOp .NotIn) (rIn K true) := by
  subst hK
  exact op_notIn_seq
theorem inK (hK : X.K = K) : OpR X (compareOp .In) (rIn K false) := by
  subst hK
  exact op_in_seq
theorem ixK (hK : X.K = K) : IxR X (rIx K) := by
  subst hK
  exact ix_seq
theorem addK' (hK : X.K = K) : OpR X (binaryOp .Add) (rAddA K) := by
  subst hK
  exact op_addA
theorem lenK (hK : X.K = K) : CallR X (.builtin "len") (rLenA K) := by
  subst hK
  exact cr_lenA
end
/-! lists of whole numbers and texts, compared -/
def flatD : PyData → Bool
  | .int _ => true
  | .str x => PyData.strOk x
  | _ => false
theorem lay_flat : ∀ ds : List PyData, (∀ d ∈ ds, flatD d = true) → PyData.canLayAll0 ds = true ∧ PyData.depthAll ds = 0 ∧ PyData.eqvAll ds ds = true
  | [], _ => ⟨by simp [PyData.canLayAll0], by simp [PyData.depthAll], by simp [PyData.eqvAll]⟩
  | d :: ds, h => by
    obtain ⟨h1, h2, h3⟩ := lay_flat ds fun x hx => h x (List.mem_cons_of_mem _ hx)
    have hd := h d List.mem_cons_self
    cases d with
    | int i => exact ⟨by simp [PyData.canLayAll0, PyData.canLay0, h1], by simp [PyData.depthAll, PyData.depth, h2], by simp [PyData.eqvAll, PyData.eqv, h3]⟩
    | str i => exact ⟨by simp [PyData.canLayAll0, PyData.canLay0, h1]; exact hd, by simp [PyData.depthAll, PyData.depth, h2], by simp [PyData.eqvAll, PyData.eqv, h3]⟩
    | _ => cases hd
theorem shaped_flat (ds : List PyData) (h : ∀ d ∈ ds, flatD d = true) : SeqAt.shaped (.list ds) = true := by
  obtain ⟨h1, h2, h3⟩ := lay_flat ds h
  unfold SeqAt.shaped
  simp [PyData.canLay0, PyData.depth, h1, h2]
theorem eqv_flat (ds : List PyData) (h : ∀ d ∈ ds, flatD d = true) : PyData.eqv (.list ds) (.list ds) = true := by
  rw [PyData.eqv]
  exact (lay_flat ds h).2.2
section
variable {K : PySem.W.Frag} {H : Hp} {Q : VK}
def kD : Key → PyData
  | .inl i => .int i
  | .inr x => .str x
def okK : Key → Bool
  | .inl _ => true
  | .inr x => PyData.strOk x
theorem flat_kD (ks : List Key) (h : ∀ k ∈ ks, okK k = true) : ∀ d ∈ ks.map kD, flatD d = true := by
  intro d hd
  obtain ⟨k, hk, rfl⟩ := List.mem_map.mp hd
  have := h k hk
  cases k with
  | inl i => rfl
  | inr x => exact this
theorem dp_keys : ∀ (ks : List Key), DpAll K H (ks.map kV) (ks.map kD)
  | [] => .nil
  | .inl n :: ns => .cons (.int n) (dp_keys ns)
  | .inr n :: ns => .cons (.str n) (dp_keys ns)
theorem rd_eqNil {a b : Addr} {ns : List Key} (ok : ∀ k ∈ ns, okK k = true) (ha : SqL K H a (ns.map kV)) (hb : SqL K H b []) (q : Q (.bl ns.isEmpty) H) : rEqA K (.ref a) (.ref b) H Q := by
  refine .inr ⟨_, _, .lst ha (dp_keys ns), .lst hb .nil, shaped_flat _ (flat_kD ns ok), shaped_flat [] (by simp), ?_⟩
  cases ns with
  | nil => exact q
  | cons n ns => exact q
/-- two lists of the same keys -/
theorem rd_neSame {a b : Addr} {ns : List Key} (ok : ∀ k ∈ ns, okK k = true) (ha : SqL K H a (ns.map kV)) (hb : SqL K H b (ns.map kV)) (q : Q (.bl false) H) : rNeA K (.ref a) (.ref b) H Q := by
  refine .inr ⟨_, _, .lst ha (dp_keys ns), .lst hb (dp_keys ns), shaped_flat _ (flat_kD ns ok), shaped_flat _ (flat_kD ns ok), ?_⟩
  rw [eqv_flat _ (flat_kD ns ok)]
  exact q
theorem rd_eqSame {a b : Addr} {ns : List Key} (ok : ∀ k ∈ ns, okK k = true) (ha : SqL K H a (ns.map kV)) (hb : SqL K H b (ns.map kV)) (q : Q (.bl true) H) : rEqA K (.ref a) (.ref b) H Q := by
  refine .inr ⟨_, _, .lst ha (dp_keys ns), .lst hb (dp_keys ns), shaped_flat _ (flat_kD ns ok), shaped_flat _ (flat_kD ns ok), ?_⟩
  rw [eqv_flat _ (flat_kD ns ok)]
  exact q
theorem rd_ixTk {a : Addr} {xs : List V} {i : Int} {n : Nat} {v : V} (h : SqT K H a xs) (hi : i = (n : Nat)) (e : xs[n]? = some v) (q : Q v H) : rIx K (.ref a) (.int i) H Q := by
  subst hi
  exact rd_ixT h (atI_nat e) q
end
end Qa
namespace Qs
open PySem PySem.Spec PyProof.Rows L2
/-! sets of ints and texts, made of a list, sorted -/
def keyK (e : Int × Value) : Key := match e.2 with | .int k _ => .inl k | .str x _ => .inr x | _ => .inl 0
def GoodK (w : World) (e : Int × Value) : Prop := ∃ k, keyIs k e.2 = true ∧ e.1 = keyH w k
theorem keyK_is {e : Int × Value} {k : Key} (h : keyIs k e.2 = true) : keyK e = k := by
  obtain ⟨a, v⟩ := e
  rcases keyIs_shape h with ⟨i, t, rfl, e1⟩ | ⟨x, t, rfl, e1⟩
  · cases (show v = Value.int i t from e1); rfl
  · cases (show v = Value.str x t from e1); rfl
theorem goodK_is {w : World} {P : Program} {e : Int × Value} (g : GoodK w e) (k : Key) : (mixKind P w).is k e.2 = true ↔ keyK e = k := by
  obtain ⟨k0, h1, _⟩ := g
  constructor
  · intro h
    exact keyK_is h
  · intro h
    rw [keyK_is h1] at h
    rw [← h]
    exact h1
theorem goodK_scan {w : World} {e : Int × Value} (g : GoodK w e) : e.2.scannable = true := by
  obtain ⟨k, h1, _⟩ := g
  obtain ⟨a, v⟩ := e
  rcases keyIs_shape h1 with ⟨i, t, rfl, e1⟩ | ⟨x, t, rfl, e1⟩
  · cases (show v = Value.int i t from e1); rfl
  · cases (show v = Value.str x t from e1); rfl
/-- the set at a: its keys, none twice -/
def SetG (w : World) (h : Heap) (a : Addr) (ks : List Key) : Prop :=
  ∃ o es ep t, h.get? a = some o ∧ o.ExactSet ∧ o.data = .set es ep t ∧ (∀ e ∈ es.toList, GoodK w e) ∧ (es.toList.map keyK).Perm ks ∧ ks.Nodup ∧
    es.size < scanBound ∧ t.fits es.size = true ∧ Ris t.place.toList ∧ (w.params.followText "set-order" = true ∨ t.led = true)
section
variable {P : Program} {w : World} {A : Around} {E : Value → Shared → Prop} {s : Shared} {a : Addr} {ks : List Key}
theorem SetG.at {h h' : Heap} (R : SetG w h a ks) (k : ∀ o, h.get? a = some o → h'.get? a = some o) : SetG w h' a ks := by
  obtain ⟨o, es, ep, t, ho, r⟩ := R
  exact ⟨o, es, ep, t, k o ho, r⟩
theorem goodK_elems {l : List (Int × Value)} (g : ∀ e ∈ l, GoodK w e) : ElemsOf (mixKind P w) l := fun e he => by
  obtain ⟨k, h1, h2⟩ := g e he
  exact ⟨⟨k, h1, h2⟩, goodK_scan (g e he)⟩
theorem setG_tail {g : Bool → Sem Unit} (hg : ∀ (b : Bool) (s₁ : Shared) (Q' : Unit → Shared → Prop), Q' () s₁ → wpAny (model P w) A (g b) Q' E s₁)
    {o : Obj} {es : Array (Int × Value)} {ep : Nat} {t : SetTable} (ho : s.heap.get? a = some o) (hex : o.ExactSet) (hd : o.data = .set es ep t)
    {es1 : Array (Int × Value)} {t2 : SetTable} (g1 : ∀ e ∈ es1.toList, GoodK w e) (p1 : (es1.toList.map keyK).Perm ks) (n1 : ks.Nodup)
    (hb1 : es1.size < scanBound) (hf2 : t2.fits es1.size = true) (hr : Ris t2.place.toList) (hl : w.params.followText "set-order" = true ∨ t2.led = true) {wasDummy : Bool} {R : Option Bool → Shared → Prop}
    (hR : ∀ h', Heap.SameBut a s.heap h' → SetG w h' a ks → R (some true) { s with heap := h' }) :
    wpAny (model P w) A (do
        storeSet a es1 t2
        if (!wasDummy && t2.tooFull) = true then do
            g (relayAll t2 es1 (SetTable.grown es1.size)).2.2
            storeSet a (relayAll t2 es1 (SetTable.grown es1.size)).1 (relayAll t2 es1 (SetTable.grown es1.size)).2.1
            pure (some true)
          else pure (some true)) R E s := by
  have sb1 := Heap.SameBut.update s.heap a (Obj.putSet es1 t2)
  have at1 := store_at (es' := es1) (t' := t2) ho hd
  refine wpAny_bind (wpAny_storeSet_of ho hd ?_ (fits_of_scanBound hb1))
  by_cases full : (!wasDummy && t2.tooFull) = true
  · rw [if_pos full]
    have pm := relayAll_perm t2 es1 (SetTable.grown es1.size)
    have f3 := relayAll_fits t2 es1 (SetTable.grown es1.size)
    have r3 := relayAll_ris t2 es1 (SetTable.grown es1.size)
    have l3 := relayAll_led t2 es1 (SetTable.grown es1.size)
    revert pm f3 r3 l3
    generalize relayAll t2 es1 (SetTable.grown es1.size) = Z
    obtain ⟨es2, t3, gave⟩ := Z
    intro pm f3 r3 l3
    have sz : es2.size = es1.size := by
      have := pm.length_eq
      simpa using this
    refine wpAny_bind (hg _ _ _ (wpAny_bind (wpAny_storeSet_of at1 rfl ?_ (fits_of_scanBound (show es2.size < scanBound by rw [sz]; exact hb1)))))
    refine wpAny_pure (hR _ (sb1.trans (Heap.SameBut.update _ a _)) ⟨_, es2, _, t3, store_at (es' := es2) (t' := t3) at1 rfl, hex, rfl, fun e he => g1 e (pm.mem_iff.mp he), (pm.map keyK).trans p1, n1, by rw [sz]; exact hb1, f3, r3, ?_⟩)
    rcases hl with hl | hl
    · exact .inl hl
    · exact .inr (l3.trans hl)
  · rw [if_neg full]
    exact wpAny_pure (hR _ sb1 ⟨_, es1, _, t2, at1, hex, rfl, g1, p1, n1, hb1, hf2, hr, hl⟩)
def addK (ks : List Key) (k : Key) : List Key := if (ks.any fun j => decide (j = k)) = true then ks else k :: ks
theorem any_mem {ks : List Key} {k : Key} : (ks.any fun j => decide (j = k)) = true ↔ k ∈ ks := by
  rw [List.any_eq_true]
  exact ⟨fun ⟨j, h, e⟩ => of_decide_eq_true e ▸ h, fun h => ⟨k, h, decide_eq_true rfl⟩⟩
theorem setG_add {k : Key} {v : Value} {Q : Bool → Shared → Prop} (R : SetG w s.heap a ks) (hkey : keyIs k v = true) (room : ks.length + 1 < scanBound)
    (hQ : ∀ h' b, Heap.SameBut a s.heap h' → SetG w h' a (addK ks k) → Q b { s with heap := h' }) :
    wpAny (model P w) A (setAddHashed a v ((mixKind P w).hash k)) Q E s := by
  obtain ⟨o, es, ep, t, ho, hex, hd, g, pk, nd, hb, hf, hr, hl⟩ := R
  have hkey' : (mixKind P w).is k v = true := hkey
  have hsc : v.scannable = true := by
    rcases keyIs_shape hkey with ⟨i, t, rfl, rfl⟩ | ⟨x, t, rfl, rfl⟩ <;> rfl
  have hel : ElemsOf (mixKind P w) es.toList := goodK_elems g
  have mem : k ∈ ks ↔ ∃ e ∈ es.toList, (mixKind P w).is k e.2 = true := by
    rw [← pk.mem_iff, List.mem_map]
    exact ⟨fun ⟨e, he, q⟩ => ⟨e, he, (goodK_is (g e he) k).2 q⟩, fun ⟨e, he, q⟩ => ⟨e, he, (goodK_is (g e he) k).1 q⟩⟩
  unfold setAddHashed setAddHashedIn
  refine wpAny_holding (wpAny_bind (wpAny_setState_of ho hd hf ?_))
  dsimp only
  rw [byScan_of hsc hb hel]
  simp only [↓reduceIte]
  unfold setAddByScan
  refine wpAny_bind (wpAny_bind (wpAny_rule (wpAny_bind (wpAny_setScan_of hkey' ho hd hf hel ?_))))
  cases hfi : List.findIdx? (fun e => (mixKind P w).is k e.2) es.toList with
  | some j =>
    obtain ⟨hj, pj, _⟩ := List.findIdx?_eq_some_iff_getElem.mp hfi
    have inK : k ∈ ks := mem.2 ⟨es.toList[j], List.getElem_mem hj, pj⟩
    have eK : addK ks k = ks := if_pos (any_mem.2 inK)
    refine wpAny_pure (wpAny_pure (hQ s.heap _ (Heap.SameBut.refl a s.heap) ?_))
    rw [eK]
    exact ⟨o, es, ep, t, ho, hex, hd, g, pk, nd, hb, hf, hr, hl⟩
  | none =>
    have outK : k ∉ ks := fun z => by
      obtain ⟨e, he, q⟩ := mem.1 z
      have c := List.findIdx?_eq_none_iff.mp hfi e he
      rw [q] at c
      cases c
    have eK : addK ks k = k :: ks := if_neg fun z => outK (any_mem.1 z)
    dsimp only
    have pm := layNew_perm t es ((mixKind P w).hash k) v
    have f1 := layNew_fits t es ((mixKind P w).hash k) v
    have r1 := layNew_ris t es ((mixKind P w).hash k) v hr
    have l1 := layNew_led t es ((mixKind P w).hash k) v
    revert pm f1 r1 l1
    generalize layNew t es ((mixKind P w).hash k) v = Z
    obtain ⟨es1, t1, wasDummy, gave⟩ := Z
    intro pm f1 r1 l1
    dsimp only at pm f1 r1 l1 ⊢
    rw [Array.toList_push] at pm
    have pc : es1.toList.Perm (((mixKind P w).hash k, v) :: es.toList) := pm.trans (List.perm_append_singleton _ _)
    have pk1 : (es1.toList.map keyK).Perm (k :: ks) := by
      have q := pc.map keyK
      rw [List.map_cons, keyK_is (e := ((mixKind P w).hash k, v)) hkey] at q
      exact q.trans (pk.cons k)
    have g1 : ∀ e ∈ es1.toList, GoodK w e := fun e he => by
      rcases List.mem_cons.mp (pc.mem_iff.mp he) with z | z
      · rw [z]; exact ⟨k, hkey, rfl⟩
      · exact g e z
    have nd1 : (k :: ks).Nodup := List.nodup_cons.mpr ⟨outK, nd⟩
    have hb1 : es1.size < scanBound := by
      have q := pk1.length_eq
      rw [List.length_map, Array.length_toList, List.length_cons] at q
      omega
    have led1 : w.params.followText "set-order" = true ∨ t1.led = true := by
      rcases hl with z | z
      · exact .inl z
      · exact .inr (l1.trans z)
    have gw : ∀ (b : Bool) (s₁ : Shared) (Q' : Unit → Shared → Prop), Q' () s₁ → wpAny (model P w) A (match b with | true => rule "set.scan.the-table-gave-way" | false => pure ()) Q' E s₁ := fun b s₁ Q' q => by
      cases b
      · exact wpAny_pure q
      · exact wpAny_rule q
    have fin : ∀ h', Heap.SameBut a s.heap h' → SetG w h' a (k :: ks) → Q true { s with heap := h' } := fun h' sb r => hQ h' true sb (by rw [eK]; exact r)
    refine wpAny_bind (gw _ _ _ ?_)
    split
    · refine wpAny_bind ?_
      rw [hashByValue_scannable 8 hsc]
      refine wpAny_pure (setG_tail gw ho hex hd g1 pk1 nd1 hb1 ?_ ?_ ?_ fun h' sb r => ?_)
      · first
          | exact f1
          | (split <;> first | exact f1 | exact SetTable.fits_plain_off f1)
      · first
          | exact r1
          | (split <;> exact r1)
      · first
          | exact led1
          | (split <;> exact led1)
      · dsimp only
        exact wpAny_pure (fin h' sb r)
    · refine wpAny_bind (wpAny_pure ?_)
      simp only [↓reduceIte]
      refine setG_tail gw ho hex hd g1 pk1 nd1 hb1 f1 r1 led1 fun h' sb r => ?_
      dsimp only
      exact wpAny_pure (fin h' sb r)
/-- the keys of a list, none twice -/
def foldK (xs : List Key) : List Key := xs.foldl addK []
theorem foldK_snoc (xs : List Key) (k : Key) : foldK (xs ++ [k]) = addK (foldK xs) k := by
  unfold foldK
  rw [List.foldl_append]
  rfl
theorem addK_len (ks : List Key) (k : Key) : (addK ks k).length ≤ ks.length + 1 := by
  unfold addK
  split
  · omega
  · exact Nat.le_refl _
theorem mem_addK {ks : List Key} {k j : Key} : j ∈ addK ks k ↔ j ∈ ks ∨ j = k := by
  unfold addK
  split
  · rename_i h
    have := any_mem.1 h
    exact ⟨.inl, fun z => z.elim id fun e => e ▸ this⟩
  · rw [List.mem_cons]
    exact Or.comm
theorem foldK_facts : ∀ (xs ks : List Key), (xs.foldl addK ks).length ≤ ks.length + xs.length ∧ ∀ j, j ∈ xs.foldl addK ks ↔ j ∈ ks ∨ j ∈ xs
  | [], ks => ⟨Nat.le_refl _, fun j => by simp⟩
  | x :: xs, ks => by
    have ih := foldK_facts xs (addK ks x)
    have l := addK_len ks x
    refine ⟨by show (xs.foldl addK (addK ks x)).length ≤ _; have := ih.1; rw [List.length_cons]; omega, fun j => ?_⟩
    show j ∈ xs.foldl addK (addK ks x) ↔ _
    rw [ih.2 j, mem_addK, List.mem_cons]
    exact or_assoc
theorem foldK_len (xs : List Key) : (foldK xs).length ≤ xs.length := by
  have := (foldK_facts xs []).1
  simpa [foldK] using this
theorem mem_foldK {xs : List Key} {j : Key} : j ∈ foldK xs ↔ j ∈ xs := by
  have := (foldK_facts xs []).2 j
  simpa [foldK] using this
theorem setG_new {h : Heap} {a : Addr} (ho : h.get? a = some { cls := .type "set", dict := none, data := .set #[] 0 (.fresh 0 0 (!w.params.followText "set-order")) }) : SetG w h a [] := by
  refine ⟨_, #[], 0, _, ho, ⟨rfl, rfl, rfl⟩, rfl, fun e he => absurd he (by simp), by simp, List.nodup_nil, by decide, rfl, List.Pairwise.nil, ?_⟩
  cases hx : w.params.followText "set-order" with
  | true => exact .inl rfl
  | false => exact .inr rfl
theorem setG_update {I : Addr} {fp wr : List Addr} {G : Array GenState → Array GenState → Prop} {n : Nat} {Pv : Nat → Value → Prop} {St : Nat → Shared → Prop} {R : Result → Shared → Prop}
    (W : WalksS P w A.in1 I fp wr G n Pv St) (S : Addr) (hSf : S ∉ fp) (xs : List Key) (hn : n = xs.length) (hb : xs.length + 1 < scanBound) (hval : ∀ i v, Pv i v → ∃ k, xs[i]? = some k ∧ keyIs k v = true) :
    ∀ (m i : Nat) (s : Shared), n - i = m → i ≤ n → St i s → SetG w s.heap S (foldK (xs.take i)) →
      (∀ s', Moved (S :: wr) G s s' → SetG w s'.heap S (foldK xs) → R (.ok (.ret .none)) s') →
      codeAny (model P w) A (.builtin "set.update.loop" ⟨[.ref S, .ref I], []⟩) R s := by
  have notW : S ∉ wr := fun z => hSf (W.sub _ z)
  intro m
  induction m with
  | zero =>
    intro i s hm hi hst hS hR
    obtain rfl : i = n := by omega
    rw [show xs.take i = xs from List.take_of_length_le (by omega)] at hS
    refine codeAny_builtin F.entry_set_update_loop ?_
    rw [Around.under_plainId F.plain_set_update_loop _]
    show wpAny _ A.in1 (pyNext (.ref I) >>= _) _ _ s
    exact wpAny_bind (W.done s _ _ hst fun s' mv => wpAny_pure (hR s' (mv.mono fun b hb => List.mem_cons_of_mem _ hb) (hS.at fun o e => mv.heap S o notW e)))
  | succ m ih =>
    intro i s hm hi hst hS hR
    have lt : i < n := by omega
    refine codeAny_builtin F.entry_set_update_loop ?_
    rw [Around.under_plainId F.plain_set_update_loop _]
    show wpAny _ A.in1 (pyNext (.ref I) >>= _) _ _ s
    refine wpAny_bind (W.item i s _ _ lt hst fun v s' hP hst' mv => ?_)
    obtain ⟨k, hk, hkey⟩ := hval i v hP
    have sc : v.scannable = true := by
      rcases keyIs_shape hkey with ⟨i, t, rfl, rfl⟩ | ⟨x, t, rfl, rfl⟩ <;> rfl
    have hS' : SetG w s'.heap S (foldK (xs.take i)) := hS.at fun o e => mv.heap S o notW e
    have len := foldK_len (xs.take i)
    rw [List.length_take] at len
    show wpAny _ A.in1 (holding [v] (setAdd S v) >>= _) _ _ s'
    refine wpAny_bind (wpAny_holding ?_)
    unfold setAdd
    refine wpAny_holding (wpAny_bind ((mixKind P w).pyHash (k := k) hkey ?_))
    refine setG_add (s := { s' with toks := s'.toks + 1 }) hS' hkey (by omega) fun h' b sb hS2 => ?_
    have e3 : addK (foldK (xs.take i)) k = foldK (xs.take (i + 1)) := by
      rw [List.take_add_one, hk]
      exact (foldK_snoc _ _).symm
    rw [e3] at hS2
    refine wpAny_pure ⟨plainId_quiet F.plain_set_update_loop _, ih (i + 1) _ (by omega) lt (W.frame _ s' _ _ hst' (Nat.le_succ _) fun c hc o e => ?_) hS2 fun s'' mv2 r => ?_⟩
    · rw [sb.2 c (by rintro rfl; exact hSf hc)]
      exact e
    · refine hR s'' (Moved.trans W.gtrans ((mv.mono fun b hb => List.mem_cons_of_mem _ hb).then_heap (Nat.le_succ _) fun c o hc e => ?_) mv2) r
      rw [sb.2 c (by rintro rfl; exact hc List.mem_cons_self)]
      exact e
/-- the new set, its table as the setting says -/
abbrev set0 (w : World) : Obj := { cls := .type "set", dict := none, data := .set #[] 0 (.fresh 0 0 (!w.params.followText "set-order")) }
set_option maxHeartbeats 8000000 in
/-- set(xs), a list of ints and texts -/
theorem call_setG {l : Addr} {items : Array Value} (xs : List Key) {Q : Value → Shared → Prop} (hh : A.handled = none) (hl : s.heap.IsList l items) (hn : items.size = xs.length) (hv : ∀ (i : Nat) (v : Value), items[i]? = some v → ∃ k, xs[i]? = some k ∧ keyIs k v = true) (hb : xs.length + 1 < scanBound)
    (h : ∀ (h' : Heap) (tk : Nat), SetG w h' s.heap.objs.size (foldK xs) → (∀ b o, s.heap.get? b = some o → h'.get? b = some o) → Q (.ref s.heap.objs.size) { s with heap := h', toks := tk }) :
    wpAny (model P w) A (call (.type "set") [.ref l]) Q E s := by
  obtain ⟨c, tl, hmro⟩ := F.called_set.mro
  have made := F.called_set.made
  have sub := F.called_set.sub
  have ct := F.typeCall_set_1 (.ref l)
  have nt := F.called_set.notType
  have cc := F.called_set.canCreate
  refine wpAny_call (codeAny_of_tree ?_)
  show wpAny _ _ (callAny (.type "set") _) _ _ _
  refine wpAny_pure ⟨Code.quiet_builtin _ (by decide +kernel), codeAny_builtin F.entry_type_call ?_⟩
  rw [Around.under_plain (weight_type_call_type "set" [.ref l] []) rfl]
  repeat (any_goals (first | assumption | wp_step))
  refine codeAny_mono (code_set_led1 (.ref l) (E := E) (Q₁ := fun obj s₁ => obj = .ref s.heap.objs.size ∧ s₁ = { s with heap := s.heap.push (set0 w) }) ⟨rfl, rfl⟩) fun r s₁ hr => ?_
  cases r with
  | error e => exact hr
  | ok fl =>
    cases fl with
    | ret obj =>
      obtain ⟨rfl, rfl⟩ := hr
      have new : (s.heap.push (set0 w)).get? s.heap.objs.size = some (set0 w) := Heap.get?_push_size _ rfl
      have ty : Shared.TypeIs { s with heap := s.heap.push (set0 w) } (.ref s.heap.objs.size) "set" := ⟨_, new, rfl⟩
      have il := F.called_set.init.lookup
      have ib := F.called_set.init.bind (.ref s.heap.objs.size)
      repeat (any_goals (first | assumption | wp_step))
      refine codeAny_mono (codeAny_call_builtin (R := wants (fun r s₂ => r = .none ∧ ∃ h' tk, s₂ = { s with heap := h', toks := tk } ∧ SetG w h' s.heap.objs.size (foldK xs) ∧ (∀ b o, s.heap.get? b = some o → h'.get? b = some o)) E)
        F.called_set.init.plain F.entry_set_init (check_set_init_1 ty ?_)) fun r₂ s₂ hr₂ => ?_
      · obtain ⟨ol, hol, hcl, nl, hdl⟩ := hl
        obtain ⟨ocls, odict, odata, oslots⟩ := ol
        simp only at hcl hdl
        subst hcl
        subst hdl
        have there : (s.heap.push (set0 w)).get? l = some { cls := .type "list", dict := odict, data := .seq items nl, slots := oslots } := Heap.get?_push_of_some _ hol
        have nos := F.sub_list_set
        have nof := F.sub_list_frozenset
        have nod : (Value.type "list" == Value.type "dict") = false := by decide
        have is1 : (s.heap.push (set0 w)).IsList l items := ⟨_, there, rfl, nl, rfl⟩
        unfold Builtin.«set.__init__» noKeywords Builtin.Frozenset.updateFrom
        generalize hPI : pyIter = PI
        wp_walk
        subst hPI
        refine wpAny_pyIter_list is1 (wpAny_bind (wpAny_runValue ?_))
        have lt : l < s.heap.objs.size := Heap.lt_size hol
        have hh3 : A.in1.in1.in1.handled = none := by simp [hh]
        have z1 : (s.heap.push (set0 w)).objs.size = s.heap.objs.size + 1 := Heap.size_push ..
        have ne : l ≠ (s.heap.push (set0 w)).objs.size := by
          rw [z1]
          exact Nat.ne_of_lt (Nat.lt_succ_of_lt lt)
        have out : s.heap.objs.size ∉ [(s.heap.push (set0 w)).objs.size, l] := by
          rw [z1]
          intro hm
          rcases List.mem_cons.mp hm with e | hm
          · exact absurd e (Nat.ne_of_lt (Nat.lt_succ_self _))
          · exact absurd (List.mem_singleton.mp hm) (Nat.ne_of_gt lt)
        refine setG_update ((Walks.list hh3 _ l ne items).toS) s.heap.objs.size out xs hn hb (fun i v hiv => hv i v hiv) (items.size - 0) 0 _ (by omega) (Nat.zero_le _)
          ⟨⟨_, Heap.get?_push_size _ rfl, rfl, rfl⟩, is1.push _⟩ ?hS0 ?hR
        case hS0 => exact setG_new (Heap.get?_push_of_some _ new)
        case hR =>
          intro s' mv hS'
          obtain ⟨h', g2, d', tk', os'⟩ := s'
          cases (show g2 = s.gens from mv.gens)
          cases (show d' = s.drawn from mv.drawn)
          cases (show os' = s.os from mv.os)
          show wpAny _ _ _ _ _ _
          refine wpAny_pure ?_
          show wpAny _ _ (ret Value.none) _ _ _
          refine wpAny_pure ⟨rfl, h', tk', rfl, hS', fun b o e => ?_⟩
          have b0 : b < s.heap.objs.size := Heap.lt_size e
          refine mv.heap b o (fun hm => ?_) (Heap.get?_push_of_some _ (Heap.get?_push_of_some _ e))
          rcases List.mem_cons.mp hm with q | hm
          · exact absurd q (Nat.ne_of_lt b0)
          · have q := List.mem_singleton.mp hm
            rw [q, z1] at b0
            exact absurd b0 (Nat.not_lt.mpr (Nat.le_succ _))
      · cases r₂ with
        | error e => exact hr₂
        | ok fl₂ =>
          cases fl₂ with
          | ret r =>
            obtain ⟨rfl, h', tk, rfl, hS', hk'⟩ := hr₂
            repeat (any_goals (first | assumption | wp_step))
            exact h _ _ hS' hk'
          | _ => exact hr₂.elim
    | _ => exact hr.elim
end
end Qs
namespace Qs
open PySem PySem.Spec PyProof.Rows L2
section
variable {P : Program} {w : World} {A : Around} {E : Value → Shared → Prop} {s : Shared} {a : Addr} {ks : List Key}
def keyN : Key → Int | .inl i => i | .inr _ => 0
def keyT : Key → Str | .inr x => x | .inl _ => ⟨#[]⟩
theorem keyN_of (e : Int × Value) : keyN (keyK e) = SrtO.iv e.2 := by
  obtain ⟨a, v⟩ := e
  cases v <;> rfl
theorem keyT_of (e : Int × Value) : keyT (keyK e) = strOf e.2 := by
  obtain ⟨a, v⟩ := e
  cases v <;> rfl
theorem perm_map {β : Type} {f : Key → β} {g : Value → β} (h : ∀ e : Int × Value, f (keyK e) = g e.2) {l : List (Int × Value)} {vs : List Value} (p : (l.map keyK).Perm ks) (pm : vs.Perm (l.map (·.2))) : (vs.map g).Perm (ks.map f) := by
  have e : (l.map (·.2)).map g = (l.map keyK).map f := by
    rw [List.map_map, List.map_map]
    exact List.map_congr_left fun x _ => (h x).symm
  have q := pm.map g
  rw [e] at q
  exact q.trans (p.map f)
theorem good_int {l : List (Int × Value)} (g : ∀ e ∈ l, GoodK w e) {ns : List Int} (p : (l.map keyK).Perm (ns.map Sum.inl)) {vs : List Value} (pm : vs.Perm (l.map (·.2))) : ∀ v ∈ vs, ∃ i t, v = Value.int i t := by
  intro v hv
  obtain ⟨e, he, rfl⟩ := List.mem_map.mp (pm.mem_iff.mp hv)
  obtain ⟨k, hk, _⟩ := g e he
  have m : k ∈ ns.map Sum.inl := p.mem_iff.mp (List.mem_map.mpr ⟨e, he, keyK_is hk⟩)
  obtain ⟨n, _, rfl⟩ := List.mem_map.mp m
  rcases keyIs_shape hk with ⟨i, t, _, e2⟩ | ⟨x, t, e1, _⟩
  · exact ⟨i, t, e2⟩
  · cases e1
theorem good_str {l : List (Int × Value)} (g : ∀ e ∈ l, GoodK w e) {ns : List Str} (p : (l.map keyK).Perm (ns.map Sum.inr)) {vs : List Value} (pm : vs.Perm (l.map (·.2))) : ∀ v ∈ vs, ∃ i t, v = Value.str i t := by
  intro v hv
  obtain ⟨e, he, rfl⟩ := List.mem_map.mp (pm.mem_iff.mp hv)
  obtain ⟨k, hk, _⟩ := g e he
  have m : k ∈ ns.map Sum.inr := p.mem_iff.mp (List.mem_map.mpr ⟨e, he, keyK_is hk⟩)
  obtain ⟨n, _, rfl⟩ := List.mem_map.mp m
  rcases keyIs_shape hk with ⟨i, t, e1, _⟩ | ⟨x, t, _, e2⟩
  · cases e1
  · exact ⟨x, t, e2⟩
theorem ofBound {n : Nat} (h : n < scanBound) : n ≤ sizeLine := fits_of_scanBound h
theorem sorted_setI {ns : List Int} {Q : Value → Shared → Prop} (R : SetG w s.heap a (ns.map Sum.inl)) (hh : A.handled = none)
    (hQ : ∀ s' p (out : Array Value) (c : Nat) (ns' : List Int), (∀ b o, s.heap.get? b = some o → s'.heap.get? b = some o) → s'.gens = s.gens → s'.os = s.os → s.heap.objs.size ≤ p →
      s'.heap.get? p = some (seqObj "list" out c) → IntsAre out.toList ns' → ns'.Perm ns → ns'.Pairwise (· ≤ ·) → Q (.ref p) s') :
    wpAny (model P w) A (call (.builtin "sorted") [.ref a]) Q E s := by
  obtain ⟨o, es, ep, t, ho, hex, hd, g, pk, nd, hb, hf, hr, hl⟩ := R
  refine Calls.call_function_entry kind_sorted plain_sorted entry_sorted (args_sorted1 _) ?_
  unfold Builtin.«sorted»
  refine wpAny_bind (m := checkCount "sorted" 1 1 _) (wpAny_pure (wpAny_bind (collect_set (A := A.in1) hh ⟨o, ho, hex.1, hd⟩ hf hb hr hl fun s1 vs k1 hz g1 o1 pm => ?_)))
  have lvs : vs.length ≤ sizeLine := by
    rw [pm.length_eq, List.length_map, Array.length_toList]
    exact ofBound hb
  have isI : IntsAre vs (vs.map SrtO.iv) := SrtO.ints_iv (good_int g pk pm)
  have pI : (vs.map SrtO.iv).Perm ns := by
    have q := perm_map keyN_of pk pm
    rw [List.map_map, show (keyN ∘ Sum.inl : Int → Int) = id from rfl, List.map_id] at q
    exact q
  refine wpAny_bind (wpAny_newList ?_ lvs)
  have hoL : (s1.heap.push (seqObj "list" vs.toArray 0)).get? s1.heap.objs.size = some (seqObj "list" vs.toArray 0) := Heap.get?_push_size _ rfl
  refine wpAny_bind (wpAny_holding (wpAny_call_entry slot_list_sort ⟨_, hoL, rfl⟩ entry_list_sort (list_sort_treeAny hoL isI lvs fun out ns' a1 a2 a3 => ⟨_, rfl, ?_⟩) (args_list_sort _)))
  obtain ⟨c, hc⟩ := sortedHeap_at (vs := vs) (out := out) hoL
  refine wpAny_pure ⟨_, rfl, hQ _ s1.heap.objs.size out c ns' (fun b u e => ?_) g1 o1 hz hc a1 (a2.trans pI) a3⟩
  have q := k1 b u e
  have lt := Heap.lt_size q
  show (sortedHeap (s1.heap.push (seqObj "list" vs.toArray 0)) s1.heap.objs.size vs out).get? b = some u
  rw [sortedHeap_old (Nat.ne_of_lt lt) (by rw [size_push']; exact Nat.lt_succ_of_lt lt)]
  exact Heap.get?_push_of_some _ q
theorem sorted_setS {ns : List Str} {Q : Value → Shared → Prop} (R : SetG w s.heap a (ns.map Sum.inr)) (hh : A.handled = none)
    (hQ : ∀ s' p (out : Array Value) (c : Nat) (ns' : List Str), (∀ b o, s.heap.get? b = some o → s'.heap.get? b = some o) → s'.gens = s.gens → s'.os = s.os → s.heap.objs.size ≤ p →
      s'.heap.get? p = some (seqObj "list" out c) → StrsAre out.toList ns' → ns'.Perm ns → sortedS ns' = true → Q (.ref p) s') :
    wpAny (model P w) A (call (.builtin "sorted") [.ref a]) Q E s := by
  obtain ⟨o, es, ep, t, ho, hex, hd, g, pk, nd, hb, hf, hr, hl⟩ := R
  refine Calls.call_function_entry kind_sorted plain_sorted entry_sorted (args_sorted1 _) ?_
  unfold Builtin.«sorted»
  refine wpAny_bind (m := checkCount "sorted" 1 1 _) (wpAny_pure (wpAny_bind (collect_set (A := A.in1) hh ⟨o, ho, hex.1, hd⟩ hf hb hr hl fun s1 vs k1 hz g1 o1 pm => ?_)))
  have lvs : vs.length ≤ sizeLine := by
    rw [pm.length_eq, List.length_map, Array.length_toList]
    exact ofBound hb
  have isS : StrsAre vs (vs.map strOf) := strsAre_map vs (good_str g pk pm)
  have pS : (vs.map strOf).Perm ns := by
    have q := perm_map keyT_of pk pm
    rw [List.map_map, show (keyT ∘ Sum.inr : Str → Str) = id from rfl, List.map_id] at q
    exact q
  refine wpAny_bind (wpAny_newList ?_ lvs)
  have hoL : (s1.heap.push (seqObj "list" vs.toArray 0)).get? s1.heap.objs.size = some (seqObj "list" vs.toArray 0) := Heap.get?_push_size _ rfl
  refine wpAny_bind (wpAny_holding (wpAny_call_entry slot_list_sort ⟨_, hoL, rfl⟩ entry_list_sort (list_sort_treeKAny strKind_oneLt hoL isS.keysOf (fun v₁ v₂ rest e => keyKind_strs (by rw [← e]; exact isS)) lvs fun st' hp hs => ?_) (args_list_sort _)))
  obtain ⟨ns', a1, a2, a3⟩ := sorted_out_str isS hp hs
  refine ⟨_, rfl, ?_⟩
  obtain ⟨c, hc⟩ := sortedHeap_at (vs := vs) (out := (arrOf st').map (·.2)) hoL
  refine wpAny_pure ⟨_, rfl, hQ _ s1.heap.objs.size _ c ns' (fun b u e => ?_) g1 o1 hz hc a1 (a2.trans pS) a3⟩
  have q := k1 b u e
  have lt := Heap.lt_size q
  show (sortedHeap (s1.heap.push (seqObj "list" vs.toArray 0)) s1.heap.objs.size vs _).get? b = some u
  rw [sortedHeap_old (Nat.ne_of_lt lt) (by rw [size_push']; exact Nat.lt_succ_of_lt lt)]
  exact Heap.get?_push_of_some _ q
end
/-! over the layer: the set at a -/
def SetV (w : World) (a : Addr) (ks : List Key) : HO := .ext fun h => SetG w h a ks
theorem setV_ok {w : World} {P : Program} {H : Hp} {h : Heap} {a : Addr} {ks : List Key} (R : SetG w h a ks) : ObjOk P w H h a (SetV w a ks) := by
  have at' := R
  obtain ⟨o, es, ep, t, ho, r⟩ := R
  exact ⟨at', ⟨o, ho⟩, fun h1 h2 (p : SetG w h1 a ks) k => p.at fun o e => k o e⟩
section
variable {X : Cx}
def rSetL (K : PySem.W.Frag) (w : World) : List V → Hp → VK → Prop := fun vs H Q => ∃ (a : Addr) (xs : List Key), vs = [.ref a] ∧ SqL K H a (xs.map kV) ∧ xs.length < 4000 ∧ ∀ p H', H p = none → H' = upd H p (SetV w p (foldK xs)) → Q (.ref p) H'
theorem keyIs_kV {k : Key} {v : Value} (r : RelV (kV k) v) : keyIs k v = true := by
  cases k with
  | inl i => obtain ⟨t, rfl⟩ := r; exact keyIs_int i t
  | inr x => obtain ⟨t, rfl⟩ := r; exact keyIs_str x t
theorem cr_setL (hc : X.calm = true) : CallR X (.type "set") (rSetL X.K X.w) := by
  intro pins s σ H vs us Q I r h
  obtain ⟨a, xs, rfl, hs, hb, q⟩ := h
  obtain ⟨its, rv, hl, hz⟩ := I.list hs
  rw [Vals.ref1 r]
  have ln := rv.length
  rw [List.length_map] at ln
  refine call_setG xs (I.ok.hd hc) hl.isList (by rw [List.size_toArray]; exact ln.symm) (fun i v hv => ?_) (by unfold scanBound; omega) fun h' tk R k => ?_
  · have hv' : its[i]? = some v := by simpa using hv
    cases e : xs[i]? with
    | none =>
      have q1 := List.getElem?_eq_none_iff.mp e
      have q2 := (List.getElem?_eq_some_iff.mp hv').1
      omega
    | some x =>
      obtain ⟨u, e2, ru⟩ := rv.get (i := i) (x := kV x) (by rw [List.getElem?_map, e]; rfl)
      rw [hv'] at e2
      cases e2
      exact ⟨x, rfl, keyIs_kV ru⟩
  · have fresh := I.hok.fresh (Nat.le_refl s.heap.objs.size)
    exact ⟨.ref _, _, I.laid (t' := tk) k (Nat.le_refl _) (setV_ok R), rfl, q _ _ fresh rfl⟩
def rSortSet (w : World) : List V → Hp → VK → Prop := fun vs H Q => ∃ (a : Addr), vs = [.ref a] ∧
  ((∃ ns : List Int, H a = some (SetV w a (ns.map Sum.inl)) ∧ ∀ (ns' : List Int) p, ns'.Perm ns → ns'.Pairwise (· ≤ ·) → H p = none → Q (.ref p) (upd H p (.lst (ns'.map V.int)))) ∨
   (∃ ns : List Str, H a = some (SetV w a (ns.map Sum.inr)) ∧ ∀ (ns' : List Str) p, ns'.Perm ns → sortedS ns' = true → H p = none → Q (.ref p) (upd H p (.lst (ns'.map V.str)))))
theorem new_at {pins : List (Addr × Obj)} {σ : L2.St} {H : Hp} {s s' : Shared} {p : Addr} {o : HO} {Q : VK} (I : Inv X pins σ H s) (hp : s.heap.objs.size ≤ p) (k : ∀ b u, s.heap.get? b = some u → s'.heap.get? b = some u) (g : s'.gens = s.gens) (os : s'.os = s.os)
    (ok : ObjOk X.prog X.w (upd H p o) s'.heap p o) (q : H p = none → Q (.ref p) (upd H p o)) : EP X pins σ Q (.ref p) s' := by
  have fr : H p = none := I.hok.fresh hp
  have J := I.call (g' := s'.gens) (t' := s'.toks) (d' := s'.drawn) (ch := []) (Un.laid k hp fr) (I.hok.laid k hp ok) (by rw [g]; exact I.bare) (fun _ z => nomatch z)
  have e : { s with heap := s'.heap, gens := s'.gens, drawn := s'.drawn, toks := s'.toks } = s' := by
    obtain ⟨h1, g1, d1, t1, o1⟩ := s'
    obtain ⟨h2, g2, d2, t2, o2⟩ := s
    cases (show o1 = o2 from os)
    rfl
  rw [e] at J
  exact ⟨.ref p, _, J, rfl, q fr⟩
theorem cr_sortSet (hc : X.calm = true) : CallR X (.builtin "sorted") (rSortSet X.w) := by
  intro pins s σ H vs us Q I r h
  obtain ⟨a, rfl, h⟩ := h
  rw [Vals.ref1 r]
  rcases h with ⟨ns, ha, q⟩ | ⟨ns, ha, q⟩
  · have R : SetG X.w s.heap a (ns.map Sum.inl) := (I.hok a _ ha).1
    refine sorted_setI R (I.ok.hd hc) fun s' p out c ns' k g o1 hp at' h1 h2 h3 => ?_
    have len : (ns'.map V.int).length ≤ sizeLine := by
      rw [List.length_map, h2.length_eq]
      obtain ⟨o, es, ep, t, _, _, _, _, pk, _, hb, _⟩ := R
      have e := pk.length_eq
      rw [List.length_map, List.length_map, Array.length_toList] at e
      rw [← e]
      exact ofBound hb
    exact new_at (o := .lst (ns'.map V.int)) I hp k g o1 ⟨len, out.toList, c, vals_of_ints h1, at'⟩ (q ns' p h2 h3)
  · have R : SetG X.w s.heap a (ns.map Sum.inr) := (I.hok a _ ha).1
    refine sorted_setS R (I.ok.hd hc) fun s' p out c ns' k g o1 hp at' h1 h2 h3 => ?_
    have len : (ns'.map V.str).length ≤ sizeLine := by
      rw [List.length_map, h2.length_eq]
      obtain ⟨o, es, ep, t, _, _, _, _, pk, _, hb, _⟩ := R
      have e := pk.length_eq
      rw [List.length_map, List.length_map, Array.length_toList] at e
      rw [← e]
      exact ofBound hb
    exact new_at (o := .lst (ns'.map V.str)) I hp k g o1 ⟨len, out.toList, c, vals_of_strs h1, at'⟩ (q ns' p h2 h3)
end
end Qs
namespace Qa
open PySem PySem.Spec PyProof.Rows L2
/-! sorted, of lists and sets of keys -/
def leS (a b : Str) : Prop := ltCps b.cps.toList a.cps.toList = false
theorem leS_iff {a b : Str} : leS a b ↔ ¬ b.cps.toList < a.cps.toList := by
  unfold leS
  rw [ltCps_eq, decide_eq_false_iff_not]
theorem leS_trans {a b c : Str} (h : leS a b) (h' : leS b c) : leS a c := by
  rw [leS_iff] at *
  exact List.not_lt.mpr (List.le_trans (List.not_lt.mp h) (List.not_lt.mp h'))
theorem leS_anti {a b : Str} (h : leS a b) (h' : leS b a) : a = b := by
  rw [leS_iff] at *
  have e : a.cps.toList = b.cps.toList := List.le_antisymm (List.not_lt.mp h) (List.not_lt.mp h')
  obtain ⟨x⟩ := a
  obtain ⟨y⟩ := b
  exact congrArg Str.mk (Array.toList_inj.mp e)
theorem pw_rising : ∀ (l : List Str) (p : Str), risingS p l = true → (p :: l).Pairwise leS
  | [], p, _ => by simp
  | x :: r, p, h => by
    have h' : leS p x ∧ risingS x r = true := by
      have : (!ltCps x.cps.toList p.cps.toList && risingS x r) = true := h
      simpa [leS] using this
    have ih := pw_rising r x h'.2
    refine List.pairwise_cons.mpr ⟨fun y hy => ?_, ih⟩
    rcases List.mem_cons.mp hy with rfl | hy
    · exact h'.1
    · exact leS_trans h'.1 ((List.pairwise_cons.mp ih).1 y hy)
theorem pw_sorted {l : List Str} (h : sortedS l = true) : l.Pairwise leS := by
  cases l with
  | nil => exact .nil
  | cons x r => exact pw_rising r x h
def srt (ks : List Key) : Prop := (∃ ns : List Int, ks = ns.map Sum.inl ∧ ns.Pairwise (· ≤ ·)) ∨ (∃ xs : List Str, ks = xs.map Sum.inr ∧ sortedS xs = true)
def hom (ks : List Key) : Prop := (∃ ns : List Int, ks = ns.map Sum.inl) ∨ (∃ xs : List Str, ks = xs.map Sum.inr)
theorem leK : ∀ {ks : List Key}, srt ks → ks.Pairwise (fun a b => match a, b with | .inl i, .inl j => i ≤ j | .inr x, .inr y => leS x y | _, _ => False) := by
  intro ks h
  rcases h with ⟨ns, rfl, h⟩ | ⟨xs, rfl, h⟩
  · exact List.pairwise_map.mpr h
  · exact List.pairwise_map.mpr (pw_sorted h)
theorem srt_uniq {ks ls : List Key} (p : ks.Perm ls) (a : srt ks) (b : srt ls) : ks = ls := by
  refine p.eq_of_pairwise (fun x y _ _ h h' => ?_) (leK a) (leK b)
  cases x with
  | inl i =>
    cases y with
    | inl j => exact congrArg Sum.inl (Int.le_antisymm h h')
    | inr y => exact h.elim
  | inr x =>
    cases y with
    | inl j => exact h.elim
    | inr y => exact congrArg Sum.inr (leS_anti h h')
def rSortedSA (K : PySem.W.Frag) : List V → Hp → VK → Prop := fun vs H Q => ∃ (a : Addr) (xs : List Str), vs = [V.ref a] ∧ SqL K H a (xs.map V.str) ∧
  ∀ (ys : List Str) (p : Addr), ys.Perm xs → sortedS ys = true → H p = none → Q (.ref p) (upd H p (.lst (ys.map V.str)))
section
variable {X : Cx}
theorem cr_sortedSA : CallR X (.builtin "sorted") (rSortedSA X.K) := by
  intro pins s σ H vs us Q I r h
  obtain ⟨a, xs, rfl, hs, q⟩ := h
  obtain ⟨its, rv, hl, hz⟩ := I.list hs
  rw [Vals.ref1 r]
  have hlen0 := rv.length
  have hz' : xs.length ≤ sizeLine := by rw [List.length_map] at hz; exact hz
  refine PyProof.Rows.sorted_strsAny hl.isList rv.strs (by rw [← hlen0]; exact hz) fun out ys h1 h2 h3 => ?_
  obtain ⟨ep, he'⟩ := PyProof.Rows.sortedAll_at s.heap its out
  have hlen : (ys.map V.str).length ≤ sizeLine := by rw [List.length_map, h2.length_eq]; exact hz'
  exact ⟨.ref _, upd H (s.heap.objs.size + 1) (.lst (ys.map V.str)), I.laid (t' := s.toks) (fun _ _ => PyProof.Rows.sortedAll_old) (Nat.le_succ _) ⟨hlen, out.toList, ep, vals_of_strs h1, he'⟩, rfl, q ys _ h2 h3 (I.hok.fresh (Nat.le_succ _))⟩
def rSortedX (K : PySem.W.Frag) (w : World) : List V → Hp → VK → Prop := fun vs H Q => (rSortedI K vs H Q ∨ rSortedSA K vs H Q) ∨ Qs.rSortSet w vs H Q
theorem cr_sortedA (hc : X.calm = true) : CallR X (.builtin "sorted") (rSortedX X.K X.w) := (cr_sortedI.or cr_sortedSA).or (Qs.cr_sortSet hc)
end
section
variable {K : PySem.W.Frag} {w : World} {H : Hp} {Q : VK} {a : Addr} {ks : List Key}
theorem rd_sortK (h : SqL K H a (ks.map kV)) (hm : hom ks) (q : ∀ ks' p H', ks'.Perm ks → srt ks' → H p = none → Ex H H' → H' p = some (.lst (ks'.map kV)) → Q (.ref p) H') : rSortedX K w [.ref a] H Q := by
  rcases hm with ⟨ns, rfl⟩ | ⟨xs, rfl⟩
  · rw [List.map_map] at h
    refine .inl (.inl ⟨a, ns, rfl, h, fun ns' p h1 h2 hp => q (ns'.map Sum.inl) p _ (h1.map _) (.inl ⟨ns', rfl, h2⟩) hp (Evl.Ex.new hp) ?_⟩)
    rw [upd_same, List.map_map]
    rfl
  · rw [List.map_map] at h
    refine .inl (.inr ⟨a, xs, rfl, h, fun ns' p h1 h2 hp => q (ns'.map Sum.inr) p _ (h1.map _) (.inr ⟨ns', rfl, h2⟩) hp (Evl.Ex.new hp) ?_⟩)
    rw [upd_same, List.map_map]
    rfl
theorem rd_sortSetK (h : H a = some (Qs.SetV w a ks)) (hm : hom ks) (q : ∀ ks' p H', ks'.Perm ks → srt ks' → H p = none → Ex H H' → H' p = some (.lst (ks'.map kV)) → Q (.ref p) H') : rSortedX K w [.ref a] H Q := by
  rcases hm with ⟨ns, rfl⟩ | ⟨xs, rfl⟩
  · refine .inr ⟨a, rfl, .inl ⟨ns, h, fun ns' p h1 h2 hp => q (ns'.map Sum.inl) p _ (h1.map _) (.inl ⟨ns', rfl, h2⟩) hp (Evl.Ex.new hp) ?_⟩⟩
    rw [upd_same, List.map_map]
    rfl
  · refine .inr ⟨a, rfl, .inr ⟨xs, h, fun ns' p h1 h2 hp => q (ns'.map Sum.inr) p _ (h1.map _) (.inr ⟨ns', rfl, h2⟩) hp (Evl.Ex.new hp) ?_⟩⟩
    rw [upd_same, List.map_map]
    rfl
/-- a key in a list of keys -/
def memK (k : Key) (ks : List Key) : Bool := ks.any fun j => decide (j = k)
theorem memK_iff {k : Key} {ks : List Key} : memK k ks = true ↔ k ∈ ks := Qs.any_mem
theorem inV_key (k : Key) : ∀ ks : List Key, inV (kV k) (ks.map kV) = memK k ks
  | [] => rfl
  | j :: ks => by
    have ih := inV_key k ks
    unfold inV at ih ⊢
    rw [List.map_cons, List.any_cons, ih]
    have e : eqV (kV j) (kV k) = decide (j = k) := by
      cases j with
      | inl a =>
        cases k with
        | inl b =>
          show (a == b) = _
          rw [Bool.eq_iff_iff]; simp
        | inr b => rfl
      | inr a =>
        cases k with
        | inl b => rfl
        | inr b =>
          show (a == b) = _
          rw [Bool.eq_iff_iff]; simp
    rw [e]
    rfl
theorem flat_keys (ks : List Key) : (ks.map kV).all flatV = true := by
  rw [List.all_eq_true]
  intro v hv
  obtain ⟨k, _, rfl⟩ := List.mem_map.mp hv
  cases k <;> rfl
theorem rd_outK {k : Key} (h : SqL K H a (ks.map kV)) (q : Q (.bl (!memK k ks)) H) : rIn K true (kV k) (.ref a) H Q := by
  refine rd_outL h (by cases k <;> rfl) (flat_keys ks) ?_
  rw [inV_key]
  exact q
theorem rd_setK {xs : List Key} (h : SqL K H a (xs.map kV)) (hl : xs.length < 4000) (q : ∀ p H', H p = none → Ex H H' → H' p = some (Qs.SetV w p (Qs.foldK xs)) → Q (.ref p) H') : Qs.rSetL K w [.ref a] H Q :=
  ⟨a, xs, rfl, h, hl, fun p H' hp e => q p H' hp (by rw [e]; exact Evl.Ex.new hp) (by rw [e]; exact upd_same)⟩
theorem rd_extend {l b : Addr} {xs zs : List V} (h : H l = some (.lst xs)) (h' : H b = some (.lst zs)) (hl : xs.length + zs.length ≤ 4000) (q : Q .non (upd H l (.lst (xs ++ zs)))) : rExtend (.ref l) [.ref b] H Q := ⟨l, b, xs, zs, rfl, rfl, h, h', by rw [sizeLine_eq]; omega, q⟩
end
end Qa
open PySem PySem.Spec PyProof.Rows L2 Qa
/-! rules: what is one, what it names; no program here -/
namespace Qr
section
variable {K : PySem.W.Frag} {H : Hp} {Q : VK}
def isWhole : T → Bool | .int _ => true | _ => false
def within (t : T) (lo hi : Int) : Bool := match t with | .int i => decide (lo ≤ i) && decide (i ≤ hi) | _ => false
def isNum (t : T) : Bool := within t (-1000000000) 1000000000
def isPct (t : T) : Bool := within t 0 100
def isPlace (t : T) (n : Int) : Bool := within t 0 (n - 1)
def letters : Str := "abcdefghijklmnopqrstuvwxyz"
def inLet (c : Nat) : Bool := decide (c ∈ letters.cps.toList)
def isWord : T → Bool
  | .str s => decide (1 ≤ s.length) && decide (s.length ≤ 8) && s.cps.toList.all inLet
  | _ => false
theorem isWord_str (s : Str) : isWord (.str s) = (decide (1 ≤ s.length) && decide (s.length ≤ 8) && s.cps.toList.all inLet) := rfl
def tPARTS : List (Str × List Str) := [("number", ["number"]), ("paper", ["word"]), ("line", ["line"]), ("earlier", ["line"]), ("add", ["rule", "rule"]), ("take", ["rule", "rule"]), ("least", ["rule", "rule"]), ("most", ["rule", "rule"]), ("part", ["rule", "percent"]), ("table", ["table", "rule"]), ("where", ["rule", "rule", "rule"]), ("choose", ["choice", "rule", "rule"])]
def kindsOf (x : Str) : Option (List Str) := tPARTS.lookup x
def hasForm : T → Bool
  | .tup (.str x :: ts) => match kindsOf x with | some ks => decide (ts.length = ks.length) | none => false
  | _ => false
theorem hasForm_str (x : Str) (ts : List T) : hasForm (.tup (.str x :: ts)) = match kindsOf x with | some ks => decide (ts.length = ks.length) | none => false := rfl
structure Sz where
  l : Int
  tb : Int
  ch : Int
def sizeOf' (s : Sz) (k : Str) : Int := if k = "line" then s.l else if k = "table" then s.tb else s.ch
def partOk (rec : T → Bool) (s : Sz) (k : Str) (t : T) : Bool :=
  if k = "rule" then rec t else if k = "number" then isNum t else if k = "percent" then isPct t else if k = "word" then isWord t else isPlace t (sizeOf' s k)
def zipOk (f : Str → T → Bool) : List T → List Str → Bool
  | t :: ts, k :: ks => f k t && zipOk f ts ks
  | _, _ => true
def isRule (s : Sz) : Nat → T → Bool
  | 0, _ => false
  | n + 1, t => hasForm t && match t with
    | .tup (.str x :: ts) => (match kindsOf x with | some ks => zipOk (partOk (isRule s n) s) ts ks | none => false)
    | _ => false
def kinds : List Str := ["number", "word", "line", "rule", "percent", "table", "choice"]
theorem zipOk_drop (f : Str → T → Bool) : ∀ (ts : List T) (ks : List Str) (i : Nat) (t : T) (k : Str), ts[i]? = some t → ks[i]? = some k → zipOk f (ts.drop i) (ks.drop i) = (f k t && zipOk f (ts.drop (i + 1)) (ks.drop (i + 1)))
  | [], _, i, _, _, h, _ => by simp at h
  | _ :: _, [], i, _, _, _, h => by simp at h
  | _ :: _, _ :: _, 0, _, _, h, h2 => by cases (Option.some.inj h); cases (Option.some.inj h2); rfl
  | _ :: ts, _ :: ks, i + 1, t, k, h, h2 => zipOk_drop f ts ks i t k h h2
theorem zipOk_end (f : Str → T → Bool) (ts : List T) (ks : List Str) (i : Nat) (h : min ts.length ks.length ≤ i) : zipOk f (ts.drop i) (ks.drop i) = true := by
  by_cases h1 : ts.length ≤ i
  · rw [List.drop_eq_nil_of_le h1]
    cases ks.drop i <;> rfl
  · rw [List.drop_eq_nil_of_le (show ks.length ≤ i by omega)]
    cases ts.drop i <;> rfl
theorem kinds_of {x : Str} {ks : List Str} (h : kindsOf x = some ks) : ∀ k ∈ ks, k ∈ kinds := by
  have all : ∀ p ∈ tPARTS, ∀ k ∈ p.2, k ∈ kinds := by decide +kernel
  have := List.lookup_eq_some_iff.mp (show tPARTS.lookup x = some ks from h)
  obtain ⟨l1, l2, e, _⟩ := this
  exact all (x, ks) (by rw [e]; simp)
theorem isRule_form (s : Sz) (n : Nat) {x : Str} {ts : List T} {ks : List Str} (e : kindsOf x = some ks) (h : ts.length = ks.length) : isRule s (n + 1) (.tup (.str x :: ts)) = zipOk (partOk (isRule s n) s) ts ks := by
  show (hasForm (.tup (.str x :: ts)) && match kindsOf x with | some ks => zipOk (partOk (isRule s n) s) ts ks | none => false) = _
  rw [hasForm_str, e]
  show (decide (ts.length = ks.length) && _) = _
  rw [decide_eq_true h, Bool.true_and]
theorem isRule_noform (s : Sz) (n : Nat) {t : T} (h : hasForm t = false) : isRule s (n + 1) t = false := by
  show (hasForm t && _) = false
  rw [h, Bool.false_and]
theorem form_of {t : T} (h : hasForm t = true) : ∃ x ts ks, t = .tup (.str x :: ts) ∧ kindsOf x = some ks ∧ ts.length = ks.length := by
  cases t with
  | tup ts =>
    cases ts with
    | nil => cases h
    | cons t0 ts =>
      cases t0 with
      | str x =>
        rw [hasForm_str] at h
        cases e : kindsOf x with
        | none => rw [e] at h; cases h
        | some ks => rw [e] at h; exact ⟨x, ts, ks, rfl, e, of_decide_eq_true h⟩
      | _ => cases h
  | _ => cases h
theorem isRule_at (s : Sz) (n : Nat) {x : Str} {ts : List T} {ks : List Str} (e : kindsOf x = some ks) : isRule s (n + 1) (.tup (.str x :: ts)) = (decide (ts.length = ks.length) && zipOk (partOk (isRule s n) s) ts ks) := by
  show (hasForm (.tup (.str x :: ts)) && match kindsOf x with | some ks => zipOk (partOk (isRule s n) s) ts ks | none => false) = _
  rw [hasForm_str, e]
theorem isRule_len (s : Sz) (n : Nat) {x : Str} {ts : List T} {ks : List Str} (e : kindsOf x = some ks) (h : ts.length ≠ ks.length) : isRule s (n + 1) (.tup (.str x :: ts)) = false := by
  rw [isRule_at s n e, decide_eq_false h, Bool.false_and]
theorem isRule_none (s : Sz) (n : Nat) {x : Str} {ts : List T} (e : kindsOf x = none) : isRule s (n + 1) (.tup (.str x :: ts)) = false := by
  apply isRule_noform
  rw [hasForm_str, e]
theorem kinds_len {x : Str} {ks : List Str} (h : kindsOf x = some ks) : 1 ≤ ks.length ∧ ks.length ≤ 3 := by
  have all : ∀ p ∈ tPARTS, 1 ≤ p.2.length ∧ p.2.length ≤ 3 := by decide +kernel
  obtain ⟨l1, l2, e, _⟩ := List.lookup_eq_some_iff.mp (show tPARTS.lookup x = some ks from h)
  exact all (x, ks) (by rw [e]; simp)
def words : List Str := ["number", "paper", "line", "earlier", "add", "take", "least", "most", "part", "table", "where", "choose"]
theorem words_map : tPARTS.map (·.1) = words := rfl
theorem kinds_none {x : Str} (h : x ∉ words) : kindsOf x = none := by
  show tPARTS.lookup x = none
  rw [List.lookup_eq_none_iff]
  intro p hp
  rw [bne_iff_ne]
  rintro rfl
  exact h (words_map ▸ List.mem_map.mpr ⟨p, hp, rfl⟩)
section
variable (s : Sz) (n : Nat) (a b c : T)
theorem R_number : isRule s (n + 1) (.tup [.str "number", a]) = isNum a := by
  rw [isRule_at s n (ks := ["number"]) rfl]
  show (true && (isNum a && true)) = _
  simp
theorem R_paper : isRule s (n + 1) (.tup [.str "paper", a]) = isWord a := by
  rw [isRule_at s n (ks := ["word"]) rfl]
  show (true && (isWord a && true)) = _
  simp
theorem R_line : isRule s (n + 1) (.tup [.str "line", a]) = isPlace a s.l := by
  rw [isRule_at s n (ks := ["line"]) rfl]
  show (true && (isPlace a s.l && true)) = _
  simp
theorem R_earlier : isRule s (n + 1) (.tup [.str "earlier", a]) = isPlace a s.l := by
  rw [isRule_at s n (ks := ["line"]) rfl]
  show (true && (isPlace a s.l && true)) = _
  simp
theorem R_part : isRule s (n + 1) (.tup [.str "part", a, b]) = (isRule s n a && isPct b) := by
  rw [isRule_at s n (ks := ["rule", "percent"]) rfl]
  show (true && (isRule s n a && (isPct b && true))) = _
  simp
theorem R_table : isRule s (n + 1) (.tup [.str "table", a, b]) = (isPlace a s.tb && isRule s n b) := by
  rw [isRule_at s n (ks := ["table", "rule"]) rfl]
  show (true && (isPlace a s.tb && (isRule s n b && true))) = _
  simp
theorem R_choose : isRule s (n + 1) (.tup [.str "choose", a, b, c]) = (isPlace a s.ch && (isRule s n b && isRule s n c)) := by
  rw [isRule_at s n (ks := ["choice", "rule", "rule"]) rfl]
  show (true && (isPlace a s.ch && (isRule s n b && (isRule s n c && true)))) = _
  simp
theorem R_where : isRule s (n + 1) (.tup [.str "where", a, b, c]) = [a, b, c].all (isRule s n) := by
  rw [isRule_at s n (ks := ["rule", "rule", "rule"]) rfl]
  show (true && _) = _
  rw [Bool.true_and]
  rfl
theorem R_two {x : Str} (h : x ∈ (["add", "take", "least", "most"] : List Str)) : kindsOf x = some (["rule", "rule"] : List Str) ∧ isRule s (n + 1) (.tup [.str x, a, b]) = [a, b].all (isRule s n) := by
  have e : kindsOf x = some (["rule", "rule"] : List Str) := by
    simp only [List.mem_cons, List.not_mem_nil, or_false] at h
    rcases h with rfl | rfl | rfl | rfl <;> rfl
  refine ⟨e, ?_⟩
  rw [isRule_at s n e]
  show (true && _) = _
  rw [Bool.true_and]
  rfl
end
def keyT : T → List Key
  | .int i => [.inl i]
  | .str x => [.inr x]
  | _ => []
def headK : List T → List Key
  | t :: _ => keyT t
  | [] => []
def behs (f : T → List Key) : List T → List Str → List Key
  | t :: ts, k :: ks => (if k = "rule" then f t else []) ++ behs f ts ks
  | _, _ => []
def kindsD (x : Str) : List Str := match kindsOf x with | some ks => ks | none => []
def beh (wd : Str) : Nat → T → List Key
  | 0, _ => []
  | n + 1, .tup (.str x :: ts) => (if x = wd then headK ts else []) ++ behs (beh wd n) ts (kindsD x)
  | _ + 1, _ => []
theorem beh_at (wd : Str) (n : Nat) (x : Str) (ts : List T) : beh wd (n + 1) (.tup (.str x :: ts)) = (if x = wd then headK ts else []) ++ behs (beh wd n) ts (kindsD x) := rfl
def B : Nat → Nat
  | 0 => 0
  | n + 1 => 1 + 3 * B n
theorem B_mono : ∀ {m n : Nat}, m ≤ n → B m ≤ B n
  | 0, n, _ => Nat.zero_le _
  | m + 1, 0, h => by omega
  | m + 1, n + 1, h => by
    have := B_mono (m := m) (n := n) (by omega)
    show 1 + 3 * B m ≤ 1 + 3 * B n
    omega
theorem headK_len (ts : List T) : (headK ts).length ≤ 1 := by
  cases ts with
  | nil => exact Nat.zero_le _
  | cons t _ => cases t <;> simp [headK, keyT]
theorem behs_len {f : T → List Key} {M : Nat} (h : ∀ t, (f t).length ≤ M) : ∀ (ts : List T) (ks : List Str), (behs f ts ks).length ≤ ks.length * M
  | [], ks => by show 0 ≤ _; exact Nat.zero_le _
  | _ :: _, [] => by show 0 ≤ _; exact Nat.zero_le _
  | t :: ts, k :: ks => by
    have ih := behs_len h ts ks
    have h1 : (if k = "rule" then f t else []).length ≤ M := by
      split
      · exact h t
      · exact Nat.zero_le _
    show ((if k = "rule" then f t else []) ++ behs f ts ks).length ≤ (ks.length + 1) * M
    rw [List.length_append, Nat.add_mul, Nat.one_mul]
    omega
theorem kindsD_len (x : Str) : (kindsD x).length ≤ 3 := by
  unfold kindsD
  cases e : kindsOf x with
  | none => exact Nat.zero_le _
  | some ks => exact (kinds_len e).2
theorem beh_len (wd : Str) : ∀ (n : Nat) (t : T), (beh wd n t).length ≤ B n
  | 0, _ => Nat.le_refl _
  | n + 1, t => by
    match t with
    | .tup (.str x :: ts) =>
      rw [beh_at, List.length_append]
      have h1 : (if x = wd then headK ts else []).length ≤ 1 := by
        split
        · exact headK_len ts
        · exact Nat.zero_le _
      have h2 := behs_len (beh_len wd n) ts (kindsD x)
      have h3 : (kindsD x).length * B n ≤ 3 * B n := Nat.mul_le_mul_right _ (kindsD_len x)
      show _ ≤ 1 + 3 * B n
      omega
    | .non => exact Nat.zero_le _
    | .bl _ => exact Nat.zero_le _
    | .int _ => exact Nat.zero_le _
    | .str _ => exact Nat.zero_le _
    | .lst => exact Nat.zero_le _
    | .tup [] => exact Nat.zero_le _
    | .tup (.non :: _) => exact Nat.zero_le _
    | .tup (.bl _ :: _) => exact Nat.zero_le _
    | .tup (.int _ :: _) => exact Nat.zero_le _
    | .tup (.tup _ :: _) => exact Nat.zero_le _
    | .tup (.lst :: _) => exact Nat.zero_le _
def five : List Str := ["line", "earlier", "paper", "table", "choose"]
def kd (wd : Str) : Key → Prop
  | .inl _ => wd ≠ "paper"
  | .inr x => wd = "paper" ∧ PySem.PyData.strOk x = true
theorem isWord_ok {x : Str} (h : isWord (.str x) = true) : PySem.PyData.strOk x = true := by
  rw [isWord_str, Bool.and_eq_true] at h
  have h2 := List.all_eq_true.mp h.2
  have big : ∀ c ∈ letters.cps.toList, c < 0x110000 := by decide +kernel
  unfold PySem.PyData.strOk
  rw [← Array.all_toList, List.all_eq_true]
  intro c hc
  exact decide_eq_true (big c (of_decide_eq_true (h2 c hc)))
theorem place_int {t : T} {n : Int} (h : isPlace t n = true) : ∃ i, t = .int i := by
  cases t with
  | int i => exact ⟨i, rfl⟩
  | _ => cases h
theorem word_str {t : T} (h : isWord t = true) : ∃ x, t = .str x := by
  cases t with
  | str x => exact ⟨x, rfl⟩
  | _ => cases h
theorem head_key {sz : Sz} {n : Nat} {x : Str} {ts : List T} {ks : List Str} (hx : x ∈ five) (e : kindsOf x = some ks) (hl : ts.length = ks.length) (hz : zipOk (partOk (isRule sz n) sz) ts ks = true) : ∃ t r k, ts = t :: r ∧ keyT t = [k] ∧ kd x k := by
  have e' : kindsD x = ks := by unfold kindsD; rw [e]
  simp only [five, List.mem_cons, List.not_mem_nil, or_false] at hx
  cases ts with
  | nil =>
    have := (kinds_len e).1
    rw [List.length_nil] at hl
    omega
  | cons t r =>
    rcases hx with rfl | rfl | rfl | rfl | rfl
    · cases e
      have h : (isPlace t sz.l && _) = true := hz
      obtain ⟨i, rfl⟩ := place_int (Bool.and_eq_true_iff.mp h).1
      exact ⟨_, _, _, rfl, rfl, (fun z => by cases z)⟩
    · cases e
      have h : (isPlace t sz.l && _) = true := hz
      obtain ⟨i, rfl⟩ := place_int (Bool.and_eq_true_iff.mp h).1
      exact ⟨_, _, _, rfl, rfl, (fun z => by cases z)⟩
    · cases e
      have h : (isWord t && _) = true := hz
      obtain ⟨i, rfl⟩ := word_str (Bool.and_eq_true_iff.mp h).1
      exact ⟨_, _, _, rfl, rfl, rfl, isWord_ok (Bool.and_eq_true_iff.mp h).1⟩
    · cases e
      have h : (isPlace t sz.tb && _) = true := hz
      obtain ⟨i, rfl⟩ := place_int (Bool.and_eq_true_iff.mp h).1
      exact ⟨_, _, _, rfl, rfl, (fun z => by cases z)⟩
    · cases e
      have h : (isPlace t sz.ch && _) = true := hz
      obtain ⟨i, rfl⟩ := place_int (Bool.and_eq_true_iff.mp h).1
      exact ⟨_, _, _, rfl, rfl, (fun z => by cases z)⟩
theorem rule_of {sz : Sz} {n : Nat} {t : T} (h : isRule sz (n + 1) t = true) : ∃ x ts ks, t = .tup (.str x :: ts) ∧ kindsOf x = some ks ∧ ts.length = ks.length ∧ zipOk (partOk (isRule sz n) sz) ts ks = true := by
  have hf : hasForm t = true := by
    cases e : hasForm t with
    | true => rfl
    | false => rw [isRule_noform sz n e] at h; cases h
  obtain ⟨x, ts, ks, rfl, e, hl⟩ := form_of hf
  rw [isRule_form sz n e hl] at h
  exact ⟨x, ts, ks, rfl, e, hl, h⟩
theorem zipOk_at {f : Str → T → Bool} : ∀ {ts : List T} {ks : List Str} {i : Nat} {t : T} {k : Str}, zipOk f ts ks = true → ts[i]? = some t → ks[i]? = some k → f k t = true
  | [], _, i, _, _, _, h, _ => by simp at h
  | _ :: _, [], i, _, _, _, _, h => by simp at h
  | _ :: _, _ :: _, 0, _, _, hz, h, h2 => by cases (Option.some.inj h); cases (Option.some.inj h2); exact (Bool.and_eq_true_iff.mp hz).1
  | _ :: ts, _ :: ks, i + 1, t, k, hz, h, h2 => zipOk_at (i := i) (Bool.and_eq_true_iff.mp hz).2 h h2
theorem behs_kd {sz : Sz} {n : Nat} {wd : Str} {f : T → List Key} (ih : ∀ t, isRule sz n t = true → ∀ k ∈ f t, kd wd k) : ∀ (ts : List T) (ks : List Str), zipOk (partOk (isRule sz n) sz) ts ks = true → ∀ k ∈ behs f ts ks, kd wd k
  | [], _, _, _, h => by cases h
  | _ :: _, [], _, _, h => by cases h
  | t :: ts, k :: ks, hz, j, h => by
    have hz' : (partOk (isRule sz n) sz k t && zipOk (partOk (isRule sz n) sz) ts ks) = true := hz
    rw [Bool.and_eq_true] at hz'
    have h' : j ∈ (if k = "rule" then f t else []) ++ behs f ts ks := h
    rcases List.mem_append.mp h' with h2 | h2
    · by_cases e : k = "rule"
      · rw [if_pos e] at h2
        subst e
        exact ih t hz'.1 j h2
      · rw [if_neg e] at h2
        cases h2
    · exact behs_kd ih ts ks hz'.2 j h2
theorem beh_kd {sz : Sz} {wd : Str} (hw : wd ∈ five) : ∀ (n : Nat) (t : T), isRule sz n t = true → ∀ k ∈ beh wd n t, kd wd k
  | 0, _, _, _, h => by cases h
  | n + 1, t, ht, k, h => by
    obtain ⟨x, ts, ks, rfl, e, hl, hz⟩ := rule_of ht
    rw [beh_at] at h
    rcases List.mem_append.mp h with h2 | h2
    · by_cases e2 : x = wd
      · rw [if_pos e2] at h2
        subst e2
        obtain ⟨t, r, j, rfl, ej, hj⟩ := head_key hw e hl hz
        have h3 : k ∈ keyT t := h2
        rw [ej, List.mem_singleton] at h3
        subst h3
        exact hj
      · rw [if_neg e2] at h2
        cases h2
    · rw [show kindsD x = ks by unfold kindsD; rw [e]] at h2
      exact behs_kd (beh_kd hw n) ts ks hz k h2
theorem hom_kd {wd : Str} : ∀ {ks : List Key}, (∀ k ∈ ks, kd wd k) → hom ks := by
  intro ks h
  by_cases e : wd = "paper"
  · refine .inr ?_
    induction ks with
    | nil => exact ⟨[], rfl⟩
    | cons k ks ih =>
      obtain ⟨xs, rfl⟩ := ih fun k hk => h k (List.mem_cons_of_mem _ hk)
      cases k with
      | inl i => exact absurd e (h _ List.mem_cons_self)
      | inr x => exact ⟨x :: xs, rfl⟩
  · refine .inl ?_
    induction ks with
    | nil => exact ⟨[], rfl⟩
    | cons k ks ih =>
      obtain ⟨xs, rfl⟩ := ih fun k hk => h k (List.mem_cons_of_mem _ hk)
      cases k with
      | inl i => exact ⟨i :: xs, rfl⟩
      | inr x => exact absurd (h _ List.mem_cons_self).1 e
theorem ok_kd {wd : Str} {ks : List Key} (h : ∀ k ∈ ks, kd wd k) : ∀ k ∈ ks, okK k = true := by
  intro k hk
  have := h k hk
  cases k with
  | inl i => rfl
  | inr x => exact this.2
theorem behs_drop (f : T → List Key) : ∀ (ts : List T) (ks : List Str) (i : Nat) (t : T) (k : Str), ts[i]? = some t → ks[i]? = some k → behs f (ts.drop i) (ks.drop i) = (if k = "rule" then f t else []) ++ behs f (ts.drop (i + 1)) (ks.drop (i + 1))
  | [], _, i, _, _, h, _ => by simp at h
  | _ :: _, [], i, _, _, _, h => by simp at h
  | _ :: _, _ :: _, 0, _, _, h, h2 => by cases (Option.some.inj h); cases (Option.some.inj h2); rfl
  | _ :: ts, _ :: ks, i + 1, t, k, h, h2 => behs_drop f ts ks i t k h h2
theorem behs_end (f : T → List Key) (ts : List T) (ks : List Str) (i : Nat) (h : ts.length ≤ i) : behs f (ts.drop i) (ks.drop i) = [] := by
  rw [List.drop_eq_nil_of_le h]
  cases ks.drop i <;> rfl
theorem keyT_tv {v : V} {t : T} {k : Key} (h : Tv K H v t) (e : keyT t = [k]) : v = kV k := by
  cases h with
  | int i => cases e; rfl
  | str x _ => cases e; rfl
  | _ => cases e
def keysOf (ks : List Key) (ls : List Key) : Prop := srt ls ∧ ls.Nodup ∧ ∀ k, k ∈ ls ↔ k ∈ ks
theorem keysOf_uniq {ks ls ms : List Key} (a : keysOf ks ls) (b : keysOf ks ms) : ls = ms := by
  refine srt_uniq ((List.perm_ext_iff_of_nodup a.2.1 b.2.1).mpr fun k => (a.2.2 k).trans (b.2.2 k).symm) a.1 b.1
theorem addK_nodup {ks : List Key} (k : Key) (h : ks.Nodup) : (Qs.addK ks k).Nodup := by
  unfold Qs.addK
  split
  · exact h
  · next e => exact List.nodup_cons.mpr ⟨fun z => e (Qs.any_mem.mpr z), h⟩
theorem foldl_nodup : ∀ (xs ks : List Key), ks.Nodup → (xs.foldl Qs.addK ks).Nodup
  | [], _, h => h
  | x :: xs, ks, h => foldl_nodup xs (Qs.addK ks x) (addK_nodup x h)
theorem part_tup {sz : Sz} {n : Nat} {k : Str} {t : T} (hk : k ∈ kinds) (h : partOk (isRule sz n) sz k t = true) : isTup t = decide (k = "rule") := by
  have tup : isRule sz n t = true → isTup t = true := by
    intro z
    cases n with
    | zero => cases z
    | succ n =>
      obtain ⟨x, ts, ks, rfl, _⟩ := rule_of z
      rfl
  have int : ∀ {c : Int}, isPlace t c = true → isTup t = false := by
    intro c z
    obtain ⟨i, rfl⟩ := place_int z
    rfl
  simp only [kinds, List.mem_cons, List.not_mem_nil, or_false] at hk
  rcases hk with rfl | rfl | rfl | rfl | rfl | rfl | rfl
  · have h' : isNum t = true := h
    cases t with
    | tup _ => cases h'
    | _ => rfl
  · have h' : isWord t = true := h
    obtain ⟨x, rfl⟩ := word_str h'
    rfl
  · exact int (c := sz.l) h
  · exact tup h
  · have h' : isPct t = true := h
    cases t with
    | tup _ => cases h'
    | _ => rfl
  · exact int (c := sz.tb) h
  · exact int (c := sz.ch) h
theorem rd_addLb {a b : Addr} {xs ys : List V} (ha : H a = some (.lst xs)) (hb : H b = some (.lst ys)) (hl : xs.length + ys.length ≤ 4000) (q : ∀ p H', H p = none → Ex H H' → H' p = some (.lst (xs ++ ys)) → Q (.ref p) H') : rAddA K (.ref a) (.ref b) H Q :=
  .inr (.inr ⟨a, b, xs, ys, rfl, rfl, ha, hb, by rw [sizeLine_eq]; omega, fun p hp => q p _ hp (Evl.Ex.new hp) upd_same⟩)
theorem inV_str (x : Str) : ∀ (ws : List Str), inV (.str x) (ws.map V.str) = decide (x ∈ ws)
  | [] => rfl
  | y :: ws => by
    have ih := inV_str x ws
    unfold inV at ih ⊢
    rw [List.map_cons, List.any_cons, ih]
    show ((y == x) || decide (x ∈ ws)) = _
    by_cases h : y = x
    · subst h
      simp
    · rw [beq_eq_false_iff_ne.mpr h, Bool.false_or, decide_eq_decide, List.mem_cons]
      exact ⟨.inr, fun z => z.resolve_left (Ne.symm h)⟩
theorem flat_strs (ws : List Str) : (ws.map V.str).all flatV = true := by
  rw [List.all_eq_true]
  intro v hv
  obtain ⟨z, _, rfl⟩ := List.mem_map.mp hv
  rfl
theorem rd_inSs {x : Str} {a : Addr} (ws : List Str) (h : SqL K H a (ws.map V.str)) (q : Q (.bl (decide (x ∈ ws))) H) : rIn K false (.str x) (.ref a) H Q := by
  refine rd_inL h rfl (flat_strs ws) ?_
  rw [inV_str]
  exact q
theorem rd_outSs {x : Str} {a : Addr} (ws : List Str) (h : SqL K H a (ws.map V.str)) (q : Q (.bl (!decide (x ∈ ws))) H) : rIn K true (.str x) (.ref a) H Q := by
  refine rd_outL h rfl (flat_strs ws) ?_
  rw [inV_str]
  exact q
theorem rd_ixSm {z : Str} {i : Int} (h : z.length ≤ 1000) (h0 : 0 ≤ i) (h1 : i < z.length) (q : ∀ y : Str, y.length = 1 → Q (.str y) H) : rIx K (.str z) (.int i) H Q := by
  have hk : i.toNat < z.cps.toList.length := by
    show i.toNat < z.length
    omega
  have e : ((i.toNat : Nat) : Int) = i := by omega
  have e1 : atI z.cps.toList i = some z.cps.toList[i.toNat] := by
    have := atI_nat (List.getElem?_eq_getElem hk)
    rw [e] at this
    exact this
  exact rd_ixS h e1 (q _ rfl)
theorem rd_slSm {z : Str} {lo hi : Option Int} (h : z.length ≤ 1000) (q : ∀ y : Str, y.length ≤ z.length → Q (.str y) H) : rSlX K (.str z) lo hi H Q := rd_slS h (q _ (cutS_length z lo hi))
theorem rd_addSm {x y : Str} (h : x.length + y.length ≤ 1000) (q : ∀ z : Str, z.length = x.length + y.length → Q (.str z) H) : rAddA K (.str x) (.str y) H Q := rd_addS h (q _ (by show (x.cps ++ y.cps).size = _; rw [Array.size_append]; rfl))
theorem cutV_map {α : Type} (f : α → V) (xs : List α) (lo hi : Option Int) : ∃ k m, cutV (xs.map f) lo hi = ((xs.drop k).take m).map f := ⟨_, _, by unfold cutV; rw [List.map_take, List.map_drop]⟩
theorem rgV_ints (n : Int) : ∃ ns : List Int, rgV 0 n = ns.map V.int ∧ ns.length = n.toNat :=
  ⟨(List.range (n - 0).toNat).map fun i => 0 + ((i : Nat) : Int), by unfold rgV; rw [List.map_map]; rfl, by rw [List.length_map, List.length_range]; omega⟩
theorem rd_lstRg {σ : L2.St} {te : L2.St → Hp → (Int → Int → Hp → Prop) → Prop} (q : te σ H fun a b H1 => RgOk a b ∧ ∀ q, H1 q = none → Q (.ref q) (upd H1 q (.lst (rgV a b)))) : tLstRg te σ H Q := q
theorem rd_rg1 {σ : L2.St} {ta : TE} {R : Int → Int → Hp → Prop} (q : ta σ H fun x H1 => ∃ n, x = .int n ∧ R 0 n H1) : tRg1 ta σ H R := q
theorem rd_rg1I {n : Int} {R : Int → Prop} (q : R n) : ∃ m, V.int n = .int m ∧ R m := ⟨n, rfl, q⟩
theorem rd_disp {σ : L2.St} {trs : List (TE × TE)} (q : ∀ p, H p = none → tPairs trs σ (upd H p (.dK [])) fun ps H2 => H2 p = some (.dK []) ∧ ∃ kvs : List (Key × V), ps = kvs.map (fun kv => (kV kv.1, kv.2)) ∧ kvs.length ≤ 15 ∧ Q (.ref p) (upd H2 p (.dK (mergeK [] kvs)))) : tDisp trs σ H Q := q
theorem rd_pcons {σ : L2.St} {tk tv : TE} {r : List (TE × TE)} {R : List (V × V) → Hp → Prop} (q : tk σ H fun x H1 => tv σ H1 fun y H2 => tPairs r σ H2 fun ps H3 => R ((x, y) :: ps) H3) : tPairs ((tk, tv) :: r) σ H R := q
theorem rd_pnil {σ : L2.St} {R : List (V × V) → Hp → Prop} (q : R [] H) : tPairs [] σ H R := q
theorem zipOk_mono {f g : Str → T → Bool} (h : ∀ k t, f k t = true → g k t = true) : ∀ {ts : List T} {ks : List Str}, zipOk f ts ks = true → zipOk g ts ks = true
  | [], _, _ => rfl
  | _ :: _, [], _ => rfl
  | t :: ts, k :: ks, hz => by
    have hz : (f k t && zipOk f ts ks) = true := hz
    rw [Bool.and_eq_true] at hz
    show (g k t && zipOk g ts ks) = true
    rw [h k t hz.1, zipOk_mono h hz.2]
    rfl
theorem partOk_mono {s : Sz} {f g : T → Bool} (h : ∀ t, f t = true → g t = true) (k : Str) (t : T) (hp : partOk f s k t = true) : partOk g s k t = true := by
  unfold partOk at hp ⊢
  split
  · rename_i e
    rw [if_pos e] at hp
    exact h t hp
  · rename_i e
    rw [if_neg e] at hp
    exact hp
theorem isRule_succ {s : Sz} : ∀ {n : Nat} {t : T}, isRule s n t = true → isRule s (n + 1) t = true
  | 0, _, h => by cases h
  | n + 1, t, h => by
    obtain ⟨x, ts, ks, rfl, e, hl, hz⟩ := rule_of h
    rw [isRule_form s (n + 1) e hl]
    exact zipOk_mono (partOk_mono fun t => isRule_succ) hz
theorem isRule_mono {s : Sz} {n m : Nat} {t : T} (h : isRule s n t = true) (hm : n ≤ m) : isRule s m t = true := by
  induction hm with
  | refl => exact h
  | step _ ih => exact isRule_succ ih
/-- lines that are named are lines that there are -/
theorem head_line {sz : Sz} {n : Nat} {ts : List T} {ks : List Str} (e : kindsOf "line" = some ks) (hl : ts.length = ks.length) (hz : zipOk (partOk (isRule sz n) sz) ts ks = true) : ∃ t r i, ts = t :: r ∧ keyT t = [.inl i] ∧ 0 ≤ i ∧ i < sz.l := by
  cases e
  cases ts with
  | nil => cases hl
  | cons t r =>
    have h : (isPlace t sz.l && _) = true := hz
    have h1 := (Bool.and_eq_true_iff.mp h).1
    obtain ⟨i, rfl⟩ := place_int h1
    have h2 : (decide (0 ≤ i) && decide (i ≤ sz.l - 1)) = true := h1
    rw [Bool.and_eq_true, decide_eq_true_iff, decide_eq_true_iff] at h2
    exact ⟨_, _, i, rfl, rfl, h2.1, by omega⟩
theorem behs_all {sz : Sz} {n : Nat} {f : T → List Key} {P : Key → Prop} (ih : ∀ t, isRule sz n t = true → ∀ k ∈ f t, P k) : ∀ (ts : List T) (ks : List Str), zipOk (partOk (isRule sz n) sz) ts ks = true → ∀ k ∈ behs f ts ks, P k
  | [], _, _, _, h => by cases h
  | _ :: _, [], _, _, h => by cases h
  | t :: ts, k :: ks, hz, j, h => by
    have hz' : (partOk (isRule sz n) sz k t && zipOk (partOk (isRule sz n) sz) ts ks) = true := hz
    rw [Bool.and_eq_true] at hz'
    have h' : j ∈ (if k = "rule" then f t else []) ++ behs f ts ks := h
    rcases List.mem_append.mp h' with h2 | h2
    · by_cases e : k = "rule"
      · rw [if_pos e] at h2
        subst e
        exact ih t hz'.1 j h2
      · rw [if_neg e] at h2
        cases h2
    · exact behs_all ih ts ks hz'.2 j h2
theorem beh_place {sz : Sz} : ∀ (n : Nat) (t : T), isRule sz n t = true → ∀ k ∈ beh "line" n t, ∃ i : Int, k = .inl i ∧ 0 ≤ i ∧ i < sz.l
  | 0, _, _, _, h => by cases h
  | n + 1, t, ht, k, h => by
    obtain ⟨x, ts, ks, rfl, e, hl, hz⟩ := rule_of ht
    rw [beh_at] at h
    rcases List.mem_append.mp h with h2 | h2
    · by_cases e2 : x = "line"
      · rw [if_pos e2] at h2
        subst e2
        obtain ⟨t, r, i, rfl, ej, hj⟩ := head_line e hl hz
        have h3 : k ∈ keyT t := h2
        rw [ej, List.mem_singleton] at h3
        exact ⟨i, h3, hj⟩
      · rw [if_neg e2] at h2
        cases h2
    · rw [show kindsD x = ks by unfold kindsD; rw [e]] at h2
      exact behs_all (P := fun k => ∃ i : Int, k = .inl i ∧ 0 ≤ i ∧ i < sz.l) (beh_place n) ts ks hz k h2
theorem behs_eq {sz : Sz} {n : Nat} {f g : T → List Key} (h : ∀ t, isRule sz n t = true → f t = g t) : ∀ (ts : List T) (ks : List Str), zipOk (partOk (isRule sz n) sz) ts ks = true → behs f ts ks = behs g ts ks
  | [], _, _ => rfl
  | _ :: _, [], _ => rfl
  | t :: ts, k :: ks, hz => by
    have hz' : (partOk (isRule sz n) sz k t && zipOk (partOk (isRule sz n) sz) ts ks) = true := hz
    rw [Bool.and_eq_true] at hz'
    show (if k = "rule" then f t else []) ++ behs f ts ks = (if k = "rule" then g t else []) ++ behs g ts ks
    rw [behs_eq h ts ks hz'.2]
    by_cases e : k = "rule"
    · subst e
      rw [if_pos rfl, if_pos rfl, h t hz'.1]
    · rw [if_neg e, if_neg e]
theorem beh_succ {sz : Sz} {wd : Str} : ∀ {n : Nat} {t : T}, isRule sz n t = true → beh wd n t = beh wd (n + 1) t
  | 0, _, h => by cases h
  | n + 1, t, h => by
    obtain ⟨x, ts, ks, rfl, e, hl, hz⟩ := rule_of h
    rw [beh_at, beh_at, show kindsD x = ks by unfold kindsD; rw [e], behs_eq (f := beh wd n) (g := beh wd (n + 1)) (fun t => beh_succ) ts ks hz]
theorem beh_mono {sz : Sz} {wd : Str} {n m : Nat} {t : T} (h : isRule sz n t = true) (hm : n ≤ m) : beh wd m t = beh wd n t := by
  induction hm with
  | refl => rfl
  | step hm ih => rw [← ih, beh_succ (isRule_mono h hm)]
/-- a rule, so deep at most, that names lines of these alone -/
structure RB (sz : Sz) (n : Nat) (S : Key → Prop) (t : T) : Prop where
  ru : isRule sz n t = true
  nm : ∀ k ∈ beh "line" n t, S k
section
variable {sz : Sz} {n m : Nat} {S : Key → Prop} {a b c : T}
theorem RB.mono (h : RB sz n S a) (hm : n ≤ m) : RB sz m S a := ⟨isRule_mono h.ru hm, fun k hk => h.nm k (by rw [beh_mono h.ru hm] at hk; exact hk)⟩
theorem RB.weak {S' : Key → Prop} (h : RB sz n S a) (w : ∀ k, S k → S' k) : RB sz n S' a := ⟨h.ru, fun k hk => w k (h.nm k hk)⟩
theorem RB.number {i : Int} (h : isNum (.int i) = true) : RB sz (n + 1) S (.tup [.str "number", .int i]) := ⟨by rw [R_number]; exact h, fun k hk => by cases hk⟩
theorem RB.paper {z : Str} (h : isWord (.str z) = true) : RB sz (n + 1) S (.tup [.str "paper", .str z]) := ⟨by rw [R_paper]; exact h, fun k hk => by cases hk⟩
theorem RB.line {i : Int} (h : isPlace (.int i) sz.l = true) (hs : S (.inl i)) : RB sz (n + 1) S (.tup [.str "line", .int i]) := ⟨by rw [R_line]; exact h, fun k hk => by
  have hk : k ∈ [Sum.inl i] := hk
  rw [List.mem_singleton] at hk
  subst hk
  exact hs⟩
theorem RB.earlier {i : Int} (h : isPlace (.int i) sz.l = true) : RB sz (n + 1) S (.tup [.str "earlier", .int i]) := ⟨by rw [R_earlier]; exact h, fun k hk => by cases hk⟩
theorem RB.two {x : Str} (hx : x ∈ (["add", "take", "least", "most"] : List Str)) (h : RB sz n S a) (h' : RB sz n S b) : RB sz (n + 1) S (.tup [.str x, a, b]) := by
  obtain ⟨e, r⟩ := R_two sz n a b hx
  refine ⟨by rw [r]; simp [h.ru, h'.ru], fun k hk => ?_⟩
  rw [beh_at, show kindsD x = (["rule", "rule"] : List Str) by unfold kindsD; rw [e]] at hk
  rw [if_neg (by simp only [List.mem_cons, List.not_mem_nil, or_false] at hx; rcases hx with rfl | rfl | rfl | rfl <;> decide)] at hk
  have hk : k ∈ ([] : List Key) ++ (beh "line" n a ++ (beh "line" n b ++ [])) := hk
  rw [List.nil_append, List.append_nil] at hk
  rcases List.mem_append.mp hk with hk | hk
  · exact h.nm k hk
  · exact h'.nm k hk
theorem RB.part {i : Int} (h : RB sz n S a) (hp : isPct (.int i) = true) : RB sz (n + 1) S (.tup [.str "part", a, .int i]) := ⟨by rw [R_part, h.ru, hp]; rfl, fun k hk => by
  have hk : k ∈ ([] : List Key) ++ (beh "line" n a ++ ([] ++ [])) := hk
  simp only [List.nil_append, List.append_nil] at hk
  exact h.nm k hk⟩
theorem RB.table {i : Int} (hp : isPlace (.int i) sz.tb = true) (h : RB sz n S a) : RB sz (n + 1) S (.tup [.str "table", .int i, a]) := ⟨by rw [R_table, h.ru, hp]; rfl, fun k hk => by
  have hk : k ∈ ([] : List Key) ++ ([] ++ (beh "line" n a ++ [])) := hk
  simp only [List.nil_append, List.append_nil] at hk
  exact h.nm k hk⟩
theorem RB.choose {i : Int} (hp : isPlace (.int i) sz.ch = true) (h : RB sz n S a) (h' : RB sz n S b) : RB sz (n + 1) S (.tup [.str "choose", .int i, a, b]) := ⟨by rw [R_choose, h.ru, h'.ru, hp]; rfl, fun k hk => by
  have hk : k ∈ ([] : List Key) ++ ([] ++ (beh "line" n a ++ (beh "line" n b ++ []))) := hk
  simp only [List.nil_append, List.append_nil] at hk
  rcases List.mem_append.mp hk with hk | hk
  · exact h.nm k hk
  · exact h'.nm k hk⟩
theorem RB.where_ (h : RB sz n S a) (h' : RB sz n S b) (h'' : RB sz n S c) : RB sz (n + 1) S (.tup [.str "where", a, b, c]) := ⟨by rw [R_where]; simp [h.ru, h'.ru, h''.ru], fun k hk => by
  have hk : k ∈ ([] : List Key) ++ (beh "line" n a ++ (beh "line" n b ++ (beh "line" n c ++ []))) := hk
  simp only [List.nil_append, List.append_nil] at hk
  rcases List.mem_append.mp hk with hk | hk
  · exact h.nm k hk
  · rcases List.mem_append.mp hk with hk | hk
    · exact h'.nm k hk
    · exact h''.nm k hk⟩
end
/-! letters -/
def lets (z : Str) : Prop := ∀ c ∈ z.cps.toList, inLet c = true
theorem word_of {z : Str} (h1 : 1 ≤ z.length) (h8 : z.length ≤ 8) (h : lets z) : isWord (.str z) = true := by
  rw [isWord_str, decide_eq_true h1, decide_eq_true h8, List.all_eq_true.mpr h]
  rfl
theorem lets_letters : lets letters := fun c hc => decide_eq_true hc
theorem lets_cut {z : Str} (h : lets z) (lo hi : Option Int) : lets (cutS z lo hi) := fun c hc => by
  have hc : c ∈ (z.cps.toList.drop (HT.sIx z.length 0 lo)).take (HT.sIx z.length z.length hi - HT.sIx z.length 0 lo) := hc
  exact h c (List.mem_of_mem_drop (List.mem_of_mem_take hc))
theorem lets_app {x y : Str} (h : lets x) (h' : lets y) : lets (x ++ y) := fun c hc => by
  have hc : c ∈ (x.cps ++ y.cps).toList := hc
  rw [Array.toList_append] at hc
  rcases List.mem_append.mp hc with hc | hc
  · exact h c hc
  · exact h' c hc
theorem cut_len (z : Str) (lo hi : Option Int) : (cutS z lo hi).length = min (HT.sIx z.length z.length hi - HT.sIx z.length 0 lo) (z.length - HT.sIx z.length 0 lo) := by
  show (((z.cps.toList.drop (HT.sIx z.length 0 lo)).take (HT.sIx z.length z.length hi - HT.sIx z.length 0 lo)).toArray).size = _
  rw [List.size_toArray, List.length_take, List.length_drop, Array.length_toList]
  rfl
theorem str_app_len (x y : Str) : (x ++ y).length = x.length + y.length := by
  show (x.cps ++ y.cps).size = _
  rw [Array.size_append]
  rfl
theorem cut_to (z : Str) (n : Int) (h : 0 ≤ n) : (cutS z none (some n)).length = min n.toNat z.length := by
  rw [cut_len]
  have e : ((n.toNat : Nat) : Int) = n := by omega
  generalize n.toNat = m at e ⊢
  subst e
  rw [HT.sIx_nat, HT.sIx_none]
  omega
theorem cut_from_le (z : Str) (n : Int) (hi : Option Int) (h : 0 ≤ n) : (cutS z (some n) hi).length ≤ z.length - n.toNat := by
  rw [cut_len]
  have e : ((n.toNat : Nat) : Int) = n := by omega
  generalize n.toNat = m at e ⊢
  subst e
  rw [HT.sIx_nat]
  omega
theorem rd_ixLet {z : Str} {i : Int} (h : z.length ≤ 1000) (hl : lets z) (h0 : 0 ≤ i) (h1 : i < z.length) (q : ∀ y : Str, y.length = 1 → lets y → Q (.str y) H) : rIx K (.str z) (.int i) H Q := by
  have hk : i.toNat < z.cps.toList.length := by
    have : z.length = z.cps.toList.length := rfl
    omega
  have e : ((i.toNat : Nat) : Int) = i := by omega
  have hg := atI_nat (List.getElem?_eq_getElem hk)
  have hm := List.getElem_mem hk
  generalize z.cps.toList[i.toNat] = d at hg hm
  rw [e] at hg
  refine rd_ixS (c := d) h hg (q _ rfl fun c hc => ?_)
  have hc : c ∈ [d] := hc
  rw [List.mem_singleton] at hc
  subst hc
  exact hl _ hm
end
end Qr
namespace Qa
open PySem PySem.Spec PyProof.Rows L2
/-! a comprehension in a comprehension -/
theorem blkOk_in {N : List Str} {sc scope : Scope} {own : List (Str × Nat)} {env : Env} (h : blkC N sc scope own = true) : BlkOk N (relabel sc env) scope own := by
  have b := blkOk_by h
  refine ⟨b.kind, b.uniq, b.ix, fun y hy e => ?_, b.own⟩
  have key : ∀ (l : List (Str × NameKind)) (x : Str), l.lookup x = some .cell ∨ l.lookup x = some .free →
      (l.map fun (n, k) => if (k == NameKind.free && env.scope.kind == .function && env.kindOf n == some .cell) then (n, NameKind.cell) else (n, k)).lookup x = some .cell ∨
      (l.map fun (n, k) => if (k == NameKind.free && env.scope.kind == .function && env.kindOf n == some .cell) then (n, NameKind.cell) else (n, k)).lookup x = some .free := by
    intro l x
    induction l with
    | nil => intro h; rcases h with h | h <;> cases h
    | cons p l ih =>
      obtain ⟨n, k⟩ := p
      intro h
      rw [List.map_cons]
      by_cases hx : x == n
      · rw [List.lookup_cons, hx] at h
        have hk : k = .cell ∨ k = .free := h.imp (fun z => Option.some.inj z) (fun z => Option.some.inj z)
        dsimp only
        split
        · rw [List.lookup_cons, hx]; exact .inl rfl
        · rw [List.lookup_cons, hx]; exact hk.imp (fun z => by rw [z]) (fun z => by rw [z])
      · have hx' : (x == n) = false := by simpa using hx
        rw [List.lookup_cons, hx'] at h
        have := ih h
        dsimp only
        split
        · rw [List.lookup_cons, hx']; exact this
        · rw [List.lookup_cons, hx']; exact this
  exact key _ _ (b.free y hy e)
section
variable {K : PySem.W.Frag} {σ : L2.St} {H : Hp} {Q : VK} {ta tb tc te td ty tx tv : TE} {tt : TT} {D : Ends} {b : TS}
theorem eqK {X : Cx} {k : Nat} (hK : X.K = K) (hr : Room k X.A) : OpR X (compareOp .Eq) (rEqA K) := by subst hK; exact op_eqA hr
theorem neK {X : Cx} {k : Nat} (hK : X.K = K) (hr : Room k X.A) : OpR X (compareOp .NotEq) (rNeA K) := by subst hK; exact op_neA hr
theorem pi_seqK {X : Cx} {tg e : Expr} {te : TE} (hK : X.K = K) (he : PE X e te) : PI X tg e (iSeq K te) := by subst hK; exact pi_seq he
theorem rd_ifB {s1 s2 : TS} (b : Bool) (ht : ∀ R : Bool → Hp → Prop, R b H → tt σ H R) (q : if b = true then s1 D σ H else s2 D σ H) : tIfS tt s1 s2 D σ H := ht _ q
theorem rd_rep {l : Addr} {xs : List V} {k : Int} (h : H l = some (.lst xs)) (h0 : 0 ≤ k) (h1 : k ≤ 1000) (hx : xs.length ≤ 100) (q : ∀ p H', H p = none → Ex H H' → H' p = some (.lst (List.replicate k.toNat xs).flatten) → Q (.ref p) H') : rRep (.ref l) (.int k) H Q :=
  ⟨l, k, xs, rfl, rfl, h, by omega, by omega, by
    have : xs.length * k.toNat ≤ 100 * 1000 := Nat.mul_le_mul hx (by omega)
    rw [sizeLine_eq]; omega, fun p hp => q p _ hp (Evl.Ex.new hp) upd_same⟩
theorem flat_one (n : Nat) (x : V) : (List.replicate n [x]).flatten = List.replicate n x := by
  induction n with
  | zero => rfl
  | succ n ih => rw [List.replicate_succ, List.replicate_succ, List.flatten_cons, ih]; rfl
theorem rd_dnew (q : ∀ p H', H p = none → Ex H H' → H' p = some (.dK []) → Q (.ref p) H') : tDNewK σ H Q := fun p hp => q p _ hp (Evl.Ex.new hp) upd_same
theorem rd_while {tb : TS} (Pv : Nat → L2.St → Hp → Prop) {m0 : Nat} (h0 : Pv m0 σ H) (hs : ∀ m σ H, Pv m σ H → tt σ H fun b H1 => if b = true then ∃ N : L2.St → Hp → Prop, (∀ σ' H', N σ' H' → ∃ m', m' < m ∧ Pv m' σ' H') ∧ tb { D with nx := N, ct := N, bk := D.nx } σ H1 else D.nx σ H1) : tWhile tt tb D σ H := ⟨Pv, ⟨m0, h0⟩, hs⟩
theorem rd_wN {tb : TS} {σ : L2.St} {m : Nat} {Pv : Nat → L2.St → Hp → Prop} (q : tb { D with nx := fun σ' H' => ∃ m', m' < m ∧ Pv m' σ' H', ct := fun σ' H' => ∃ m', m' < m ∧ Pv m' σ' H', bk := D.nx } σ H) : ∃ N : L2.St → Hp → Prop, (∀ σ' H', N σ' H' → ∃ m', m' < m ∧ Pv m' σ' H') ∧ tb { D with nx := N, ct := N, bk := D.nx } σ H := ⟨_, fun _ _ h => h, q⟩
theorem rd_din (q : ty σ H fun y H1 => td σ H1 fun x H2 => ∃ a o, x = .ref a ∧ DGet H2 a y o ∧ Q (.bl o.isSome) H2) : tDIn ty td σ H Q := q
theorem rd_dnotin (q : ty σ H fun y H1 => td σ H1 fun x H2 => ∃ a o, x = .ref a ∧ DGet H2 a y o ∧ Q (.bl (!o.isSome)) H2) : tDNotIn ty td σ H Q := q
theorem rd_dinI {d : Addr} {kvs : List (Key × V)} {n : Int} {R : Option V → Prop} (h : H d = some (.dK kvs)) (q : R (valV kvs (.inl n))) : ∃ a o, V.ref d = .ref a ∧ DGet H a (.int n) o ∧ R o := ⟨d, _, rfl, DGet.k (k := .inl n) h, q⟩
theorem rd_dinS {d : Addr} {kvs : List (Key × V)} {n : Str} {R : Option V → Prop} (h : H d = some (.dK kvs)) (q : R (valV kvs (.inr n))) : ∃ a o, V.ref d = .ref a ∧ DGet H a (.str n) o ∧ R o := ⟨d, _, rfl, DGet.k (k := .inr n) h, q⟩
theorem rd_dput (q : tv σ H fun v H1 => td σ H1 fun x H2 => ty σ H2 fun y H3 => ∃ a H4, x = .ref a ∧ DPut H3 a y v H4 ∧ D.nx σ H4) : sDPut td ty tv D σ H := q
theorem rd_dputI {d : Addr} {kvs : List (Key × V)} {n : Int} {v : V} {R : Hp → Prop} (h : H d = some (.dK kvs)) (hl : kvs.length < 4000) (q : R (upd H d (.dK (putK kvs (.inl n) v)))) : ∃ a H4, V.ref d = .ref a ∧ DPut H a (.int n) v H4 ∧ R H4 := ⟨d, _, rfl, DPut.k (k := .inl n) h (by rw [sizeLine_eq]; omega), q⟩
theorem rd_dputS {d : Addr} {kvs : List (Key × V)} {n : Str} {v : V} {R : Hp → Prop} (h : H d = some (.dK kvs)) (hl : kvs.length < 4000) (q : R (upd H d (.dK (putK kvs (.inr n) v)))) : ∃ a H4, V.ref d = .ref a ∧ DPut H a (.str n) v H4 ∧ R H4 := ⟨d, _, rfl, DPut.k (k := .inr n) h (by rw [sizeLine_eq]; omega), q⟩
theorem rd_dget2 (q : td σ H fun x H1 => ∃ a, x = .ref a ∧ IsD H1 a ∧ ty σ H1 fun y H2 => tx σ H2 fun z H3 => ∃ o, DGet H3 a y o ∧ Q (o.getD z) H3) : tDGet2 td ty tx σ H Q := q
theorem rd_dget2D {d : Addr} {kvs : List (Key × V)} {R : Addr → Prop} (h : H d = some (.dK kvs)) (q : R d) : ∃ a, V.ref d = .ref a ∧ IsD H a ∧ R a := ⟨d, rfl, .inl ⟨kvs, .inl h⟩, q⟩
theorem rd_dgetOI {d : Addr} {kvs : List (Key × V)} {n : Int} {R : Option V → Prop} (h : H d = some (.dK kvs)) (q : R (valV kvs (.inl n))) : ∃ o, DGet H d (.int n) o ∧ R o := ⟨_, DGet.k (k := .inl n) h, q⟩
theorem rd_dgetOS {d : Addr} {kvs : List (Key × V)} {n : Str} {R : Option V → Prop} (h : H d = some (.dK kvs)) (q : R (valV kvs (.inr n))) : ∃ o, DGet H d (.str n) o ∧ R o := ⟨_, DGet.k (k := .inr n) h, q⟩
theorem rd_pop0 {l : Addr} {y : V} {ys : List V} (h : H l = some (.lst (y :: ys))) (q : Q y (upd H l (.lst ys))) : rPopAt (.ref l) [.int 0] H Q := ⟨l, y :: ys, 0, 0, y, rfl, rfl, h, by decide, by decide, by unfold seqIndex?; simp, rfl, q⟩
theorem rd_popN {l : Addr} {xs : List V} {i : Int} {n : Nat} {y : V} (h : H l = some (.lst xs)) (hi : i = (n : Nat)) (hn : n < 2000) (e : xs[n]? = some y) (q : Q y (upd H l (.lst (xs.eraseIdx n)))) : rPopAt (.ref l) [.int i] H Q := by
  have hl : n < xs.length := (List.getElem?_eq_some_iff.mp e).1
  subst hi
  refine ⟨l, xs, _, n, y, rfl, rfl, h, by omega, by omega, ?_, e, q⟩
  unfold seqIndex?
  simp
  omega
theorem rd_any {a : Addr} {bs : List Bool} (h : SqL K H a (bs.map V.bl)) (q : Q (.bl (bs.any id)) H) : rAny K [.ref a] H Q := ⟨a, bs, rfl, h, q⟩
theorem rd_all {a : Addr} {bs : List Bool} (h : SqL K H a (bs.map V.bl)) (q : Q (.bl (bs.all id)) H) : rAll K [.ref a] H Q := ⟨a, bs, rfl, h, q⟩
theorem rd_minL {a : Addr} {ns : List Int} (h : SqL K H a (ns.map V.int)) (hn : 0 < ns.length) (q : ∀ m, m ∈ ns → (∀ y, y ∈ ns → m ≤ y) → Q (.int m) H) : rMin K [.ref a] H Q := ⟨a, ns, rfl, h, hn, q⟩
theorem rd_forR3 {ta : TA} {g : TG} {tb : TS} (q : ta σ H fun vs H1 => ∃ (i j c : Int) (n : Nat), vs = [.int i, .int j, .int c] ∧ RgC i j c n ∧ ForW (Itc i c n) g tb D σ H1) : tFor (iRng3 ta) g tb D σ H := q
theorem rd_fr3d {i j : Int} {R : Int → Int → Nat → Prop} (h : -1000 ≤ i ∧ i ≤ 1000 ∧ -1000 ≤ j ∧ j ≤ 1000) (q : R i (-1) (i - j).toNat) : ∃ (a b c : Int) (n : Nat), [V.int i, V.int j, V.int (-1)] = [.int a, .int b, .int c] ∧ RgC a b c n ∧ R a c n := ⟨i, j, -1, _, rfl, RgC.neg (by omega) (by omega) (by omega) (by omega), q⟩
theorem forW_C {lo c : Int} {n : Nat} {g : TG} {tb : TS} (Pv : Nat → L2.St → Hp → Prop) (h0 : Pv 0 σ H)
    (hs : ∀ i σ H, i < n → Pv i σ H → g (.int (lo + (i : Nat) * c)) σ H fun σ2 H2 => tb { D with nx := Pv (i + 1), ct := Pv (i + 1), bk := D.nx } σ2 H2) (hd : ∀ σ H, Pv n σ H → D.nx σ H) : ForW (Itc lo c n) g tb D σ H := for_rangeC Pv h0 hs hd
end
def rIsNn : R2 := fun x y H Q => y = .non ∧ Q (.bl (decide (x = .non))) H
def rNotNn : R2 := fun x y H Q => y = .non ∧ Q (.bl (!decide (x = .non))) H
theorem op_isNn {X : Cx} : OpR X (compareOp .Is) rIsNn := op_isN
theorem op_notNn {X : Cx} : OpR X (compareOp .IsNot) rNotNn := op_notN
section
variable {K : PySem.W.Frag} {H : Hp} {Q : VK}
theorem rd_isN0 {v : V} {b : Bool} (e : decide (v = .non) = b) (q : Q (.bl b) H) : rIsNn v .non H Q := ⟨rfl, by rw [e]; exact q⟩
theorem rd_notN0 {v : V} {b : Bool} (e : decide (v = .non) = b) (q : Q (.bl (!b)) H) : rNotNn v .non H Q := ⟨rfl, by rw [e]; exact q⟩
end
end Qa
namespace Qe
open PySem PySem.Spec PyProof.Rows L2 Qa
/-! ### defs that may raise -/
def CalX (P : Program) (w : World) (K : PySem.W.Frag) (mg : Str → Option Value) (base : Heap) (x : Str) (k : Nat) (ps : List Str) (sp : Sp) : Prop :=
  ∃ f fd, FnOk P w K mg base (L2.CX P w) k f fd ps sp ∧ mg x = some (.ref f) ∧ PySem.W.keepIn K (.ref f) = true ∧ Binds K fd ps []
theorem pe_calX {X : Cx} {W : WX} {x : Str} {k : Nat} {ps : List Str} {sp : Sp} {e : Expr} {es : List Expr} {t : TA} {p pos : Pos} (c : CalX X.prog X.w X.K X.mg X.base x k ps sp) (hr : Room k X.A) (tk : Takes X W) (ha : PA X (e :: es) t) (hg : Gl X x := by rfl)
    (hdb : (x == ("__debug__" : Str)) = false := by decide) (he : starEach (e :: es) X.env = (false, eval e X.env) :: starEach es X.env := by rfl) (hpl : (backTo pos (starEach es X.env)).any (·.1) = false := by rfl) :
    PE X (.Call (.Name x p) (e :: es) [] pos) (tCallS sp (WE W) t) := by
  obtain ⟨f, fd, F, hm, hk, hb⟩ := c
  exact pe_callS F hr hg hm hk hb (fun σ => passAt tk σ) ha hdb he hpl
theorem CalX.mono {P : Program} {w : World} {K : PySem.W.Frag} {mg : Str → Option Value} {base : Heap} {x : Str} {ps : List Str} {k j : Nat} {sp : Sp} (c : CalX P w K mg base x k ps sp) (h : k ≤ j) : CalX P w K mg base x j ps sp := by
  obtain ⟨f, fd, F, r⟩ := c
  exact ⟨f, fd, F.mono h, r⟩
theorem rd_calX {sp : Sp} {E : L2.St → XK} {t : TA} {σ : L2.St} {H : Hp} {Q : VK} (q : t σ H fun vs H1 => sp vs H1 Q (E σ)) : tCallS sp E t σ H Q := q
def spX1 (f : V → Hp → VK → XK → Prop) : Sp := fun vs H Q E => ∃ a, vs = [a] ∧ f a H Q E
def spX2 (f : V → V → Hp → VK → XK → Prop) : Sp := fun vs H Q E => ∃ a b, vs = [a, b] ∧ f a b H Q E
def spX3 (f : V → V → V → Hp → VK → XK → Prop) : Sp := fun vs H Q E => ∃ a b c, vs = [a, b, c] ∧ f a b c H Q E
def spX4 (f : V → V → V → V → Hp → VK → XK → Prop) : Sp := fun vs H Q E => ∃ a b c d, vs = [a, b, c, d] ∧ f a b c d H Q E
def spX5 (f : V → V → V → V → V → Hp → VK → XK → Prop) : Sp := fun vs H Q E => ∃ a b c d e, vs = [a, b, c, d, e] ∧ f a b c d e H Q E
theorem rd_spX1 {f : V → Hp → VK → XK → Prop} {a : V} {H : Hp} {Q : VK} {E : XK} (h : f a H Q E) : spX1 f [a] H Q E := ⟨a, rfl, h⟩
theorem rd_spX2 {f : V → V → Hp → VK → XK → Prop} {a b : V} {H : Hp} {Q : VK} {E : XK} (h : f a b H Q E) : spX2 f [a, b] H Q E := ⟨a, b, rfl, h⟩
theorem rd_spX3 {f : V → V → V → Hp → VK → XK → Prop} {a b c : V} {H : Hp} {Q : VK} {E : XK} (h : f a b c H Q E) : spX3 f [a, b, c] H Q E := ⟨a, b, c, rfl, h⟩
theorem rd_spX4 {f : V → V → V → V → Hp → VK → XK → Prop} {a b c d : V} {H : Hp} {Q : VK} {E : XK} (h : f a b c d H Q E) : spX4 f [a, b, c, d] H Q E := ⟨a, b, c, d, rfl, h⟩
theorem rd_spX5 {f : V → V → V → V → V → Hp → VK → XK → Prop} {a b c d e : V} {H : Hp} {Q : VK} {E : XK} (h : f a b c d e H Q E) : spX5 f [a, b, c, d, e] H Q E := ⟨a, b, c, d, e, rfl, h⟩
section
variable {P : Program} {w : World} {K : PySem.W.Frag} {mg : Str → Option Value} {base : Heap} {x : Str} {st : Stmt} {N ps : List Str} {k : Nat}
theorem calX_mk {sp : Sp} (F : FunAt K mg x st) (S : FnScope N ps (defScope st)) (hb : BindOk x st ps) (len : ∀ vs H Q E, sp vs H Q E → vs.length = ps.length)
    (hbody : ∀ (f : Addr) (cdv : Value) (A : Around) (outer : List Env) (s : Shared) (H : Hp) (vs : List V) (Q : VK) (E : XK), Room k (A.deeper (envOfC x (defScope st) s.heap.objs.size f cdv)) → sp vs H Q E →
      ∃ t, PSs (cxOf (L2.CX P w) P w K mg base N x (defScope st) f cdv A outer s H E) (defBody st) t ∧ t { nx := fun _ H' => Q .non H', rt := Q } (start N vs) H) : CalX P w K mg base x (k + 1) ps sp := by
  obtain ⟨f, fd, F, hm⟩ := F
  exact ⟨f, fd, F.okX S len (hbody f), hm, F.kp, F.binds hb⟩
theorem calX1 {f : V → Hp → VK → XK → Prop} (F : FunAt K mg x st) (S : FnScope N ps (defScope st)) (hb : BindOk x st ps) (hn : ps.length = 1)
    (hbody : ∀ (g : Addr) (cdv : Value) (A : Around) (outer : List Env) (s : Shared) (H : Hp) (a : V) (Q : VK) (E : XK), Room k (A.deeper (envOfC x (defScope st) s.heap.objs.size g cdv)) → f a H Q E →
      ∃ t, PSs (cxOf (L2.CX P w) P w K mg base N x (defScope st) g cdv A outer s H E) (defBody st) t ∧ t { nx := fun _ H' => Q .non H', rt := Q } (start N [a]) H) : CalX P w K mg base x (k + 1) ps (spX1 f) :=
  calX_mk F S hb (fun vs H Q E h => by obtain ⟨a, rfl, _⟩ := h; exact hn.symm) fun g cdv A outer s H vs Q E hr h => by obtain ⟨a, rfl, h⟩ := h; exact hbody g cdv A outer s H a Q E hr h
theorem calX2 {f : V → V → Hp → VK → XK → Prop} (F : FunAt K mg x st) (S : FnScope N ps (defScope st)) (hb : BindOk x st ps) (hn : ps.length = 2)
    (hbody : ∀ (g : Addr) (cdv : Value) (A : Around) (outer : List Env) (s : Shared) (H : Hp) (a b : V) (Q : VK) (E : XK), Room k (A.deeper (envOfC x (defScope st) s.heap.objs.size g cdv)) → f a b H Q E →
      ∃ t, PSs (cxOf (L2.CX P w) P w K mg base N x (defScope st) g cdv A outer s H E) (defBody st) t ∧ t { nx := fun _ H' => Q .non H', rt := Q } (start N [a, b]) H) : CalX P w K mg base x (k + 1) ps (spX2 f) :=
  calX_mk F S hb (fun vs H Q E h => by obtain ⟨a, b, rfl, _⟩ := h; exact hn.symm) fun g cdv A outer s H vs Q E hr h => by obtain ⟨a, b, rfl, h⟩ := h; exact hbody g cdv A outer s H a b Q E hr h
theorem calX3 {f : V → V → V → Hp → VK → XK → Prop} (F : FunAt K mg x st) (S : FnScope N ps (defScope st)) (hb : BindOk x st ps) (hn : ps.length = 3)
    (hbody : ∀ (g : Addr) (cdv : Value) (A : Around) (outer : List Env) (s : Shared) (H : Hp) (a b c : V) (Q : VK) (E : XK), Room k (A.deeper (envOfC x (defScope st) s.heap.objs.size g cdv)) → f a b c H Q E →
      ∃ t, PSs (cxOf (L2.CX P w) P w K mg base N x (defScope st) g cdv A outer s H E) (defBody st) t ∧ t { nx := fun _ H' => Q .non H', rt := Q } (start N [a, b, c]) H) : CalX P w K mg base x (k + 1) ps (spX3 f) :=
  calX_mk F S hb (fun vs H Q E h => by obtain ⟨a, b, c, rfl, _⟩ := h; exact hn.symm) fun g cdv A outer s H vs Q E hr h => by obtain ⟨a, b, c, rfl, h⟩ := h; exact hbody g cdv A outer s H a b c Q E hr h
theorem calX4 {f : V → V → V → V → Hp → VK → XK → Prop} (F : FunAt K mg x st) (S : FnScope N ps (defScope st)) (hb : BindOk x st ps) (hn : ps.length = 4)
    (hbody : ∀ (g : Addr) (cdv : Value) (A : Around) (outer : List Env) (s : Shared) (H : Hp) (a b c d : V) (Q : VK) (E : XK), Room k (A.deeper (envOfC x (defScope st) s.heap.objs.size g cdv)) → f a b c d H Q E →
      ∃ t, PSs (cxOf (L2.CX P w) P w K mg base N x (defScope st) g cdv A outer s H E) (defBody st) t ∧ t { nx := fun _ H' => Q .non H', rt := Q } (start N [a, b, c, d]) H) : CalX P w K mg base x (k + 1) ps (spX4 f) :=
  calX_mk F S hb (fun vs H Q E h => by obtain ⟨a, b, c, d, rfl, _⟩ := h; exact hn.symm) fun g cdv A outer s H vs Q E hr h => by obtain ⟨a, b, c, d, rfl, h⟩ := h; exact hbody g cdv A outer s H a b c d Q E hr h
theorem calX5 {f : V → V → V → V → V → Hp → VK → XK → Prop} (F : FunAt K mg x st) (S : FnScope N ps (defScope st)) (hb : BindOk x st ps) (hn : ps.length = 5)
    (hbody : ∀ (g : Addr) (cdv : Value) (A : Around) (outer : List Env) (s : Shared) (H : Hp) (a b c d e : V) (Q : VK) (E : XK), Room k (A.deeper (envOfC x (defScope st) s.heap.objs.size g cdv)) → f a b c d e H Q E →
      ∃ t, PSs (cxOf (L2.CX P w) P w K mg base N x (defScope st) g cdv A outer s H E) (defBody st) t ∧ t { nx := fun _ H' => Q .non H', rt := Q } (start N [a, b, c, d, e]) H) : CalX P w K mg base x (k + 1) ps (spX5 f) :=
  calX_mk F S hb (fun vs H Q E h => by obtain ⟨a, b, c, d, e, rfl, _⟩ := h; exact hn.symm) fun g cdv A outer s H vs Q E hr h => by obtain ⟨a, b, c, d, e, rfl, h⟩ := h; exact hbody g cdv A outer s H a b c d e Q E hr h
end
/-! ### the program's own errors -/
/-- where the class of this name stands -/
def clsA (mg : Str → Option Value) (x : Str) : Addr := match mg x with | some (.ref a) => a | _ => 0
theorem clsA_of {mg : Str → Option Value} {x : Str} {a : Addr} (h : mg x = some (.ref a)) : clsA mg x = a := by unfold clsA; rw [h]
structure ErrC (K : PySem.W.Frag) (mg : Str → Option Value) (x : Str) : Prop where
  gC : mg x = some (.ref (clsA mg x))
  xC : PySem.W.excIn K (clsA mg x) [.type "ValueError", .type "Exception", .type "BaseException", .type "object"] "ValueError.__new__" = true
  kC : PySem.W.keepIn K (.ref (clsA mg x)) = true
  bC : PySem.W.subIn K (.ref (clsA mg x)) (.type "BaseException") = some true
  tC : PySem.W.typeIn K (.ref (clsA mg x)) = some (.type "type")
  dC : PySem.W.hasDictIn K (clsA mg x) = true
theorem errC_mk {K : PySem.W.Frag} {mg : Str → Option Value} {x : Str} {C : Addr} (g : mg x = some (.ref C)) (q : PySem.W.excIn K C [.type "ValueError", .type "Exception", .type "BaseException", .type "object"] "ValueError.__new__" = true)
    (k : PySem.W.keepIn K (.ref C) = true) (b : PySem.W.subIn K (.ref C) (.type "BaseException") = some true) (t : PySem.W.typeIn K (.ref C) = some (.type "type")) (d : PySem.W.hasDictIn K C = true) : ErrC K mg x := by
  have e := clsA_of g
  refine ⟨?_, ?_, ?_, ?_, ?_, ?_⟩ <;> rw [e] <;> assumption
def tRaiseC (W : WX) (C : Addr) : TS := fun _ σ H => W (.ref C) none σ H
theorem ps_raiseC {X : Cx} {W : WX} {x m : Str} {j : Nat} {p p2 pos pos2 : Pos} (hc : X.calm = true) (tk : Takes X W) (T : ErrC X.K X.mg x) (hg : Gl X x := by rfl) (hdb : (x == ("__debug__" : Str)) = false := by decide) :
    PS X (.Raise (some (.Call (.Name x p) [.Constant (.str m) j p2] [] pos)) none pos2) (tRaiseC W (clsA X.mg x)) :=
  ps_raise hc tk (pmk_own PySem.F.excBase_ValueError T.xC T.gC T.kC (raises_own T.bC T.tC) hg hdb)
theorem rd_raiseC {W : WX} {C : Addr} {D : Ends} {σ : L2.St} {H : Hp} (q : W (.ref C) none σ H) : tRaiseC W C D σ H := q
/-- does the clause of the one take an error of the other -/
def Catch (K : PySem.W.Frag) (mg : Str → Option Value) (x y : Str) (b : Bool) : Prop := PySem.W.exmOne K (.ref (clsA mg x)) (.ref (clsA mg y)) = some b
theorem catch_mk {K : PySem.W.Frag} {mg : Str → Option Value} {x y : Str} {C D : Addr} {b : Bool} (gx : mg x = some (.ref C)) (gy : mg y = some (.ref D)) (E : ErrC K mg y) (s : PySem.W.subIn K (.ref C) (.ref D) = some b) : Catch K mg x y b := by
  refine PySem.W.exm_ref E.bC E.dC E.tC ?_
  rw [clsA_of gx, clsA_of gy]
  exact s
/-! ### an error handed to another def, from the suite that holds it -/
section
variable {P : Program} {w : World} {K : PySem.W.Frag} {mg : Str → Option Value} {base : Heap} {x : Str} {st : Stmt} {N ps : List Str} {k : Nat} {Y : Value → Option Addr → Prop} {sp : Addr → Sp}
/-- as FnOk, where an exception is handled: p holds it, and Y is known of its class and its dict -/
structure FnE (Y : Value → Option Addr → Prop) (P : Program) (w : World) (K : PySem.W.Frag) (mg : Str → Option Value) (base : Heap) (k : Nat) (f : Addr) (fd : FuncData) (ps : List Str) (sp : Addr → Sp) : Prop where
  len : ∀ a vs H Q E, sp a vs H Q E → vs.length = ps.length
  run : ∀ (A : Around) (outer : List Env) (s : Shared) (H : Hp) (args : Args) (us : List Value) (vs : List V) (Q : VK) (E : XK) (p : Addr × Obj) (cls : Value) (d : Option Addr), L2H.RoomH k A → Zc cls d p.2 → (∃ fs, p.2.data = .fields fs) → Y cls d → L2H.PinOk outer H s p → Env0 P w K mg base A outer s H →
    BindsTo s fd args (ps.zip us) → Vals vs us → sp p.1 vs H Q E → codeAny (model P w) A (.call (.ref f) args) (CR CX0 outer P w H s Q E) s
def CalE (Y : Value → Option Addr → Prop) (P : Program) (w : World) (K : PySem.W.Frag) (mg : Str → Option Value) (base : Heap) (x : Str) (k : Nat) (ps : List Str) (sp : Addr → Sp) : Prop :=
  ∃ f fd, FnE Y P w K mg base k f fd ps sp ∧ mg x = some (.ref f) ∧ PySem.W.keepIn K (.ref f) = true ∧ Binds K fd ps []
theorem calE_mk (F : FunAt K mg x st) (S : FnScope N ps (defScope st)) (hb : BindOk x st ps) (len : ∀ a vs H Q E, sp a vs H Q E → vs.length = ps.length)
    (hbody : ∀ (f : Addr) (cdv : Value) (A : Around) (outer : List Env) (s : Shared) (H : Hp) (vs : List V) (Q : VK) (E : XK) (p : Addr × Obj) (cls : Value) (d : Option Addr), Zc cls d p.2 → (∃ fs, p.2.data = .fields fs) → Y cls d → L2H.RoomH k (A.deeper (envOfC x (defScope st) s.heap.objs.size f cdv)) → sp p.1 vs H Q E →
      ∃ t, PSs (L2H.cxH CX0 P w K mg base N x (defScope st) f cdv A outer s H E p).nox (defBody st) t ∧ t { nx := fun _ H' => Q .non H', rt := Q } (start N vs) H) : CalE Y P w K mg base x (k + 1) ps sp := by
  obtain ⟨f, fd, F, hm⟩ := F
  obtain ⟨oc, od, kV, doc, pm, an, cdv, ct, osl, efd, lk, hcd⟩ := F.ex
  refine ⟨f, fd, ⟨len, fun A outer s H args us vs Q E p cls d hr hz hf hy hpin e0 hbn r hsp => ?_⟩, hm, F.kp, F.binds hb⟩
  subst efd
  have hl := len _ _ _ _ _ hsp
  have inH : K.In s.heap := e0.mod.kin.keeps fun b o e => (e0.bs b o e).1
  have names : ∀ y ∈ ps.zip us, (defScope st).names.lookup y.1 = some .local ∨ ((defScope st).names.lookup y.1 = some .cell ∧ ((cellsFrom (s.heap.objs.size + 1) (defScope st).names []).lookup y.1).isSome = true) := by
    rintro ⟨n, v⟩ hy
    exact (S.par n (List.of_mem_zip hy).1).imp id fun q => ⟨q, PySem.W.cellsFrom_some _ _ _ (.inl q)⟩
  refine codeAny_call_function hr.depth (inH _ _ lk) rfl S.co S.gen rfl (PySem.W.codeRec_of inH hcd) (hbn _ _ _ _ ?_)
  refine wpAny_newFunctionEnv_cells S.kind names fun env he s1 c => ?_
  subst he
  refine ⟨(e0.mod.nolimit.keeps fun b o e => (e0.bs b o e).1).keeps c.toInCall.keep, codeAny_func ?_⟩
  obtain ⟨t, ht, hq⟩ := hbody f cdv A outer s H vs Q E p cls d hz hf hy (hr.deeper _) hsp
  refine wpAny_mono (ht.nox.run [] s1 (start N vs) H _ (L2H.inv_startH S hpin e0 hl r c) hq) (fun fl s' hs => ?_) fun e s' hs => hs
  cases fl with
  | ret u =>
    obtain ⟨v, σ', H', J, rv, q⟩ := hs
    exact ⟨v, H', J.os, J.bare, J.base, J.hok, rv, q⟩
  | next =>
    obtain ⟨σ', H', J, q⟩ := hs
    exact ⟨V.non, H', J.os, J.bare, J.base, J.hok, rfl, q⟩
  | brk => exact hs.elim fun _ ⟨_, _, q⟩ => q.elim
  | cont => exact hs.elim fun _ ⟨_, _, q⟩ => q.elim
end
section
variable {X : Cx} {Y : Value → Option Addr → Prop} {sp : Addr → Sp} {x : Str} {k : Nat} {ps : List Str} {e : Expr} {es : List Expr} {t : TA} {pos q : Pos} {p : Addr × Obj} {a : Addr} {oe : Obj} {cls : Value} {d : Option Addr}
def tCalE (Y : Value → Option Addr → Prop) (cls : Value) (d : Option Addr) (sp : Sp) (t : TA) : TE := fun σ H Q => t σ H fun vs H1 => Y cls d ∧ sp vs H1 Q E0
theorem rd_calE {sp : Sp} {t : TA} {σ : L2.St} {H : Hp} {Q : VK} (q : t σ H fun vs H1 => Y cls d ∧ sp vs H1 Q E0) : tCalE Y cls d sp t σ H Q := q
theorem pe_calE (c : CalE Y X.prog X.w X.K X.mg X.base x k ps sp) (hr : L2H.RoomH k X.A) (hp : (a, oe) ∈ X.pn) (hz : Zc cls d oe) (hf : ∃ fs, oe.data = .fields fs) (ha : PA X (e :: es) t) (hg : Gl X x := by rfl)
    (hdb : (x == ("__debug__" : Str)) = false := by decide) (he : starEach (e :: es) X.env = (false, eval e X.env) :: starEach es X.env := by rfl) (hpl : (backTo pos (starEach es X.env)).any (·.1) = false := by rfl) :
    PE X (.Call (.Name x q) (e :: es) [] pos) (tCalE Y cls d (sp a) t) := by
  obtain ⟨f, fd, F, hm, hk, hb⟩ := c
  refine ⟨fun pins s σ H Q I h => ?_⟩
  refine wpAny_Call_Name_kw (ld_glob I hg hm ?_ hdb)
  refine PySem.W.callWith_K (h₀ := X.base) I.ok.mod.kin hk (thn (ha.run pos pins s σ H _ I h) fun us s1 ⟨vs, H1, I1, r, hy, z⟩ => ⟨I1.kIn, ?_⟩) he hpl
  have hl : us.length = ps.length := by rw [← r.length]; exact F.len _ _ _ _ _ z
  have b := hb s1 us I1.kIn (by rw [List.append_nil]; exact hl)
  rw [List.append_nil] at b
  obtain ⟨p1, p2, p3, p4, p5⟩ := I1.pin (a, oe) (List.mem_append_left _ hp)
  refine wpAny_call (codeAny_mono (F.run X.A X.stack s1 H1 ⟨us, []⟩ us vs Q E0 (a, oe) cls d hr hz hf hy ⟨p1, p2, fun hm => (List.mem_cons.mp (I1.stkSub a hm)).elim p3 p4, p5⟩ I1.env0 b r z) fun r s' hq => ?_)
  match r, hq with
  | .error e, hq => exact (pass0 (X := X)) pins σ H1 s1 e s' I1 hq
  | .ok (.ret u), hq => exact I1.after hq
  | .ok .next, hq => exact False.elim hq
  | .ok .brk, hq => exact False.elim hq
  | .ok .cont, hq => exact False.elim hq
/-- isinstance of the exception that p holds -/
theorem call_isP {D : Addr} (C : ExcC X.K D) (hp : p ∈ X.pn) (hz : Zc (.ref D) none p.2) (hf : ∃ vs, p.2.data = .fields vs) : CallR X (.builtin "isinstance") (rIsE X.K D p.1) := by
  intro pins s σ H xs us Q I r h
  obtain ⟨c, cv, b, rfl, hcv, e, q⟩ := h
  cases r with
  | cons rx rr =>
    cases rr with
    | cons rt rr =>
      cases rr
      cases rx
      have ec := hcv _ rt
      subst ec
      obtain ⟨hget, _⟩ := I.pin p (List.mem_append.mpr (.inl hp))
      have J : PySem.W.InstAt s.heap p.1 p.2 D none := by
        obtain ⟨a, oc, od, oda, osl⟩ := p
        obtain ⟨vs, hv⟩ := hf
        obtain ⟨h1, h2⟩ := hz
        dsimp only at h1 h2 hv hget
        subst h1 h2 hv
        exact ⟨hget, rfl, rfl, trivial⟩
      exact PySem.W.kia_one (PySem.W.handS_kitx_exc C.hg C.hk C.hs C.hd C.ha C.hn C.ht C.hm) I.kIn J e (fun z => nomatch z) fun tk => ⟨.bl b, H, I.kept (t' := tk) fun _ _ z => z, rfl, q⟩
end
theorem excC_at {K : PySem.W.Frag} {mg : Str → Option Value} {x : Str} {C : Addr} (g : mg x = some (.ref C)) (h : ExcC K C) : ExcC K (clsA mg x) := by rw [clsA_of g]; exact h
theorem kit_at1 {K : PySem.W.Frag} {mg : Str → Option Value} {x : Str} {C : Addr} {v : Value} {b : Bool} (g : mg x = some (.ref C)) (h : PySem.W.kitOne K (.ref C) v = some b) : PySem.W.kitOne K (.ref (clsA mg x)) v = some b := by rw [clsA_of g]; exact h
theorem kit_at2 {K : PySem.W.Frag} {mg : Str → Option Value} {x y : Str} {C D : Addr} {b : Bool} (g : mg x = some (.ref C)) (g2 : mg y = some (.ref D)) (h : PySem.W.kitOne K (.ref C) (.ref D) = some b) : PySem.W.kitOne K (.ref (clsA mg x)) (.ref (clsA mg y)) = some b := by rw [clsA_of g, clsA_of g2]; exact h
theorem roomH {k : Nat} {A : Around} {v : Option Value} (r : Room k A) : L2H.RoomH k (A.mark v) := ⟨r.dp, r.un⟩
end Qe
namespace Qi
open PySem PySem.Spec PyProof.Rows L2 Qa Qe
/-! ### classes of the program: made, and their methods called -/
section
variable {P : Program} {w : World} {K : PySem.W.Frag} {mg : Str → Option Value} {base : Heap} {x qual cx m : Str} {st : Stmt} {N ps : List Str} {k : Nat} {sp : Sp}
def BindOkQ (x qual : Str) (st : Stmt) (ps : List Str) : Prop := ∀ (kV doc pm : Value) (an : Option Addr) (cdv ct : Value) (us : List Value), us.length = ps.length → bindArgs (PySem.W.fnOf x qual (defArgs st) (defBody st) (defScope st) .none kV doc pm an cdv ct) ⟨us, []⟩ = pure (ps.zip us)
def InitAt (K : PySem.W.Frag) (mg : Str → Option Value) (cx qual : Str) (st : Stmt) : Prop := ∃ f fd, Fun K "__init__" qual st f fd ∧ Mk K (clsA mg cx) f ∧ mg cx = some (.ref (clsA mg cx))
def MethAt (K : PySem.W.Frag) (mg : Str → Option Value) (cx m qual : Str) (st : Stmt) : Prop := ∃ f fd, Fun K m qual st f fd ∧ Meth K (clsA mg cx) m f
def CalI (P : Program) (w : World) (K : PySem.W.Frag) (mg : Str → Option Value) (base : Heap) (cx : Str) (k : Nat) (ps : List Str) (sp : Sp) : Prop :=
  ∃ f fd, FnOk P w K mg base CX0 k f fd ps sp ∧ Mk K (clsA mg cx) f ∧ mg cx = some (.ref (clsA mg cx)) ∧ Binds K fd ps []
def CalIX (P : Program) (w : World) (K : PySem.W.Frag) (mg : Str → Option Value) (base : Heap) (cx : Str) (k : Nat) (ps : List Str) (sp : Sp) : Prop :=
  ∃ f fd, FnOk P w K mg base (L2.CX P w) k f fd ps sp ∧ Mk K (clsA mg cx) f ∧ mg cx = some (.ref (clsA mg cx)) ∧ Binds K fd ps []
def CalM (P : Program) (w : World) (K : PySem.W.Frag) (mg : Str → Option Value) (base : Heap) (cx m : Str) (k : Nat) (ps : List Str) (sp : Sp) : Prop :=
  ∃ f fd, FnOk P w K mg base CX0 k f fd ps sp ∧ Meth K (clsA mg cx) m f ∧ Binds K fd ps []
def CalMX (P : Program) (w : World) (K : PySem.W.Frag) (mg : Str → Option Value) (base : Heap) (cx m : Str) (k : Nat) (ps : List Str) (sp : Sp) : Prop :=
  ∃ f fd, FnOk P w K mg base (L2.CX P w) k f fd ps sp ∧ Meth K (clsA mg cx) m f ∧ Binds K fd ps []
theorem binds_of {f : Addr} {fd : FuncData} (F : Fun K x qual st f fd) (hb : BindOkQ x qual st ps) : Binds K fd ps [] := F.binds hb
theorem calI_mk (F : InitAt K mg cx qual st) (S : FnScope N ps (defScope st)) (hb : BindOkQ "__init__" qual st ps) (len : ∀ vs H Q E, sp vs H Q E → vs.length = ps.length)
    (hbody : ∀ (f : Addr) (cdv : Value) (A : Around) (outer : List Env) (s : Shared) (H : Hp) (vs : List V) (Q : VK) (E : XK), Room k (A.deeper (envOfC qual (defScope st) s.heap.objs.size f cdv)) → sp vs H Q E →
      ∃ t, PSs (cxOf CX0 P w K mg base N qual (defScope st) f cdv A outer s H E).nox (defBody st) t ∧ t { nx := fun _ H' => Q .non H', rt := Q } (start N vs) H) : CalI P w K mg base cx (k + 1) ps sp := by
  obtain ⟨f, fd, F, M, g⟩ := F
  exact ⟨f, fd, F.ok S len (hbody f), M, g, F.binds hb⟩
theorem calIX_mk (F : InitAt K mg cx qual st) (S : FnScope N ps (defScope st)) (hb : BindOkQ "__init__" qual st ps) (len : ∀ vs H Q E, sp vs H Q E → vs.length = ps.length)
    (hbody : ∀ (f : Addr) (cdv : Value) (A : Around) (outer : List Env) (s : Shared) (H : Hp) (vs : List V) (Q : VK) (E : XK), Room k (A.deeper (envOfC qual (defScope st) s.heap.objs.size f cdv)) → sp vs H Q E →
      ∃ t, PSs (cxOf (L2.CX P w) P w K mg base N qual (defScope st) f cdv A outer s H E) (defBody st) t ∧ t { nx := fun _ H' => Q .non H', rt := Q } (start N vs) H) : CalIX P w K mg base cx (k + 1) ps sp := by
  obtain ⟨f, fd, F, M, g⟩ := F
  exact ⟨f, fd, F.okX S len (hbody f), M, g, F.binds hb⟩
theorem calM_mk (F : MethAt K mg cx m qual st) (S : FnScope N ps (defScope st)) (hb : BindOkQ m qual st ps) (len : ∀ vs H Q E, sp vs H Q E → vs.length = ps.length)
    (hbody : ∀ (f : Addr) (cdv : Value) (A : Around) (outer : List Env) (s : Shared) (H : Hp) (vs : List V) (Q : VK) (E : XK), Room k (A.deeper (envOfC qual (defScope st) s.heap.objs.size f cdv)) → sp vs H Q E →
      ∃ t, PSs (cxOf CX0 P w K mg base N qual (defScope st) f cdv A outer s H E).nox (defBody st) t ∧ t { nx := fun _ H' => Q .non H', rt := Q } (start N vs) H) : CalM P w K mg base cx m (k + 1) ps sp := by
  obtain ⟨f, fd, F, M⟩ := F
  exact ⟨f, fd, F.ok S len (hbody f), M, F.binds hb⟩
theorem calMX_mk (F : MethAt K mg cx m qual st) (S : FnScope N ps (defScope st)) (hb : BindOkQ m qual st ps) (len : ∀ vs H Q E, sp vs H Q E → vs.length = ps.length)
    (hbody : ∀ (f : Addr) (cdv : Value) (A : Around) (outer : List Env) (s : Shared) (H : Hp) (vs : List V) (Q : VK) (E : XK), Room k (A.deeper (envOfC qual (defScope st) s.heap.objs.size f cdv)) → sp vs H Q E →
      ∃ t, PSs (cxOf (L2.CX P w) P w K mg base N qual (defScope st) f cdv A outer s H E) (defBody st) t ∧ t { nx := fun _ H' => Q .non H', rt := Q } (start N vs) H) : CalMX P w K mg base cx m (k + 1) ps sp := by
  obtain ⟨f, fd, F, M⟩ := F
  exact ⟨f, fd, F.okX S len (hbody f), M, F.binds hb⟩
theorem CalI.mono {j : Nat} (c : CalI P w K mg base cx k ps sp) (h : k ≤ j) : CalI P w K mg base cx j ps sp := by
  obtain ⟨f, fd, F, r⟩ := c
  exact ⟨f, fd, F.mono h, r⟩
theorem CalIX.mono {j : Nat} (c : CalIX P w K mg base cx k ps sp) (h : k ≤ j) : CalIX P w K mg base cx j ps sp := by
  obtain ⟨f, fd, F, r⟩ := c
  exact ⟨f, fd, F.mono h, r⟩
theorem CalM.mono {j : Nat} (c : CalM P w K mg base cx m k ps sp) (h : k ≤ j) : CalM P w K mg base cx m j ps sp := by
  obtain ⟨f, fd, F, r⟩ := c
  exact ⟨f, fd, F.mono h, r⟩
theorem CalMX.mono {j : Nat} (c : CalMX P w K mg base cx m k ps sp) (h : k ≤ j) : CalMX P w K mg base cx m j ps sp := by
  obtain ⟨f, fd, F, r⟩ := c
  exact ⟨f, fd, F.mono h, r⟩
/-! how the facts are made -/
theorem cls_at {C : Addr} (g : mg cx = some (.ref C)) (a : PySem.W.plainGet K C Str.empty = true) (b : PySem.W.hasDictIn K C = true) (c : PySem.W.plainOver K C = true) (d : PySem.W.findIn K (.ref C) "__setattr__" = some (some (.builtin "object.__setattr__"))) : Cls K (clsA mg cx) := by
  rw [clsA_of g]
  exact ⟨a, b, c, d⟩
theorem no_at {C : Addr} {f : Str} (g : mg cx = some (.ref C)) (n : PySem.W.findIn K (.ref C) f = some none) : NoAttr K (clsA mg cx) f := by
  rw [clsA_of g]
  exact n
theorem init_at {C f : Addr} {fd : FuncData} (g : mg cx = some (.ref C)) (F : Fun K "__init__" qual st f fd) (mk : PySem.W.makesIn K C = true) (a : PySem.W.findIn K (.ref C) "__init__" = some (some (.ref f))) (i : PySem.W.isFn K (.ref f) = true) (kc : PySem.W.keepIn K (.ref C) = true) : InitAt K mg cx qual st := by
  refine ⟨f, fd, F, ?_, ?_⟩
  · rw [clsA_of g]; exact ⟨mk, a, i, kc⟩
  · rw [clsA_of g]; exact g
theorem meth_at {C f : Addr} {fd : FuncData} (g : mg cx = some (.ref C)) (F : Fun K m qual st f fd) (a : PySem.W.findIn K (.ref C) m = some (some (.ref f))) (i : PySem.W.isFn K (.ref f) = true) (kf : PySem.W.keepIn K (.ref f) = true) : MethAt K mg cx m qual st := by
  refine ⟨f, fd, F, ?_⟩
  rw [clsA_of g]
  exact ⟨a, i, kf⟩
end
section
variable {X : Cx} {W : WX} {k : Nat} {cx m : Str} {ps : List Str} {sp : Sp} {e o : Expr} {es : List Expr} {ta : TE} {t : TA} {p pos apos : Pos}
theorem pe_mk (c : CalI X.prog X.w X.K X.mg X.base cx k ps sp) (hr : Room (k + 1) X.A) (ha : PA X (e :: es) t) (hg : Gl X cx := by rfl)
    (hdb : (cx == ("__debug__" : Str)) = false := by decide) (he : starEach (e :: es) X.env = (false, eval e X.env) :: starEach es X.env := by rfl) (hpl : (backTo pos (starEach es X.env)).any (·.1) = false := by rfl) :
    PE X (.Call (.Name cx p) (e :: es) [] pos) (tMake (clsA X.mg cx) sp [] E0 t) := by
  obtain ⟨f, fd, F, M, g, hb⟩ := c
  exact pe_make M F hr hg g hb .nil pass0 ha hdb he hpl
theorem run_makeS {f C : Addr} {fd : FuncData} {CX : CXT} {E : L2.St → XK} {pins : List (Addr × Obj)} {σ : L2.St} {H : Hp} {s : Shared} {Q : VK} {us : List Value} {vs : List V} (M : Mk X.K C f) (F : FnOk X.prog X.w X.K X.mg X.base CX k f fd ps sp) (hr : Room (k + 1) X.A) (hb : Binds X.K fd ps [])
    (hx : PassesAt CX X σ (E σ)) (I : Inv X pins σ H s) (r : Vals vs us)
    (h : ∀ x dx, H x = none → H dx = none → dx ≠ x → sp (.ref x :: vs) (upd (upd H dx (.own x)) x (.ins C dx [])) (fun v H2 => v = .non ∧ Q (.ref x) H2) (E σ)) :
    wpAny (model X.prog X.w) X.A (call (.ref C) us) (EP X pins σ Q) X.xe s := by
  have hq := h (s.heap.objs.size + 1) s.heap.objs.size (I.hok.fresh (Nat.le_succ _)) (I.hok.fresh (Nat.le_refl _)) (Nat.ne_of_lt (Nat.lt_succ_self _))
  have I2 := Inv.made (C := C) I
  have r2 : Vals (V.ref (s.heap.objs.size + 1) :: vs) (Value.ref (s.heap.objs.size + 1) :: us) := .cons rfl r
  have hl : (Value.ref (s.heap.objs.size + 1) :: us).length = ps.length := by
    have e := r2.length
    rw [F.len _ _ _ _ hq] at e
    exact e.symm
  have b := hb _ (Value.ref (s.heap.objs.size + 1) :: us) I2.kIn (by rw [List.append_nil]; exact hl)
  rw [List.append_nil] at b
  refine wpAny_call (make_map (f := f) I.kIn M.makes M.init (beq_iff_eq.mp M.fn) (codeAny_mono (F.run _ X.stack _ _ ⟨Value.ref (s.heap.objs.size + 1) :: us, []⟩ (Value.ref (s.heap.objs.size + 1) :: us) _ _ (E σ) (hr.make C us [])
    (I2.env0.make C us []) b r2 hq) fun r s' hq' => ?_))
  cases r with
  | error e => exact hx pins _ _ e s' I2 hq'
  | ok fl =>
    cases fl with
    | ret u =>
      obtain ⟨v, H', I3, rv, ev, q3⟩ := I2.after hq'
      subst ev
      exact ⟨rv, ⟨V.ref (s.heap.objs.size + 1), H', I3, rfl, q3⟩⟩
    | next => exact False.elim hq'
    | brk => exact False.elim hq'
    | cont => exact False.elim hq'
def tMakeX (C : Addr) (sp : Sp) (E : L2.St → XK) (t : TA) : TE := fun σ H Q => t σ H fun vs H1 => ∀ x dx, H1 x = none → H1 dx = none → dx ≠ x →
  sp (.ref x :: vs) (upd (upd H1 dx (.own x)) x (.ins C dx [])) (fun v H2 => v = .non ∧ Q (.ref x) H2) (E σ)
theorem pe_mkX (c : CalIX X.prog X.w X.K X.mg X.base cx k ps sp) (hr : Room (k + 1) X.A) (tk : Takes X W) (ha : PA X (e :: es) t) (hg : Gl X cx := by rfl)
    (hdb : (cx == ("__debug__" : Str)) = false := by decide) (he : starEach (e :: es) X.env = (false, eval e X.env) :: starEach es X.env := by rfl) (hpl : (backTo pos (starEach es X.env)).any (·.1) = false := by rfl) :
    PE X (.Call (.Name cx p) (e :: es) [] pos) (tMakeX (clsA X.mg cx) sp (WE W) t) := by
  obtain ⟨f, fd, F, M, g, hb⟩ := c
  refine ⟨fun pins s σ H Q I h => ?_⟩
  refine wpAny_Call_Name_kw (ld_glob I hg g ?_ hdb)
  refine PySem.W.callWith_K (h₀ := X.base) I.ok.mod.kin M.kp (thn (ha.run pos pins s σ H _ I h) fun us s1 ⟨vs, H1, I1, r, q⟩ => ⟨I1.kIn, ?_⟩) he hpl
  exact run_makeS M F hr hb (passAt tk σ) I1 r q
def tMeC (C : Addr) (m : Str) (sp : Sp) (ta : TE) (t : TA) : TE := fun σ H Q => ta σ H fun x H1 => ∃ a dx fs, x = .ref a ∧ H1 a = some (.ins C dx fs) ∧ fs.lookup m = none ∧ t σ H1 fun vs H2 => sp (x :: vs) H2 Q E0
theorem tMe_eq {C : Addr} : tMeth C m sp [] E0 ta t = tMeC C m sp ta t := by
  funext σ H Q
  show (ta σ H fun x H1 => ∃ a dx fs, x = .ref a ∧ H1 a = some (.ins C dx fs) ∧ fs.lookup m = none ∧ t σ H1 fun vs H2 => sp (x :: (vs ++ [])) H2 Q E0) = _
  simp only [List.append_nil]
  rfl
theorem pe_me {pl : Sem Bool} (c : CalM X.prog X.w X.K X.mg X.base cx m k ps sp) (cl : Cls X.K (clsA X.mg cx)) (hr : Room k X.A) (he : PE X o ta) (ha : PA X (e :: es) t)
    (hst : starEach (e :: es) X.env = (false, eval e X.env) :: starEach es X.env := by rfl) (hpl : (backTo pos (starEach es X.env)).any (·.1) = false := by rfl)
    (ht : eval (.Call (.Attribute o m apos) (e :: es) [] pos) X.env = (do
      let ov ← eval o X.env
      standAt apos.atName
      let (f, first) ← holding [ov] (getMethod ov m pl)
      callWith pos f first (backTo pos (starEach (e :: es) X.env)) (backToKw pos (keywordEach [] X.env))) := by rfl) :
    PE X (.Call (.Attribute o m apos) (e :: es) [] pos) (tMeC (clsA X.mg cx) m sp ta t) := by
  obtain ⟨f, fd, F, M, hb⟩ := c
  have h := pe_meth he cl M F hr hb .nil pass0 ha hst hpl ht
  rw [tMe_eq] at h
  exact h
theorem pe_me0 {pl : Sem Bool} (c : CalM X.prog X.w X.K X.mg X.base cx m k ps sp) (cl : Cls X.K (clsA X.mg cx)) (hr : Room k X.A) (he : PE X o ta)
    (ht : eval (.Call (.Attribute o m apos) [] [] pos) X.env = (do
      let ov ← eval o X.env
      standAt apos.atName
      let (f, first) ← holding [ov] (getMethod ov m pl)
      callWith pos f first (backTo pos (starEach [] X.env)) (backToKw pos (keywordEach [] X.env))) := by rfl) :
    PE X (.Call (.Attribute o m apos) [] [] pos) (tMeC (clsA X.mg cx) m sp ta tNil) := by
  obtain ⟨f, fd, F, M, hb⟩ := c
  have h := pe_meth0 he cl M F hr hb .nil pass0 ht
  rw [tMe_eq] at h
  exact h
def tMeX (C : Addr) (m : Str) (sp : Sp) (E : L2.St → XK) (ta : TE) (t : TA) : TE := fun σ H Q => ta σ H fun x H1 => ∃ a dx fs, x = .ref a ∧ H1 a = some (.ins C dx fs) ∧ fs.lookup m = none ∧ t σ H1 fun vs H2 => sp (x :: vs) H2 Q (E σ)
theorem pe_meX {pl : Sem Bool} (c : CalMX X.prog X.w X.K X.mg X.base cx m k ps sp) (cl : Cls X.K (clsA X.mg cx)) (hr : Room k X.A) (tk : Takes X W) (he : PE X o ta) (ha : PA X (e :: es) t)
    (hst : starEach (e :: es) X.env = (false, eval e X.env) :: starEach es X.env := by rfl) (hpl : (backTo pos (starEach es X.env)).any (·.1) = false := by rfl)
    (ht : eval (.Call (.Attribute o m apos) (e :: es) [] pos) X.env = (do
      let ov ← eval o X.env
      standAt apos.atName
      let (f, first) ← holding [ov] (getMethod ov m pl)
      callWith pos f first (backTo pos (starEach (e :: es) X.env)) (backToKw pos (keywordEach [] X.env))) := by rfl) :
    PE X (.Call (.Attribute o m apos) (e :: es) [] pos) (tMeX (clsA X.mg cx) m sp (WE W) ta t) := by
  obtain ⟨f, fd, F, M, hb⟩ := c
  refine ⟨fun pins s σ H Q I h => ?_⟩
  refine PySem.W.methodCall_KW (pl := pl) (thn (he.run pins s σ H _ I h) fun u s1 ⟨x, H1, I1, rx, a, dx, fs, ex, ea, l, q⟩ => ?_) ht
  subst ex
  obtain rfl : u = Value.ref a := rx
  refine getmeth_ok I1 ea cl M l ?_
  refine PySem.W.callWith_K (first := [.ref a]) (h₀ := X.base) I.ok.mod.kin M.kp (thn (ha.run pos pins s1 σ H1 _ I1 q) fun us s2 ⟨vs, H2, I2, r, q2⟩ => ⟨I2.kIn, ?_⟩) hst hpl
  exact run_fnS (us := .ref a :: us) (vs := .ref a :: vs) F hr hb (passAt tk σ) I2 (.cons rfl r) q2
end
section
variable {K : PySem.W.Frag} {σ : L2.St} {H : Hp} {Q : VK} {D : Ends} {ta tv : TE} {t : TA} {f m : Str} {a C dx : Addr} {fs : List (Str × V)} {v y : V} {sp : Sp} {E : L2.St → XK}
theorem rd_fld (q : ta σ H fun x H1 => ∃ a C dx fs v, x = .ref a ∧ H1 a = some (.ins C dx fs) ∧ Cls K C ∧ NoAttr K C f ∧ fs.lookup f = some v ∧ Q v H1) : tFld K ta f σ H Q := q
theorem rd_at {R : V → Prop} (h : H a = some (.ins C dx fs)) (c : Cls K C) (n : NoAttr K C f) (l : fs.lookup f = some v) (q : R v) : ∃ b D ex gs u, V.ref a = .ref b ∧ H b = some (.ins D ex gs) ∧ Cls K D ∧ NoAttr K D f ∧ gs.lookup f = some u ∧ R u := ⟨a, C, dx, fs, v, rfl, h, c, n, l, q⟩
theorem rd_sfld (q : tv σ H fun y H1 => ta σ H1 fun x H2 => ∃ a C dx fs, x = .ref a ∧ H2 a = some (.ins C dx fs) ∧ Cls K C ∧ NoAttr K C f ∧ fs.length < 1000 ∧ D.nx σ (upd H2 a (.ins C dx (putF f y fs)))) : sFld K ta tv f D σ H := q
theorem rd_put (h : H a = some (.ins C dx fs)) (c : Cls K C) (n : NoAttr K C f) (l : fs.length < 1000) (q : D.nx σ (upd H a (.ins C dx (putF f y fs)))) : ∃ b C' ex gs, V.ref a = .ref b ∧ H b = some (.ins C' ex gs) ∧ Cls K C' ∧ NoAttr K C' f ∧ gs.length < 1000 ∧ D.nx σ (upd H b (.ins C' ex (putF f y gs))) := ⟨a, C, dx, fs, rfl, h, c, n, l, q⟩
theorem rd_make (q : t σ H fun vs H1 => ∀ x dx, H1 x = none → H1 dx = none → dx ≠ x → sp (.ref x :: (vs ++ [])) (upd (upd H1 dx (.own x)) x (.ins C dx [])) (fun v H2 => v = .non ∧ Q (.ref x) H2) E0) : tMake C sp [] E0 t σ H Q := q
theorem rd_makeX (q : t σ H fun vs H1 => ∀ x dx, H1 x = none → H1 dx = none → dx ≠ x → sp (.ref x :: vs) (upd (upd H1 dx (.own x)) x (.ins C dx [])) (fun v H2 => v = .non ∧ Q (.ref x) H2) (E σ)) : tMakeX C sp E t σ H Q := q
theorem rd_me (q : ta σ H fun x H1 => ∃ a dx fs, x = .ref a ∧ H1 a = some (.ins C dx fs) ∧ fs.lookup m = none ∧ t σ H1 fun vs H2 => sp (x :: vs) H2 Q E0) : tMeC C m sp ta t σ H Q := q
theorem rd_meX (q : ta σ H fun x H1 => ∃ a dx fs, x = .ref a ∧ H1 a = some (.ins C dx fs) ∧ fs.lookup m = none ∧ t σ H1 fun vs H2 => sp (x :: vs) H2 Q (E σ)) : tMeX C m sp E ta t σ H Q := q
end
end Qi
/-! generator expressions over a list of values, whose items ask nothing but what stands: the def's table of code objects may grow, all else stays -/
namespace Qg
open PySem PySem.Spec PyProof.Rows L2
/-- the table at P has grown, nothing else is another -/
structure Grown (P : Addr) (ps : Array Value) (h h' : Heap) : Prop where
  keep : ∀ b u, b ≠ P → h.get? b = some u → h'.get? b = some u
  size : h.objs.size ≤ h'.objs.size
  tab : ∃ more : Array Value, h'.get? P = some { cls := .none, data := .fields (ps ++ more) } ∧ TriplesOk (ps ++ more).toList
theorem Grown.refl {P : Addr} {ps : Array Value} {h : Heap} (hP : h.get? P = some { cls := .none, data := .fields ps }) (ht : TriplesOk ps.toList) : Grown P ps h h :=
  ⟨fun _ _ _ e => e, Nat.le_refl _, #[], by simpa using hP, by simpa using ht⟩
theorem code_of {M : Model} {A : Around} {E : Value → Shared → Prop} {s : Shared} {env : Env} {c P : Addr} {ps : Array Value} {pos : Pos} {q : Str} {scope : Scope} {Q : Value → Shared → Prop} (hc : env.code = .ref c)
    (cd : PySem.W.CodeHd s.heap c P) (hP : s.heap.get? P = some { cls := .none, data := .fields ps }) (ht : TriplesOk ps.toList) (h : ∀ code h' tk, Grown P ps s.heap h' → Q code { s with heap := h', toks := tk }) :
    wpAny M A (genexprCode env pos q scope) Q E s := by
  cases hf : codeAmong pos ps.toList with
  | some cv => exact wpAny_genexprCode_hit hc (cd.code hP ht) hf (h cv s.heap s.toks (.refl hP ht))
  | none =>
    refine wpAny_genexprCodeX hc (cd.code hP ht) (cd.tab hP) hf fun c' h' tk hx hge hlt hco _ ht2 _ => h (.ref c') h' tk ⟨fun b u n e => hx b u n e, Nat.le_trans hge (Nat.le_of_lt hlt), _, ht2.2, ?_⟩
    obtain ⟨_, _, _, _, _, _, _, _, _, _, _, _, _, _, _, _, _, _, _, z, _⟩ := hco
    exact z
/-- an item's value, asked for where all stands that stood in s but for the table -/
def Item (X : Cx) (scope : Scope) (x : Str) (elt : Expr) (P : Addr) (its : List Value) (s : Shared) (F : Nat → Value → Prop) : Prop :=
  ∀ (L bi : Addr) (code : Value) (A : Around) (E : Value → Shared → Prop) (i : Nat) (v : Value) (s2 : Shared) (m : Str → Option Value), A.handled = none → its[i]? = some v → s2.heap.Ns L m → m x = some v →
    (∀ b o, b ≠ P → s.heap.get? b = some o → s2.heap.get? b = some o) →
    wpAny (model X.prog X.w) A (eval elt (genEnv scope (cloFrom X.env.cells scope.names []) L code bi X.env)) (fun y s3 => F i y ∧ Keeps s2 s3) E s2
/-- the generator g that stands in s5, behind what was held in H -/
def Made (X : Cx) (pins : List (Addr × Obj)) (σ : L2.St) (H : Hp) (P : Addr) (n : Nat) (F : Nat → Value → Prop) (g : Addr) (s5 : Shared) : Prop :=
  ∃ (fp wr : List Addr) (G : Array GenState → Array GenState → Prop) (F' : Nat → Value → Prop) (St : Nat → Shared → Prop),
    WalksS X.prog X.w X.A.in4 g fp wr G n F' St ∧ St 0 s5 ∧ g ∈ fp ∧ (∀ b ∈ fp, b < s5.heap.objs.size) ∧ (∀ i s9, St i s9 → s9.TypeIs (.ref g) "generator") ∧
    (∀ j v, F' j v → F j v) ∧ ∀ s', Moved wr G s5 s' → ∃ H2, GxR.Tabbed P H H2 ∧ Inv X pins σ H2 s'
section
variable {X : Cx} {pins : List (Addr × Obj)} {σ : L2.St} {H : Hp} {s : Shared}
theorem made_at {c P : Addr} {elt iter : Expr} {x : Str} {px gpos : Pos} {scope : Scope} {te : TE} {k : Nat} {Q' : Value → Shared → Prop} {α : Type} {R : α → List V → Hp → Prop} {F : α → List V → Nat → Value → Prop}
    (hr : Room k X.A) (TB : GxR.TabB X.base X.mg c P) (hcode : X.env.code = .ref c) (S : GxR.GenS X.env scope x) (hi : PE X iter te) (hs : ∀ v, genFold iter X.env v = pure v) (I : Inv X pins σ H s)
    (h : te σ H fun v H1 => ∃ (d : α) (yl : Addr) (xs : List V), v = .ref yl ∧ SqL X.K H1 yl xs ∧ GxR.TabG H1 P ∧ R d xs H1)
    (hel : ∀ d xs its H1 s1, R d xs H1 → GxR.TabG H1 P → Inv X pins σ H1 s1 → Vals xs its → Item X scope x elt P its s1 (F d xs))
    (hQ : ∀ d xs H1 g s5, R d xs H1 → Made X pins σ H1 P xs.length (F d xs) g s5 → Q' (.ref g) s5) :
    wpAny (model X.prog X.w) X.A (eval (.GeneratorExp elt [⟨.Name x px, iter, [], 0⟩] scope gpos) X.env) Q' X.xe s := by
  refine wpAny_GeneratorExp_walksQ hr.hd S.co (closure_ok S.free) S.cell S.dot S.loc S.kind (by have := hr.dp; omega) ?_ hs
  refine thn (hi.run pins s σ H _ I h) fun xv s1 hv => ?_
  obtain ⟨v, H1, I1, r1, d, yl, xs, rfl, hyl, hT, hR⟩ := hv
  obtain ⟨ps, hP, ht⟩ := id hT
  obtain rfl : xv = Value.ref yl := r1
  obtain ⟨its, rv, hl, hz⟩ := I1.list hyl
  have hit := hel d xs its H1 s1 hR hT I1 rv
  have gP : s1.heap.get? P = some { cls := .none, data := .fields ps } := I1.hok P _ hP
  have ylP : yl ≠ P := fun z => by
    obtain ⟨_, e, _, _, d⟩ := hl.isList
    rw [z, gP] at e
    cases e
    cases d
  refine wpAny_pyIter_list hl.isList ⟨I1.nolimit.push _, ?_⟩
  generalize ho : ({ cls := .type "list_iterator", data := .fields #[.ref yl, .int 0 0] } : Obj) = o
  have up : ∀ b u, s1.heap.get? b = some u → (s1.heap.push o).get? b = some u := fun b u e => Heap.get?_push_of_some _ e
  have isz : (s1.heap.push o).objs.size = s1.heap.objs.size + 1 := Heap.size_push ..
  refine code_of hcode (TB.code.keeps fun b u e => up b u (I1.bk b u e)) (up _ _ gP) ht fun code h3 tk gr => ?_
  have k3 : ∀ b u, b ≠ P → s1.heap.get? b = some u → h3.get? b = some u := fun b u n e => gr.keep b u n (up b u e)
  have z3 : s1.heap.objs.size < h3.objs.size := Nat.lt_of_lt_of_le (by rw [isz]; exact Nat.lt_succ_self _) (show (s1.heap.push o).objs.size ≤ h3.objs.size from gr.size)
  have st : cStatics ≠ P := fun e => by
    obtain ⟨_, ⟨_, _, _, q, d, _⟩, _⟩ := I1.nolimit
    rw [e, gP] at q
    cases q
    cases d
  have lm : h3.NoLimit := by
    obtain ⟨mc, ⟨ob, es, ep, q, d, r⟩, z⟩ := I1.nolimit
    exact ⟨mc, ⟨ob, es, ep, k3 _ _ st q, d, r⟩, z⟩
  obtain ⟨bm, ob, b1, b2, b3, b4, b5, b6, b7, b8⟩ := TB.bm
  have gl : h3.Ns X.env.globals X.mg := by
    rw [I1.ok.glob]
    obtain ⟨og, es, ep, q, d, r⟩ := I1.mod.glob
    exact ⟨og, es, ep, k3 _ _ TB.gP (I1.bk _ _ q), d, r⟩
  refine wpAny_builtinsFor gl b1 b2 (k3 _ _ b4 (I1.bk _ _ b5)) b6 b7 b8 ?_
  have i3 : h3.IsListIter s1.heap.objs.size yl 0 := by
    subst ho
    exact ⟨_, gr.keep _ _ (Nat.ne_of_gt (Heap.lt_size gP)) (Heap.get?_push_size _ rfl), rfl, rfl⟩
  have l3 : h3.IsList yl its.toArray := by
    obtain ⟨ol, e, r⟩ := _root_.id hl.isList
    exact ⟨ol, k3 _ _ ylP e, r⟩
  have ltl : yl < s1.heap.objs.size := by
    obtain ⟨_, e, _⟩ := _root_.id hl.isList
    exact Heap.lt_size e
  have stl : cStatics < s1.heap.objs.size := let ⟨_, q, _⟩ := I1.nolimit; q.lt
  refine ⟨s1.heap.objs.size, [s1.heap.objs.size, yl], [s1.heap.objs.size], its.toArray.size, (fun i v => its.toArray[i]? = some v), (fun i h => h.IsListIter s1.heap.objs.size yl i ∧ h.IsList yl its.toArray), (fun _ => true), F d xs, rfl,
    (fun A' hA => Walks.list hA _ _ (Nat.ne_of_lt ltl) _), ⟨i3, l3⟩, ?_, lm, ?_, fun href hk => ⟨?_, ?_⟩, ?_⟩
  · intro b hb
    show b < h3.objs.size
    have hb' : b = s1.heap.objs.size ∨ b = yl := by simpa using hb
    rcases hb' with z | z <;> rw [z]
    · exact z3
    · exact Nat.lt_trans ltl z3
  · intro z
    have z' : cStatics = s1.heap.objs.size := by simpa using z
    exact Nat.ne_of_lt stl z'
  · intro A' E' i v s2 m2 hA hv hn hm hk2
    rw [List.forIn_nil]
    exact wpAny_pure ⟨rfl, GxR.keeps_refl _⟩
  · intro A' E' i v s2 m2 hA hv hp hn hm hk2
    refine hit _ _ code A' E' i v s2 m2 hA (by simpa using hv) hn hm fun b u n e => hk2 b (List.mem_range.mpr (Nat.lt_trans (Heap.lt_size e) z3)) (fun z => ?_) u (hk b u (k3 b u n e))
    have z' : b = s1.heap.objs.size := by simpa using z
    exact Nat.ne_of_lt (Heap.lt_size e) z'
  · intro g h5 tk5 gs hgb hag hsz5 hk5 W5 hat
    simp only [GxR.passing_true, List.length_range] at W5
    have n5 : its.toArray.size = xs.length := by rw [List.size_toArray, rv.length]
    rw [n5] at W5 hat
    refine hQ d xs H1 g _ hR ⟨_, _, _, _, _, W5, hat, List.mem_cons_self, fun b hb => ?_, fun i s9 h9 => h9.1.typeIs, fun j v hv => ?_, fun s' hm => ?_⟩
    · show b < h5.objs.size
      have hag' : h3.objs.size < g := hag
      have e5 : h5.objs.size = g + 1 := hsz5
      have hb' : b ≤ g := by
        rcases List.mem_cons.mp hb with z | z
        · exact Nat.le_of_eq z
        · rcases List.mem_cons.mp z with z | z
          · exact Nat.le_of_lt (by rw [z]; exact hag')
          · exact Nat.le_of_lt (Nat.lt_trans (show b < h3.objs.size from List.mem_range.mp z) hag')
      rw [e5]
      exact Nat.lt_succ_of_le hb'
    · obtain ⟨i, hij, hF⟩ := hv
      obtain ⟨hj, ej⟩ := List.getElem?_eq_some_iff.mp hij
      rw [List.getElem_range] at ej
      subst ej
      exact hF
    · obtain ⟨more, em, tm⟩ := gr.tab
      have nw : ∀ b u, s1.heap.get? b = some u → b ∉ h3.objs.size :: [s1.heap.objs.size] := fun b u e hb => by
        have e1 := Heap.lt_size e
        have hb' : b = h3.objs.size ∨ b = s1.heap.objs.size := by simpa using hb
        rcases hb' with z | z <;> rw [z] at e1
        · exact Nat.lt_irrefl _ (Nat.lt_trans e1 z3)
        · exact Nat.lt_irrefl _ e1
      have J := GxR.inv_tab (more := more) (h' := s'.heap) (g' := s'.gens) (d' := s'.drawn) (t' := s'.toks) I1 hP (fun b u n e => hm.heap b u (nw b u e) (hk5 b u (k3 b u n e))) (hm.heap P _ (nw P _ gP) (hk5 P _ em)) (AllBare.movedS (I1.bare.push hgb) hm)
      rw [GxR.sh_eta s1 s' hm.os] at J
      exact ⟨_, ⟨⟨_, upd_same, tm⟩, fun b n => upd_ne n⟩, J⟩
/-- x in y, y a captured name of the def that holds a list of flat values -/
theorem item_in {P zl : Addr} {scope : Scope} {x y : Str} {p1 p2 p3 : Pos} {j : Nat} {xs zs : List V} {its : List Value} (I : Inv X pins σ H s) (S : GxR.GenS X.env scope x) (hy : scope.names.lookup y = some .free) (hN : X.N[j]? = some y)
    (hv : X.env.scope.names.lookup y = some .cell ∨ X.env.scope.names.lookup y = some .free) (hσ : σ[j]? = some (some (.ref zl))) (hz : SqL X.K H zl zs) (fx : xs.all flatV = true) (fz : zs.all flatV = true) (T : GxR.TabG H P) (rv : Vals xs its)
    (hd : (x == ("__debug__" : Str)) = false) (hd2 : (y == ("__debug__" : Str)) = false) (hd3 : (y == ("__classdict__" : Str)) = false) :
    Item X scope x (.Compare (.Name x p1) [.In] [.Name y p2] p3) P its s fun i r => ∃ a, xs[i]? = some a ∧ r = .bool (inV a zs) := by
  intro L bi code A E i v s2 m hA hi hn hm hk
  obtain ⟨ps, hP, _⟩ := T
  have gP : s.heap.get? P = some { cls := .none, data := .fields ps } := I.hok P _ hP
  obtain ⟨m0, hn0, hl0⟩ := I.loc
  obtain ⟨u, ru, lk⟩ := hl0 j y _ hN hσ (.inr hv)
  obtain rfl : u = Value.ref zl := ru
  obtain ⟨ca, hca, hcell⟩ : ∃ ca, X.env.cells.lookup y = some ca ∧ s.heap.IsCell ca (some (.ref zl)) := by
    rcases lk with ⟨z, _⟩ | ⟨_, ca, z1, z2⟩
    · have z' : X.env.scope.names.lookup y = some .local := z
      rcases hv with k | k <;> rw [k] at z' <;> cases z'
    · exact ⟨ca, z1, z2⟩
  have caP : ca ≠ P := fun z => by
    obtain ⟨o, e, d⟩ := hcell
    rw [z, gP] at e
    cases e
    cases d
  have cell2 : s2.heap.IsCell ca (some (.ref zl)) := by
    obtain ⟨o, e, d⟩ := hcell
    exact ⟨o, hk _ _ caP e, d⟩
  obtain ⟨jts, rj, lj, _⟩ := I.list hz
  have zP : zl ≠ P := fun z => by
    obtain ⟨_, e, _, _, d⟩ := lj.isList
    rw [z, gP] at e
    cases e
    cases d
  have l2 : s2.heap.IsList zl jts.toArray := by
    obtain ⟨o, e, r⟩ := _root_.id lj.isList
    exact ⟨o, hk _ _ zP e, r⟩
  have hil : i < its.length := (List.getElem?_eq_some_iff.mp hi).1
  have hxl : i < xs.length := by rw [rv.length]; exact hil
  obtain ⟨a, ha⟩ : ∃ a, xs[i]? = some a := ⟨_, List.getElem?_eq_getElem hxl⟩
  obtain ⟨u, hu, ra⟩ := rv.get ha
  rw [hi] at hu
  obtain rfl : v = u := Option.some.inj hu
  have fa : flatV a = true := List.all_eq_true.mp fx a (List.mem_of_getElem? ha)
  refine wpAny_Compare1 ?_
  refine wpAny_Name (wpAny_loadName_local (show scope.kind = .function from S.kind) (show scope.names.lookup x = some .local from S.loc) hn hm ?_) hd
  refine wpAny_Name (wpAny_loadName_free (show scope.kind = .function from S.kind) (show scope.names.lookup y = some .free from hy) (show (cloFrom X.env.cells scope.names []).lookup y = some ca from NdefX.clo_has S.free (PySem.mem_of_lookup hy) hca) cell2 ?_ hd3) hd2
  refine SeqAt.in_listAt (eqU a) l2 (fun w hw => mem_eqAt ra fa rj fz w (by simpa using hw)) ⟨⟨a, ha, ?_⟩, GxR.keeps_refl _⟩
  rw [show jts.toArray.any (eqU a) = jts.any (eqU a) by simp, any_eqU rj fz]
  rfl
/-- the generator expression's scope: its own name x, and y captured -/
def genB (scope : Scope) (x y : Str) : Bool :=
  decide (scope.kind = .function) && !scope.isCoroutine && decide (scope.names.lookup (".0" : Str) = some NameKind.local) && decide (scope.names.lookup x = some .local) && decide (scope.names.lookup y = some .free) &&
    scope.names.all fun z => !decide (z.2 = .cell) && (!decide (z.2 = .free) || decide (z.1 = y))
theorem genS_of {X : Cx} {scope : Scope} {x y : Str} (h : genB scope x y = true) (ok : X.Ok) (hv : X.env.scope.names.lookup y = some .cell ∨ X.env.scope.names.lookup y = some .free) : GxR.GenS X.env scope x ∧ scope.names.lookup y = some .free := by
  unfold genB at h
  simp only [Bool.and_eq_true, Bool.or_eq_true, Bool.not_eq_true', decide_eq_true_eq, decide_eq_false_iff_not, List.all_eq_true] at h
  obtain ⟨⟨⟨⟨⟨h1, h2⟩, h3⟩, h4⟩, h5⟩, h6⟩ := h
  refine ⟨⟨h1, h2, fun z hz => (h6 z hz).1, h3, h4, fun z hz e => ?_⟩, h5⟩
  rcases (h6 z hz).2 with n | n
  · exact absurd e n
  · rw [n]
    exact ok.has y hv
/-- any(x in y for x in e): e a list of flat values, y a captured name's -/
def tAnyIn (K : PySem.W.Frag) (P : Addr) (j : Nat) (te : TE) : TE := fun σ H Q => te σ H fun v H1 => ∃ (d : Addr × List V) (yl : Addr) (xs : List V), v = .ref yl ∧ SqL K H1 yl xs ∧ GxR.TabG H1 P ∧
  (σ[j]? = some (some (.ref d.1)) ∧ SqL K H1 d.1 d.2 ∧ xs.all flatV = true ∧ d.2.all flatV = true ∧ ∀ H2, GxR.Tabbed P H1 H2 → Q (.bl (xs.any fun a => inV a d.2)) H2)
/-- the truth at a place -/
def trV (f : V → Bool) (xs : List V) (i : Nat) : Bool := match xs[i]? with
  | some a => f a
  | none => false
theorem any_trV (f : V → Bool) (xs : List V) : (List.range xs.length).any (trV f xs) = xs.any f := by
  rw [Bool.eq_iff_iff, List.any_eq_true, List.any_eq_true]
  constructor
  · rintro ⟨i, hi, h⟩
    have hi' := List.mem_range.mp hi
    unfold trV at h
    rw [List.getElem?_eq_getElem hi'] at h
    exact ⟨_, List.getElem_mem hi', h⟩
  · rintro ⟨a, ha, h⟩
    obtain ⟨i, hi, e⟩ := List.getElem_of_mem ha
    refine ⟨i, List.mem_range.mpr hi, ?_⟩
    unfold trV
    rw [List.getElem?_eq_getElem hi, e]
    exact h
theorem pe_anyIn {c P : Addr} {iter : Expr} {x y : Str} {px p pos gpos p1 p2 p3 : Pos} {scope : Scope} {j : Nat} {te : TE} {k : Nat} {K : PySem.W.Frag} (hK : X.K = K)
    (hr : Room k X.A) (TB : GxR.TabB X.base X.mg c P) (hm : X.mg "any" = none) (hcode : X.env.code = .ref c) (hG : genB scope x y = true) (hN : X.N[j]? = some y)
    (hv : X.env.scope.names.lookup y = some .cell ∨ X.env.scope.names.lookup y = some .free) (hi : PE X iter te) (hg : Gl X "any" := by rfl)
    (hs : ∀ v, genFold iter X.env v = pure v := by intro _; rfl) (hd : (x == ("__debug__" : Str)) = false := by decide) (hd2 : (y == ("__debug__" : Str)) = false := by decide) (hd3 : (y == ("__classdict__" : Str)) = false := by decide)
    (he : starEach [.GeneratorExp (.Compare (.Name x p1) [.In] [.Name y p2] p3) [⟨.Name x px, iter, [], 0⟩] scope gpos] X.env = (false, eval (.GeneratorExp (.Compare (.Name x p1) [.In] [.Name y p2] p3) [⟨.Name x px, iter, [], 0⟩] scope gpos) X.env) :: starEach [] X.env := by rfl) :
    PE X (.Call (.Name "any" p) [.GeneratorExp (.Compare (.Name x p1) [.In] [.Name y p2] p3) [⟨.Name x px, iter, [], 0⟩] scope gpos] [] pos) (tAnyIn K P j te) := by
  subst hK
  refine ⟨fun pins s σ H Q I h => ?_⟩
  obtain ⟨S, hy⟩ := genS_of hG I.ok hv
  refine wpAny_Call_Name_kw (ld_blt I hg hm boot_any (PyProof.Rows.callWith_builtin1 ?_ he (by rfl)))
  rw [he]
  show wpAny _ _ (spliced ((false, eval (.GeneratorExp (.Compare (.Name x p1) [.In] [.Name y p2] p3) [⟨.Name x px, iter, [], 0⟩] scope gpos) X.env) :: backTo pos (starEach [] X.env))) _ _ s
  refine Calls.spliced_cons (made_at (α := Addr × List V) (R := fun d xs H1 => σ[j]? = some (some (.ref d.1)) ∧ SqL X.K H1 d.1 d.2 ∧ xs.all flatV = true ∧ d.2.all flatV = true ∧ ∀ H2, GxR.Tabbed P H1 H2 → Q (.bl (xs.any fun a => inV a d.2)) H2)
    (F := fun d xs i r => ∃ a, xs[i]? = some a ∧ r = .bool (inV a d.2)) hr TB hcode S hi hs I h (fun d xs its H1 s1 hR T I1 rv => item_in I1 S hy hN hv hR.1 hR.2.1 hR.2.2.1 hR.2.2.2.1 T rv hd hd2 hd3) fun d xs H1 g s5 hR hM => ?_)
  obtain ⟨fp, wr, G, F', St, W, hst, _, _, _, hF, hI⟩ := hM
  refine Calls.spliced_nil (call_any_walkS (W.in4_1.self 0 _ _ _ hst ⟨g, fp, wr, G, _, F', St, trV (fun a => inV a d.2) xs, rfl, W.in4_1, hst, ?_, fun s' hmv => ?_⟩))
  · intro i v sj Qj Ej hy hQj
    obtain ⟨a, ha, rfl⟩ := hF i v hy
    refine wpAny_truthy_bool ?_
    have hQ2 : Qj (trV (fun a => inV a d.2) xs i) sj := hQj
    unfold trV at hQ2
    rw [ha] at hQ2
    exact hQ2
  · obtain ⟨H2, hT, J⟩ := hI s' hmv
    refine ⟨.bl _, H2, J, rfl, ?_⟩
    rw [any_trV]
    exact hR.2.2.2.2 H2 hT
theorem rd_anyV {K : PySem.W.Frag} {P : Addr} {j : Nat} {te : TE} {σ : L2.St} {H : Hp} {Q : VK} (q : te σ H fun v H1 => ∃ (d : Addr × List V) (yl : Addr) (xs : List V), v = .ref yl ∧ SqL K H1 yl xs ∧ GxR.TabG H1 P ∧
  (σ[j]? = some (some (.ref d.1)) ∧ SqL K H1 d.1 d.2 ∧ xs.all flatV = true ∧ d.2.all flatV = true ∧ ∀ H2, GxR.Tabbed P H1 H2 → Q (.bl (xs.any fun a => inV a d.2)) H2)) : tAnyIn K P j te σ H Q := q
theorem rd_anyIn {K : PySem.W.Frag} {P : Addr} {j : Nat} {yl zl : Addr} {xs zs : List V} {H1 : Hp} {σ : L2.St} {Q : VK} (h1 : SqL K H1 yl xs) (h2 : σ[j]? = some (some (.ref zl))) (h3 : SqL K H1 zl zs) (f1 : xs.all flatV = true) (f2 : zs.all flatV = true)
    (T : GxR.TabG H1 P) (q : ∀ H2, GxR.Tabbed P H1 H2 → Q (.bl (xs.any fun a => inV a zs)) H2) :
    ∃ (d : Addr × List V) (y : Addr) (ws : List V), V.ref yl = .ref y ∧ SqL K H1 y ws ∧ GxR.TabG H1 P ∧ (σ[j]? = some (some (.ref d.1)) ∧ SqL K H1 d.1 d.2 ∧ ws.all flatV = true ∧ d.2.all flatV = true ∧ ∀ H2, GxR.Tabbed P H1 H2 → Q (.bl (ws.any fun a => inV a d.2)) H2) :=
  ⟨(zl, zs), yl, xs, rfl, h1, T, h2, h3, f1, f2, q⟩
end
end Qg
namespace Qa
open PySem PySem.Spec PyProof.Rows L2
/-! enumerate; comprehensions over any walk -/
section
variable {K : PySem.W.Frag} {σ : L2.St} {H : Hp} {Q : VK} {g : TG} {tb : TS} {D : Ends} {tt : TT} {te tl : TE} {ta : TA} {vs : List Nat} {J : It}
theorem pg_tupK {X : Cx} {es : List Expr} {k : Nat} {t : TGs} {n : Nat} {pos : Pos} (hK : X.K = K) (hc : X.calm = true) (h : PGs X es t)
    (hn : (assignEach es X.env).length = n := by rfl) (hst : (assignEach es X.env).findIdx? (·.1) = none := by rfl) : PG X (.Tuple es k pos) (gTup K n t) := by
  subst hK
  exact pg_tup hc h hn hst
theorem rd_forE (q : ta σ H fun vs H1 => ∃ a xs, vs = [.ref a] ∧ SqL K H1 a xs ∧ ForW (Ite K a) g tb D σ H1) : tFor (iEnum K ta) g tb D σ H := q
theorem rd_lcE (q : ta σ H fun us H1 => ∃ a xs, us = [.ref a] ∧ SqL K H1 a xs ∧ LcW (Ite K a) g tt te vs σ H1 Q) : tLc (iEnum K ta) g tt te vs σ H Q := q
theorem rd_enA {a : Addr} {xs : List V} {R : Addr → Prop} (h : SqL K H a xs) (q : R a) : ∃ b ys, [V.ref a] = [.ref b] ∧ SqL K H b ys ∧ R b := ⟨a, xs, rfl, h, q⟩
theorem forW_E {a : Addr} (xs : List V) (Pv : Nat → L2.St → Hp → Prop) (h0 : Pv 0 σ H) (hl : ∀ i σ H, i ≤ xs.length → Pv i σ H → SqL K H a xs)
    (hs : ∀ i x T σ H H', xs[i]? = some x → Pv i σ H → H T = none → Ex H H' → H' T = some (.tup [.int (i : Nat), x]) → g (.ref T) σ H' fun σ2 H2 => tb { D with nx := Pv (i + 1), ct := Pv (i + 1), bk := D.nx } σ2 H2) (hd : ∀ σ H, Pv xs.length σ H → D.nx σ H) : ForW (Ite K a) g tb D σ H :=
  forW_it walk_enum Pv h0 hl (fun i x σ H H' hi hp y => by
    obtain ⟨T, x, z, rfl, hT, rfl, h4, h5⟩ := y
    cases h4
    exact hs i z T σ H _ h5 hp hT (Evl.Ex.new hT) upd_same) hd
theorem lcW_it {n : Nat} {G : Hp → Prop} {Y : Nat → Hp → V → Hp → Prop} (w : Walk J n G Y) (Pv : Addr → Nat → Hp → Prop) (h0 : ∀ D H', H D = none → Ex H H' → H' D = some (.lst []) → Pv D 0 H') (hG : ∀ D i H', H D = none → i ≤ n → Pv D i H' → G H')
    (hs : ∀ D i x H1 H', H D = none → i < n → Pv D i H1 → Y i H1 x H' → g x (wipe σ vs) H' fun σ2 H2 => wipe σ2 vs = wipe σ vs ∧ tt σ2 H2 fun b H3 =>
      if b = true then te σ2 H3 fun y H4 => ∃ acc, H4 D = some (.lst acc) ∧ acc.length < sizeLine ∧ Pv D (i + 1) (upd H4 D (.lst (acc ++ [y]))) else Pv D (i + 1) H3)
    (hd : ∀ D H', H D = none → Pv D n H' → Q (.ref D) H') : LcW J g tt te vs σ H Q := by
  intro D hD
  refine ⟨fun i m H => m = n - i ∧ i ≤ n ∧ Pv D i H, ⟨n, by simp, Nat.zero_le _, h0 D _ hD (Evl.Ex.new hD) upd_same⟩, ?_⟩
  rintro i m H1 ⟨rfl, hi, p⟩
  have q := hG D i H1 hD hi p
  by_cases hlt : i < n
  · refine .inr ⟨w.goes i H1 hlt q, Pv D (i + 1), fun H' p' => ⟨n - (i + 1), by omega, rfl, hlt, p'⟩, fun x H' y => ?_⟩
    exact hs D i x H1 H' hD hlt p (w.yields i H1 x H' hlt q y)
  · have e : i = n := by omega
    subst e
    exact .inl ⟨w.stops H1 q, hd D H1 hD p⟩
theorem lcW_E {a : Addr} (xs : List V) (Pv : Addr → Nat → Hp → Prop) (h0 : ∀ D H', H D = none → Ex H H' → H' D = some (.lst []) → Pv D 0 H') (hl : ∀ D i H', H D = none → i ≤ xs.length → Pv D i H' → SqL K H' a xs)
    (hs : ∀ D i x T H1 H', H D = none → xs[i]? = some x → Pv D i H1 → H1 T = none → Ex H1 H' → H' T = some (.tup [.int (i : Nat), x]) → g (.ref T) (wipe σ vs) H' fun σ2 H2 => wipe σ2 vs = wipe σ vs ∧ tt σ2 H2 fun b H3 =>
      if b = true then te σ2 H3 fun y H4 => ∃ acc, H4 D = some (.lst acc) ∧ acc.length < sizeLine ∧ Pv D (i + 1) (upd H4 D (.lst (acc ++ [y]))) else Pv D (i + 1) H3)
    (hd : ∀ D H', H D = none → Pv D xs.length H' → Q (.ref D) H') : LcW (Ite K a) g tt te vs σ H Q :=
  lcW_it walk_enum Pv h0 hl (fun D i x H1 H' hD hi hp y => by
    obtain ⟨T, x, z, rfl, hT, rfl, h4, h5⟩ := y
    cases h4
    exact hs D i z T H1 _ hD h5 hp hT (Evl.Ex.new hT) upd_same) hd
theorem rd_remI {l : Addr} {ns : List Int} {k : Int} {j : Nat} (h : H l = some (.lst (ns.map V.int))) (e : ns[j]? = some k) (no : ∀ m, m < j → ns[m]? ≠ some k) (q : Q .non (upd H l (.lst ((ns.eraseIdx j).map V.int)))) : rRemI (.ref l) [.int k] H Q := ⟨l, ns, k, j, rfl, rfl, h, e, no, q⟩
end
end Qa
/-! enumerate over a tuple -/
namespace Qt
open PySem PySem.Spec PyProof.Rows L2 Qa
abbrev itO (t : Addr) : Obj := { cls := .type "tuple_iterator", data := .fields #[.ref t, .int 0 0] }
abbrev enO (i : Addr) : Obj := { cls := .type "enumerate", data := .fields #[.none, .bool false, .ref i, rawInt 0, .none, .none] }
theorem new_enum {t : Addr} {its : Array Value} :
    Meets (Builtin.«enumerate.__new__» ⟨[.type "enumerate", .ref t], []⟩) (fun _ R s => s.heap.IsTuple t its ∧ R (.ok (.ret (.ref (s.heap.push (itO t)).objs.size))) { s with heap := (s.heap.push (itO t)).push (enO s.heap.objs.size) }) :=
  .of_wp fun prog w A R s h => by
    obtain ⟨hp, g, d, tk, os⟩ := s
    obtain ⟨ht, h⟩ := h
    have sub := sub_enumerate
    wp_walk using wpAny_pyIter_tuple ht
    refine wpAny_stack_any fun st => wpAny_pure ?_
    split
    · rename_i c _ _ _ _ _
      cases (c == Value.type "enumerate") <;> (wp_walk using wpAny_pyIter_tuple ht; exact ⟨_, rfl, h⟩)
    · wp_walk using wpAny_pyIter_tuple ht
      exact ⟨_, rfl, h⟩
theorem call_enum {prog : Program} {w : World} {A : Around} {E : Value → Shared → Prop} {s : Shared} {t : Addr} {its : Array Value} {Q : Value → Shared → Prop} (ht : s.heap.IsTuple t its)
    (h : ∀ h', IsEnum h' (s.heap.objs.size + 1) s.heap.objs.size 0 .none → h'.IsTupleIter s.heap.objs.size t 0 → (∀ b o, s.heap.get? b = some o → h'.get? b = some o) → Q (.ref (s.heap.objs.size + 1)) { s with heap := h' }) :
    wpAny (model prog w) A (call (.type "enumerate") [.ref t]) Q E s := by
  refine callType_new F.called_enumerate (by decide) (F.typeCall_enumerate_1 _) (F.newCall_enumerate_1 _) (fun obj => F.args_object_init_2 obj _) F.entry_enumerate_new new_enum ⟨ht, ?_⟩
  have z : (s.heap.push (itO t)).objs.size = s.heap.objs.size + 1 := Heap.size_push ..
  have e : ((s.heap.push (itO t)).push (enO s.heap.objs.size)).get? (s.heap.objs.size + 1) = some (enO s.heap.objs.size) := by
    rw [← z]
    exact Heap.get?_push_size _ rfl
  show _ ∧ _
  rw [z]
  exact ⟨⟨_, e, rfl⟩, h _ e ⟨_, Heap.get?_push_of_some _ (Heap.get?_push_size _ rfl), rfl, rfl⟩ fun b o x => Heap.get?_push_of_some _ (Heap.get?_push_of_some _ x)⟩
/-- the tuple at a, each item in a new pair behind its place -/
def Itu (K : PySem.W.Frag) (a : Addr) : It :=
  ⟨fun i H => ∃ (xs : List V) (x : V), SqT K H a xs ∧ xs[i]? = some x, fun i H v H' => ∃ T x, v = .ref T ∧ H T = none ∧ H' = upd H T (.tup [.int (i : Nat), x]) ∧ ∀ xs, SqT K H a xs → xs[i]? = some x, fun i H => ∃ xs : List V, SqT K H a xs ∧ xs.length = i⟩
theorem tuple_inj {X : Cx} {pins : List (Addr × Obj)} {σ : L2.St} {H : Hp} {s : Shared} {a : Addr} {xs ys : List V} (I : Inv X pins σ H s) (h : SqT X.K H a xs) (h' : SqT X.K H a ys) : xs = ys := by
  obtain ⟨u1, r1, ⟨o1, e1, _, n1, d1⟩, _⟩ := I.tuple h
  obtain ⟨u2, r2, ⟨o2, e2, _, n2, d2⟩, _⟩ := I.tuple h'
  rw [e1] at e2
  cases e2
  rw [d1] at d2
  have e : u1 = u2 := by injection d2 with q1 q2; simpa using q1
  subst e
  exact Vals.inj r1 r2
theorem turn_enumT {P : Program} {w : World} {K : PySem.W.Frag} {elts : List Expr} {kk : Nat} {tpos : Pos} (a e it : Addr) (ha : a ≠ it) (hae : a ≠ e) :
    Turn P w K (.Tuple elts kk tpos) (Itu K a) [e, it] e (fun i h => (∃ old, IsEnum h e it ((i : Nat) : Int) old) ∧ h.IsTupleIter it a i ∧ e ≠ it) where
  mem := by simp
  obj := fun i h st b hb => by
    obtain ⟨⟨old, he⟩, ⟨o, ho, hc, hd⟩, _⟩ := st
    have hb' : b = e ∨ b = it := by simpa using hb
    rcases hb' with rfl | rfl
    · exact ⟨_, he, fun v q => nomatch q⟩
    · exact ⟨o, ho, fun v q => by rw [hd] at q; cases q⟩
  keep := fun i h h' st k => let ⟨⟨old, he⟩, ⟨o, ho, r⟩, hne⟩ := st; ⟨⟨old, k e (by simp) _ he⟩, ⟨o, k it (by simp) _ ho, r⟩, hne⟩
  item := by
    intro X hP hw hK hc i pins s σ H E I hf st hg
    subst hP hw hK
    obtain ⟨⟨old, he⟩, hit, hne⟩ := st
    obtain ⟨xs, x, hq, hx⟩ := hg
    obtain ⟨its, rv, p, hz⟩ := I.tuple hq
    obtain ⟨u, hu, ru⟩ := rv.get hx
    have hel : e < s.heap.objs.size := Heap.lt_size he
    have hil : it < s.heap.objs.size := by obtain ⟨_, q, _⟩ := hit; exact Heap.lt_size q
    have hl : i < its.toArray.size := by simpa using (List.getElem?_eq_some_iff.mp hu).1
    refine wpAny_pyNext_enum_itemD (Draws.tuple (A := X.A.in1) (I.ok.hd hc) it a ha its.toArray) he ⟨hit, p⟩ hl hne (by simpa using ⟨hne, Ne.symm hae⟩) fun y h' tk hy ho st' hT hsz hk => ?_
    have ey : y = u := by
      have : its[i]? = some y := by simpa using hy
      rw [hu] at this
      exact (Option.some.inj this).symm
    subst ey
    refine ⟨_, rfl, wpAny_letOwnedTupleGo_enum (s := { s with heap := h', toks := tk + 1 }) ho fun h2 he2 sb => ?_⟩
    have hT2 : h2.get? s.heap.objs.size = some { cls := .type "tuple", data := .seq #[.int i tk, y] } := (sb.2 _ (Nat.ne_of_gt hel)).trans hT
    have new : ObjOk X.prog X.w (upd H s.heap.objs.size (.tup [.int (i : Nat), x])) h2 s.heap.objs.size (.tup [.int (i : Nat), x]) := ⟨by show 2 ≤ sizeLine; decide, [.int i tk, y], .cons ⟨_, rfl⟩ (.cons ru .nil), ⟨_, hT2, rfl, _, rfl⟩⟩
    have I1 : Inv X pins σ (upd H s.heap.objs.size (.tup [.int (i : Nat), x])) { s with heap := h2, toks := tk + 1 } :=
      I.turnedNew (ch := [e, it]) (fun b ob hb q => (sb.2 b (fun z => hb (by simp [z]))).trans (hk b ob (fun z => hb (by simp [z])) (fun z => hb (by simp [z])) q)) hf (Nat.le_refl _) new
    refine ⟨.ref s.heap.objs.size, _, I1, rfl, ⟨_, x, rfl, I.hok.fresh (Nat.le_refl _), rfl, fun ys hy => by rw [tuple_inj I hy hq]; exact hx⟩, ⟨⟨y, ?_⟩, ?_, hne⟩, fun b hb => ?_⟩
    · have e1 : ((i + 1 : Nat) : Int) = (i : Int) + 1 := by omega
      rw [e1]
      exact he2
    · obtain ⟨o, z, r⟩ := st'.1
      exact ⟨o, (sb.2 it (Ne.symm hne)).trans z, r⟩
    · have hb' : b = e ∨ b = it := by simpa using hb
      have hlt : b < s.heap.objs.size := by rcases hb' with rfl | rfl <;> assumption
      rw [upd_ne (Nat.ne_of_lt hlt)]
      exact (hf b hb).1
  done := by
    intro X hP hw hK hc i pins s σ H E I hf st hg
    subst hP hw hK
    obtain ⟨⟨old, he⟩, hit, hne⟩ := st
    obtain ⟨xs, hq, hx⟩ := hg
    obtain ⟨its, rv, p, hz⟩ := I.tuple hq
    obtain ⟨f0, f1, f2, f3, f4, f5⟩ := hf it (by simp)
    have hl : its.toArray.size = i := by have := rv.length; simp; omega
    subst hl
    exact wpAny_pyNext_enum_endD (Draws.tuple (A := X.A.in1) (I.ok.hd hc) it a ha its.toArray) he ⟨hit, p⟩ fun h' eb => ⟨rfl, I.turned (t' := s.toks) (fun b o hb q => eb b o hb q) f0 f1 f3 f4 f5⟩
  self := fun A i s Q E st h => let ⟨⟨_, he⟩, _⟩ := st; wpAny_pyIter_enum he h
def iEnumT (K : PySem.W.Frag) (ta : TA) : TI := fun σ H R => ta σ H fun vs H1 => ∃ a xs, vs = [.ref a] ∧ SqT K H1 a xs ∧ R (Itu K a) H1
theorem pi_enumT {X : Cx} {K : PySem.W.Frag} {e : Expr} {ta : TA} {p pos tpos : Pos} {elts : List Expr} {kk : Nat} (hK : X.K = K) (hg : Gl X "enumerate") (hm : X.mg "enumerate" = none) (ha : PA X [e] ta) (hs : starEach [e] X.env = [(false, eval e X.env)] := by rfl) :
    PI X (.Tuple elts kk tpos) (.Call (.Name "enumerate" p) [e] [] pos) (iEnumT K ta) := by
  subst hK
  refine ⟨fun pins s σ H R I h => ?_⟩
  refine Call_ (ld_blt I hg hm boot_enumerate (PyProof.Rows.callWith_type1 (thn (ha.run pos pins s σ H _ I h) fun us s1 hv => ?_) hs rfl))
  obtain ⟨vs, H1, I1, r1, a, xs, rfl, hq, q⟩ := hv
  cases r1 with
  | cons r rr =>
    cases rr
    cases r
    obtain ⟨its, rv, ht, hz⟩ := I1.tuple hq
    have hlt : a < s1.heap.objs.size := by obtain ⟨_, z, _⟩ := ht; exact Heap.lt_size z
    refine call_enum ht fun h' he hit hk => wpAny_pyIter_enum he ?_
    have I2 : Inv X pins σ H1 { s1 with heap := h' } := I1.kept (t' := s1.toks) hk
    refine ⟨s1.heap.objs.size + 1, [s1.heap.objs.size + 1, s1.heap.objs.size], _, _, H1, rfl, I2, turn_enumT a (s1.heap.objs.size + 1) s1.heap.objs.size (Nat.ne_of_lt hlt) (Nat.ne_of_lt (Nat.lt_succ_of_lt hlt)), ⟨⟨.none, he⟩, hit, Nat.succ_ne_self _⟩, fun b hb => ?_, q⟩
    have hb' : b = s1.heap.objs.size + 1 ∨ b = s1.heap.objs.size := by simpa using hb
    have hle : s1.heap.objs.size ≤ b := by
      rcases hb' with z | z <;> rw [z]
      · exact Nat.le_succ _
      · exact Nat.le_refl _
    exact I1.fpOk hle (I1.hok.fresh hle)
section
variable {K : PySem.W.Frag} {σ : L2.St} {H : Hp} {Q : VK} {g : TG} {tb : TS} {D : Ends} {tt : TT} {te tl : TE} {ta : TA} {vs : List Nat} {a : Addr} {xs : List V}
theorem walk_enumT : Walk (Itu K a) xs.length (fun H => SqT K H a xs) (YPair (fun i => some (.int (i : Nat))) (fun i => xs[i]?)) :=
  ⟨fun i _ hi q => ⟨xs, xs[i], q, by simp [hi]⟩, fun _ q => ⟨xs, q, rfl⟩, fun i H v H' _ q y => by
    obtain ⟨T, x, h1, h2, h3, h4⟩ := y
    exact ⟨T, .int (i : Nat), x, h1, h2, h3, rfl, h4 xs q⟩⟩
theorem rd_lcET (q : ta σ H fun us H1 => ∃ a xs, us = [.ref a] ∧ SqT K H1 a xs ∧ LcW (Itu K a) g tt te vs σ H1 Q) : tLc (iEnumT K ta) g tt te vs σ H Q := q
theorem rd_enT {a : Addr} {xs : List V} {R : Addr → Prop} (h : SqT K H a xs) (q : R a) : ∃ b ys, [V.ref a] = [.ref b] ∧ SqT K H b ys ∧ R b := ⟨a, xs, rfl, h, q⟩
theorem lcW_ET (xs : List V) (Pv : Addr → Nat → Hp → Prop) (h0 : ∀ D H', H D = none → Ex H H' → H' D = some (.lst []) → Pv D 0 H') (hl : ∀ D i H', H D = none → i ≤ xs.length → Pv D i H' → SqT K H' a xs)
    (hs : ∀ D i x T H1 H', H D = none → xs[i]? = some x → Pv D i H1 → H1 T = none → Ex H1 H' → H' T = some (.tup [.int (i : Nat), x]) → g (.ref T) (wipe σ vs) H' fun σ2 H2 => wipe σ2 vs = wipe σ vs ∧ tt σ2 H2 fun b H3 =>
      if b = true then te σ2 H3 fun y H4 => ∃ acc, H4 D = some (.lst acc) ∧ acc.length < sizeLine ∧ Pv D (i + 1) (upd H4 D (.lst (acc ++ [y]))) else Pv D (i + 1) H3)
    (hd : ∀ D H', H D = none → Pv D xs.length H' → Q (.ref D) H') : LcW (Itu K a) g tt te vs σ H Q :=
  lcW_it walk_enumT Pv h0 hl (fun D i x H1 H' hD hi hp y => by
    obtain ⟨T, u, z, rfl, hT, rfl, h4, h5⟩ := y
    cases h4
    exact hs D i z T H1 _ hD h5 hp hT (Evl.Ex.new hT) upd_same) hd
end
end Qt
/-! what a def leaves that makes code objects: all but the tables; a def whose code object is known -/
namespace Qg
open PySem PySem.Spec PyProof.Rows L2 Qa
structure ExT (H H' : Hp) : Prop where
  keep : ∀ b o, H b = some o → (∀ ps, o ≠ .tbl ps) → H' b = some o
  tab : ∀ P, GxR.TabG H P → GxR.TabG H' P
  free : ∀ b, H' b = none → H b = none
theorem ExT.refl (H : Hp) : ExT H H := ⟨fun _ _ e _ => e, fun _ t => t, fun _ e => e⟩
theorem ExT.trans {H H1 H2 : Hp} (a : ExT H H1) (b : ExT H1 H2) : ExT H H2 := ⟨fun x o e n => b.keep x o (a.keep x o e n) n, fun P t => b.tab P (a.tab P t), fun x e => a.free x (b.free x e)⟩
theorem tabG_ex {H H' : Hp} {P : Addr} (t : GxR.TabG H P) (e : Ex H H') : GxR.TabG H' P := by
  obtain ⟨ps, h, r⟩ := t
  exact ⟨ps, e _ _ h, r⟩
theorem ExT.of {H H' : Hp} (e : Ex H H') : ExT H H' := ⟨fun b o h _ => e b o h, fun P t => tabG_ex t e, fun b h => by
  cases q : H b with
  | none => rfl
  | some u => rw [e _ _ q] at h; cases h⟩
theorem ExT.tabbed {H H' : Hp} {P : Addr} (T : GxR.TabG H P) (t : GxR.Tabbed P H H') : ExT H H' := by
  obtain ⟨ps, hP, _⟩ := T
  refine ⟨fun b o h n => ?_, fun Q q => ?_, fun b h => ?_⟩
  · rw [t.2 b (fun z => n ps (by rw [z, hP] at h; exact (Option.some.inj h).symm))]
    exact h
  · by_cases z : Q = P
    · rw [z]
      exact t.1
    · obtain ⟨qs, h, r⟩ := q
      exact ⟨qs, by rw [t.2 Q z]; exact h, r⟩
  · by_cases z : b = P
    · obtain ⟨qs, h2, _⟩ := t.1
      rw [z, h2] at h
      cases h
    · rw [← t.2 b z]
      exact h
theorem ExT.tame {H H' : Hp} (e : ExT H H') : Tame H H' := by
  refine ⟨fun a xs h => ?_, fun a xs h => ⟨xs, ?_⟩⟩ <;> rcases h with h | ⟨o, h⟩
  · exact .inl (e.keep _ _ h (by intro ps z; cases z))
  · exact .inr ⟨o, e.keep _ _ h (by intro ps z; cases z)⟩
  · exact .inl (e.keep _ _ h (by intro ps z; cases z))
  · exact .inr ⟨o, e.keep _ _ h (by intro ps z; cases z)⟩
section
variable {K : PySem.W.Frag} {H H' : Hp} {b f : Addr} {v : V} {t : T} {vs xs : List V} {ts : List T} {o : HO}
theorem tv_t (h : Tv K H v t) (e : ExT H H') : Tv K H' v t := e.tame.tv h
theorem tva_t (h : TvA K H vs ts) (e : ExT H H') : TvA K H' vs ts := e.tame.tvA h
theorem sqt_t (h : SqT K H b xs) (e : ExT H H') : SqT K H' b xs := e.tame.sqT h
theorem lst_t (h : H b = some (.lst xs)) (e : ExT H H') : H' b = some (.lst xs) := e.keep _ _ h (by intro ps z; cases z)
theorem tup_t (h : H b = some (.tup xs)) (e : ExT H H') : H' b = some (.tup xs) := e.keep _ _ h (by intro ps z; cases z)
theorem sql_t (h : SqL K H b xs) (e : ExT H H') : SqL K H' b xs := by
  rcases h with (h | ⟨o, h⟩) | h
  · exact .inl (.inl (lst_t h e))
  · exact .inl (.inr ⟨o, e.keep _ _ h (by intro ps z; cases z)⟩)
  · exact .inr h
theorem ext_new (hn : H f = none) (e : ExT H H') : ExT H (upd H' f o) := by
  refine ⟨fun b u h n => ?_, fun P t => ?_, fun b h => ?_⟩
  · rw [upd_ne (by rintro rfl; rw [hn] at h; cases h)]
    exact e.keep b u h n
  · obtain ⟨ps, h, r⟩ := id t
    obtain ⟨qs, h2, r2⟩ := e.tab P t
    exact ⟨qs, by rw [upd_ne (by rintro rfl; rw [hn] at h; cases h)]; exact h2, r2⟩
  · by_cases z : b = f
    · rw [z]; exact hn
    · rw [upd_ne z] at h
      exact e.free b h
end
/-- the def's code object is the one at c -/
def CodeIs (K : PySem.W.Frag) (mg : Str → Option Value) (x : Str) (c : Addr) : Prop :=
  ∀ (f : Addr) (oc : Value) (od : Option Addr) (fd : FuncData) (osl : Array (Option Value)), mg x = some (.ref f) → K.lookup f = some ⟨oc, od, .func fd, osl⟩ → fd.code = .ref c
section
variable {P : Program} {w : World} {K : PySem.W.Frag} {mg : Str → Option Value} {base : Heap} {x : Str} {st : Stmt} {N ps : List Str} {k : Nat} {c : Addr}
theorem cal_mkC {sp : Sp} (F : FunAt K mg x st) (C : CodeIs K mg x c) (S : FnScope N ps (defScope st)) (hb : BindOk x st ps) (len : ∀ vs H Q E, sp vs H Q E → vs.length = ps.length)
    (hbody : ∀ (f : Addr) (A : Around) (outer : List Env) (s : Shared) (H : Hp) (vs : List V) (Q : VK) (E : XK), Room k (A.deeper (envOfC x (defScope st) s.heap.objs.size f (.ref c))) → sp vs H Q E →
      ∃ t, PSs (cxOf CX0 P w K mg base N x (defScope st) f (.ref c) A outer s H E).nox (defBody st) t ∧ t { nx := fun _ H' => Q .non H', rt := Q } (start N vs) H) : Cal P w K mg base x (k + 1) ps sp := by
  obtain ⟨f, fd, F, hm⟩ := F
  have hbs := F.binds hb
  have hkp := F.kp
  obtain ⟨oc, od, kV, doc, pm, an, cdv, ct, osl, rfl, lk, hcd⟩ := F.ex
  have e : cdv = .ref c := C f oc od _ osl hm lk
  subst e
  refine ⟨f, _, fn_of lk hcd S len fun A outer s H vs Q E hr hsp => ?_, hm, hkp, hbs, oc, od, osl, lk⟩
  obtain ⟨t, h, q⟩ := hbody f A outer s H vs Q E hr hsp
  exact ⟨t, h.nox, q⟩
theorem cal3C {f : V → V → V → Hp → VK → Prop} (F : FunAt K mg x st) (C : CodeIs K mg x c) (S : FnScope N ps (defScope st)) (hb : BindOk x st ps) (hn : ps.length = 3)
    (hbody : ∀ (g : Addr) (A : Around) (outer : List Env) (s : Shared) (H : Hp) (a b d : V) (Q : VK) (E : XK), Room k (A.deeper (envOfC x (defScope st) s.heap.objs.size g (.ref c))) → f a b d H Q →
      ∃ t, PSs (cxOf CX0 P w K mg base N x (defScope st) g (.ref c) A outer s H E).nox (defBody st) t ∧ t { nx := fun _ H' => Q .non H', rt := Q } (start N [a, b, d]) H) : Cal P w K mg base x (k + 1) ps (sp3 f) :=
  cal_mkC F C S hb (fun vs H Q E h => by obtain ⟨a, b, d, rfl, _⟩ := h; exact hn.symm) fun g A outer s H vs Q E hr h => by obtain ⟨a, b, d, rfl, h⟩ := h; exact hbody g A outer s H a b d Q E hr h
end
end Qg
/-! the end of a law whose defs hold generator expressions: their tables are empty at the head -/
namespace KF
open PySem PySem.Spec PyProof.Rows L2
/-- a def's code object and its table, and where they stand -/
def tabAtB (K : PySem.W.Frag) (x : Str) (c P : Addr) : Bool := match PySem.W.nsIn K mainGlobals x with
  | some (some (.ref f)) => (match K.lookup f with
    | some ⟨_, _, .func fd, _⟩ => (match fd.code with
      | .ref a => a == c
      | _ => false)
    | _ => false) && PySem.W.codeHdIn K c P && (K.lookup P).isNone
  | _ => false
theorem tabAt_ok {K : PySem.W.Frag} {mg : Str → Option Value} {h : Heap} {x : Str} {c P : Addr} (KX : K.In h) (G : h.Ns mainGlobals mg) (b : tabAtB K x c P = true) : Qg.CodeIs K mg x c ∧ PySem.W.CodeHd h c P ∧ K.lookup P = none := by
  unfold tabAtB at b
  split at b
  · rename_i f e
    have hm := PySem.W.mg_of KX G e
    simp only [Bool.and_eq_true] at b
    obtain ⟨⟨b1, b2⟩, b3⟩ := b
    refine ⟨fun f' oc od fd osl h1 h2 => ?_, PySem.W.codeHd_of_K KX b2, Option.isNone_iff_eq_none.mp b3⟩
    rw [hm] at h1
    cases h1
    rw [h2] at b1
    cases q : fd.code with
    | ref a => simp only [q] at b1; rw [beq_iff_eq.mp b1]
    | _ => simp [q] at b1
  · cases b
/-- the table of the def x, told by the head: nothing in it yet -/
def Void (K : PySem.W.Frag) (mg : Str → Option Value) (h : Heap) (x : Str) : Prop := ∀ (f c P : Addr) (oc od : Value) (a1 a2 : Option Addr) (fd : FuncData) (vs : Array Value) (s1 s2 : Array (Option Value)), mg x = some (.ref f) → K.lookup f = some ⟨oc, a1, .func fd, s1⟩ → fd.code = .ref c →
  K.lookup c = some ⟨od, a2, .fields vs, s2⟩ → vs[11]? = some (.ref P) → h.get? P = some { cls := .none, data := .fields #[] }
theorem walk_tabs {l : PySem.W.OpenLaw} {n k : Nat} {q : Program} {loose : List Str} {XP : (Str → Option Value) → Heap → Prop} {YP : World → Heap → Prop} {d : DefRec} {K : Params → PySem.W.Frag} {CX : World → CXT} {x : Str} (xs : List Str)
    (hn : l.most = some n) (hn2 : n ≤ sizeLine) (hdf : d.params.defaults = []) (hr : Room k callerA) (hxs : (xs.all fun y => (recsOf q).any fun e => e.name == y) = true) (hY : ∀ (w : World) (h : Heap), YP w h → (K w.params).In h)
    (F : ∀ (w : World) (mg : Str → Option Value) (fa : Addr) (h : Heap), (K w.params).In h → h.Ns mainGlobals mg → mg d.name = some (.ref fa) → (∀ y ∈ xs, Void (K w.params) mg h y) → LamX.LawAtS l w (K w.params) (CX w) k n x mg fa h)
    (hCX : ∀ (w : World) (H : Hp) (s : Shared) (e : Value) (s' : Shared), CX w [] H s (fun _ _ _ => False) e s' → False) : PySem.W.WalkO q loose XP YP l.row.toRowW d [] (fun f vs => PySem.call f vs) := by
  refine Att.attach_callB hn hdf fun w s0 s1 mg mb fa o pm cd doc a vs ns G Y ho hd hcd hmg hobj hints hlen hbits hg => ?_
  have KX := hY w _ Y
  have void : ∀ y ∈ xs, Void (K w.params) mg s1.heap y := fun y hy f c P oc od a1 a2 fd vs' t1 t2 k1 k2 k3 k4 k5 => by
    have hr0 : ((recsOf q).any fun e => e.name == y) = true := List.all_eq_true.mp hxs y hy
    obtain ⟨r, hm, hr1⟩ := List.any_eq_true.mp hr0
    have hr2 : r.name = y := beq_iff_eq.mp hr1
    obtain ⟨f', o', fd', c', P', g1, g2, g3, g4, g5, g6⟩ := G.T.tab r hm
    rw [hr2, k1] at g1
    cases g1
    rw [KX _ _ k2] at g2
    cases g2
    cases g3
    rw [k3] at g4
    cases g4
    obtain ⟨⟨ob, vc, e1, _, e3, e4⟩, hP⟩ := g6
    rw [KX _ _ k4] at e1
    cases e1
    cases e3
    rw [k5] at e4
    cases e4
    exact hP
  obtain ⟨fd, cs, sp, hT, nT, C, hb, hsp, hF⟩ := F w mg fa _ KX G.T.g hmg void
  exact LamX.law_callTs KX G.T.g G.T.b G.T.builtins G.T.nolimit hg hT nT C G.T.bmain hobj hints (Nat.le_trans hlen hn2) hr hF hb (fun H hH hS => hsp H a ns hlen hbits hH hS) fun H e s' => hCX w H s1 e s'
theorem hd_at {K : PySem.W.Frag} {c P : Addr} (h : PySem.W.codeHdIn K c P = true) : ∃ (e : Value) (dd : Option Addr) (vs : Array Value) (sl : Array (Option Value)), K.lookup c = some ⟨e, dd, .fields vs, sl⟩ ∧ vs[11]? = some (.ref P) := by
  unfold PySem.W.codeHdIn at h
  split at h
  · rename_i dd vs sl hk
    simp only [Bool.and_eq_true] at h
    obtain ⟨⟨⟨⟨⟨h1, _⟩, _⟩, _⟩, _⟩, _⟩ := h
    split at h1
    · rename_i P' hv
      obtain rfl : P' = P := beq_iff_eq.mp h1
      exact ⟨_, dd, vs, sl, hk, hv⟩
    · cases h1
  · cases h
theorem void_at {K : PySem.W.Frag} {mg : Str → Option Value} {h : Heap} {x : Str} {c P : Addr} (KX : K.In h) (G : h.Ns mainGlobals mg) (b : tabAtB K x c P = true) (v : Void K mg h x) : h.get? P = some { cls := .none, data := .fields #[] } := by
  unfold tabAtB at b
  split at b
  · rename_i f e
    have hm := PySem.W.mg_of KX G e
    simp only [Bool.and_eq_true] at b
    obtain ⟨⟨b1, b2⟩, b3⟩ := b
    obtain ⟨e1, dd, vs, sl, hk, hv⟩ := hd_at b2
    split at b1
    · rename_i oc od fd osl hf
      split at b1
      · rename_i a hc
        rw [beq_iff_eq.mp b1] at hc
        exact v f c P oc e1 od dd fd vs osl sl hm hf hc hk hv
      · cases b1
    · cases b1
  · cases b
end KF
namespace Hq
open PySem PySem.Spec PyProof.Rows L2
theorem plain_sift : plainId "_heapq.heapify.sift" = true := by decide +kernel
theorem entry_sift : entryFor table "_heapq.heapify.sift" = some Builtin.«_heapq.heapify.sift» := entryFor_of_fast (by kernel_rfl)
theorem plain_push : plainId "_heapq.heappush" = true := by decide +kernel
theorem entry_push : entryFor table "_heapq.heappush" = some Builtin.«_heapq.heappush» := entryFor_of_fast (by kernel_rfl)
theorem plain_pop : plainId "_heapq.heappop" = true := by decide +kernel
theorem entry_pop : entryFor table "_heapq.heappop" = some Builtin.«_heapq.heappop» := entryFor_of_fast (by kernel_rfl)
theorem kind_push : builtinKind "_heapq.heappush" = none := by decide +kernel
theorem kind_pop : builtinKind "_heapq.heappop" = none := by decide +kernel
theorem args_push (a b : Value) : argsOk "_heapq.heappush" ⟨[a, b], []⟩ := by rfl
theorem args_pop (a : Value) : argsOk "_heapq.heappop" ⟨[a], []⟩ := by rfl
abbrev LstO (its : Array Value) (n : Nat) : Obj := { cls := .type "list", dict := none, data := .seq its n, slots := #[] }
def av (xs : Array Value) (i : Nat) : Int := match xs[i]? with | some (.int k _) => k | _ => 0
def Ints (xs : Array Value) : Prop := ∀ i, i < xs.size → ∃ k t, xs[i]? = some (.int k t)
theorem Ints.at {xs : Array Value} (h : Ints xs) {i : Nat} (hi : i < xs.size) : ∃ t, xs[i]? = some (.int (av xs i) t) := by
  obtain ⟨k, t, e⟩ := h i hi
  exact ⟨t, by unfold av; rw [e]⟩
def sw (xs : Array Value) (i j : Nat) (x y : Value) : Array Value := (xs.setIfInBounds i y).setIfInBounds j x
section
variable {xs : Array Value} {i j : Nat} {x y : Value}
theorem sw_size : (sw xs i j x y).size = xs.size := by simp [sw]
theorem sw_get (hi : xs[i]? = some x) (hj : xs[j]? = some y) (k : Nat) : (sw xs i j x y)[k]? = if k = j then some x else if k = i then some y else xs[k]? := by
  have li := (Array.getElem?_eq_some_iff.mp hi).1
  have lj := (Array.getElem?_eq_some_iff.mp hj).1
  unfold sw
  rw [Array.getElem?_setIfInBounds, Array.getElem?_setIfInBounds]
  simp only [Array.size_setIfInBounds]
  by_cases h1 : j = k
  · subst h1
    simp [lj]
  · rw [if_neg h1, if_neg (Ne.symm h1)]
    by_cases h2 : i = k
    · subst h2
      simp [li]
    · rw [if_neg h2, if_neg (Ne.symm h2)]
theorem sw_ints (h : Ints xs) (hi : xs[i]? = some x) (hj : xs[j]? = some y) : Ints (sw xs i j x y) := by
  intro k hk
  rw [sw_size] at hk
  rw [sw_get hi hj]
  have li := (Array.getElem?_eq_some_iff.mp hi).1
  have lj := (Array.getElem?_eq_some_iff.mp hj).1
  split
  · obtain ⟨a, t, e⟩ := h i li
    exact ⟨a, t, by rw [← hi, e]⟩
  · split
    · obtain ⟨a, t, e⟩ := h j lj
      exact ⟨a, t, by rw [← hj, e]⟩
    · exact h k hk
theorem sw_av (hi : xs[i]? = some x) (hj : xs[j]? = some y) (k : Nat) : av (sw xs i j x y) k = if k = j then av xs i else if k = i then av xs j else av xs k := by
  have e := sw_get hi hj k
  by_cases h1 : k = j
  · rw [if_pos h1] at e ⊢
    unfold av
    rw [e, hi]
  · rw [if_neg h1] at e ⊢
    by_cases h2 : k = i
    · rw [if_pos h2] at e ⊢
      unfold av
      rw [e, hj]
    · rw [if_neg h2] at e ⊢
      unfold av
      rw [e]
theorem sw_perm (hi : xs[i]? = some x) (hj : xs[j]? = some y) : (sw xs i j x y).toList.Perm xs.toList := by
  obtain ⟨li, ei⟩ := Array.getElem?_eq_some_iff.mp hi
  obtain ⟨lj, ej⟩ := Array.getElem?_eq_some_iff.mp hj
  have e : sw xs i j x y = xs.swap i j li lj := by
    unfold sw
    rw [Array.swap_def, ← ei, ← ej]
    simp [Array.setIfInBounds, li, lj]
  rw [e]
  exact (Array.swap_perm li lj).toList
end
/-- in order at all places -/
def HP (xs : Array Value) : Prop := ∀ i, 0 < i → i < xs.size → av xs ((i - 1) / 2) ≤ av xs i
/-- but for one place, which may stand too low -/
structure UH (xs : Array Value) (p : Nat) : Prop where
  ot : ∀ i, 0 < i → i < xs.size → i ≠ p → av xs ((i - 1) / 2) ≤ av xs i
  gr : 0 < p → ∀ c, 0 < c → c < xs.size → (c - 1) / 2 = p → av xs ((p - 1) / 2) ≤ av xs c
/-- but for one place, which may stand anywhere -/
structure DH (xs : Array Value) (p : Nat) : Prop where
  ot : ∀ i, 0 < i → i < xs.size → i ≠ p → (i - 1) / 2 ≠ p → av xs ((i - 1) / 2) ≤ av xs i
  gr : 0 < p → ∀ c, 0 < c → c < xs.size → (c - 1) / 2 = p → av xs ((p - 1) / 2) ≤ av xs c
section
variable {xs : Array Value} {p : Nat}
theorem UH.done (h : UH xs p) (e : p = 0 ∨ ¬ av xs p < av xs ((p - 1) / 2)) : HP xs := by
  intro i h0 h1
  by_cases hi : i = p
  · subst hi
    rcases e with e | e
    · omega
    · omega
  · exact h.ot i h0 h1 hi
theorem UH.up {x y : Value} (h : UH xs p) (h0 : 0 < p) (hi : xs[(p - 1) / 2]? = some x) (hj : xs[p]? = some y) (lt : av xs p < av xs ((p - 1) / 2)) : UH (sw xs ((p - 1) / 2) p x y) ((p - 1) / 2) := by
  have lp := (Array.getElem?_eq_some_iff.mp hj).1
  refine ⟨fun i i0 i1 ni => ?_, fun q0 c c0 c1 ec => ?_⟩
  · rw [sw_size] at i1
    rw [sw_av hi hj, sw_av hi hj]
    by_cases e1 : i = p
    · subst e1
      rw [if_neg (by omega), if_pos rfl, if_pos rfl]
      omega
    · rw [if_neg e1, if_neg ni]
      by_cases e2 : (i - 1) / 2 = p
      · rw [if_pos e2]
        exact h.gr h0 i i0 i1 e2
      · rw [if_neg e2]
        by_cases e3 : (i - 1) / 2 = (p - 1) / 2
        · rw [if_pos e3]
          have := h.ot i i0 i1 e1
          rw [e3] at this
          omega
        · rw [if_neg e3]
          exact h.ot i i0 i1 e1
  · rw [sw_size] at c1
    rw [sw_av hi hj, sw_av hi hj]
    have hg := h.ot ((p - 1) / 2) q0 (by omega) (by omega)
    rw [if_neg (by omega), if_neg (by omega)]
    by_cases e1 : c = p
    · rw [if_pos e1]
      exact hg
    · rw [if_neg e1, if_neg (by omega)]
      have := h.ot c c0 c1 e1
      rw [ec] at this
      omega
theorem DH.leaf (h : DH xs p) (hp : xs.size ≤ 2 * p + 1) : UH xs p :=
  ⟨fun i i0 i1 ni => h.ot i i0 i1 ni (by omega), h.gr⟩
theorem DH.down {c : Nat} {x y : Value} (h : DH xs p) (c1 : c < xs.size) (ec : (c - 1) / 2 = p) (c0 : 0 < c) (hi : xs[c]? = some x) (hj : xs[p]? = some y) (le : ∀ i, 0 < i → i < xs.size → (i - 1) / 2 = p → av xs c ≤ av xs i) : DH (sw xs c p x y) c := by
  refine ⟨fun i i0 i1 ni nc => ?_, fun _ d d0 d1 ed => ?_⟩
  · rw [sw_size] at i1
    rw [sw_av hi hj, sw_av hi hj]
    by_cases e1 : i = p
    · subst e1
      rw [if_neg (by omega), if_neg nc, if_pos rfl]
      exact h.gr i0 c c0 c1 ec
    · rw [if_neg e1, if_neg ni]
      by_cases e2 : (i - 1) / 2 = p
      · rw [if_pos e2]
        exact le i i0 i1 e2
      · rw [if_neg e2, if_neg nc]
        exact h.ot i i0 i1 e1 e2
  · rw [sw_size] at d1
    rw [sw_av hi hj, sw_av hi hj]
    rw [if_pos ec, if_neg (by omega), if_neg (by omega)]
    have := h.ot d d0 d1 (by omega) (by omega)
    rw [ed] at this
    exact this
theorem HP.min (h : HP xs) : ∀ i, i < xs.size → av xs 0 ≤ av xs i := by
  intro i
  induction i using Nat.strongRecOn with
  | _ i ih =>
    intro hi
    by_cases e : i = 0
    · subst e
      exact Int.le_refl _
    · have h1 := ih ((i - 1) / 2) (by omega) (by omega)
      have h2 := h i (by omega) hi
      omega
end
theorem lt_i {prog : Program} {w : World} {A : Around} {E : Value → Shared → Prop} {s : Shared} {x y : Int} {t u : Tok} {Q : Value → Shared → Prop} (h : Q (.bool (decide (x < y))) s) : wpAny (model prog w) A (richCompare .Lt (.int x t) (.int y u)) Q E s :=
  (PyProof.Rows.lt_int h : wpAny (model prog w) A (compareOp .Lt (.int x t) (.int y u)) Q E s)
theorem rawInt_eq (i : Int) : ∃ t, rawInt i = .int i t := ⟨_, rfl⟩
def Ends (a : Addr) (its : Array Value) (result : Value) (R : Result → Shared → Prop) (s : Shared) : Prop :=
  ∀ (its' : Array Value) (h' : Heap) (n' : Nat), its'.toList.Perm its.toList → HP its' → Ints its' → Heap.SameBut a s.heap h' → h'.get? a = some (LstO its' n') → R (.ok (.ret result)) { s with heap := h' }
theorem sift_up (a : Addr) (result : Value) : ∀ (p : Nat) (its : Array Value) (n : Nat), its.size ≤ 200 → p < its.size → Ints its → UH its p →
    Meets (Builtin.«_heapq.heapify.sift» ⟨[.ref a, .bool false, .bool false, rawInt p, rawInt 0, result, rawInt (-1)], []⟩)
      (fun _ R s => s.heap.get? a = some (LstO its n) ∧ Ends a its result R s) := by
  intro p
  induction p using Nat.strongRecOn with
  | _ p ih =>
  intro its n hz hp hI hU prog w A R s h
  obtain ⟨hh, g, d, tk, os⟩ := s; obtain ⟨hl, h⟩ := h
  obtain ⟨t, hx⟩ := hI.at hp
  obtain ⟨t', hx'⟩ := hI.at (show (p - 1) / 2 < its.size by omega)
  by_cases e : p = 0
  · subst e
    wp_walk using wpAny_loadPart' hl
    exact h its hh n (.refl _) (hU.done (.inl rfl)) hI (.refl _ _) hl
  · wp_walk using wpAny_loadPart' hl
    rw [Int.toNat_natCast, if_pos (show p > Int.toNat 0 by show p > 0; omega)]
    wp_walk
    rw [hx]
    wp_walk
    rw [hx']
    wp_walk using lt_i, wpAny_loadPart' hl
    by_cases lt : av its p < av its ((p - 1) / 2)
    · rw [if_pos (decide_eq_true lt)]
      have hs1 : its.size ≤ sizeLine := by rw [sizeLine_eq]; omega
      have hs2 : (sw its ((p - 1) / 2) p (.int (av its ((p - 1) / 2)) t') (.int (av its p) t)).size ≤ sizeLine + 1 := by rw [sw_size]; omega
      wp_walk using wpAny_loadPart' hl
      rw [hx']
      wp_walk using wpAny_loadPart' hl
      rw [hx]
      wp_walk using (wpAny_updateSeq hl rfl (hz := hs1) (_hz' := hs2))
      have hl' : (hh.update a (Obj.mapSeq fun xs => (xs.setIfInBounds ((p - 1) / 2) (Value.int (av its p) t)).setIfInBounds p (Value.int (av its ((p - 1) / 2)) t'))).get? a = some (LstO (sw its ((p - 1) / 2) p (.int (av its ((p - 1) / 2)) t') (.int (av its p) t)) _) := Heap.get?_update_self (h := hh) _ hl rfl
      refine ⟨plainId_quiet plain_sift _, codeAny_builtin entry_sift ?_⟩
      rw [Around.under_plainId plain_sift _]
      refine ih ((p - 1) / 2) (by omega) _ _ (by rw [sw_size]; exact hz) (by rw [sw_size]; omega) (sw_ints hI hx' hx) (hU.up (by omega) hx' hx lt) prog w A R _ ⟨hl', ?_⟩
      intro its' h' n' pm hp' hi' sb hg
      exact h its' h' n' (pm.trans (sw_perm hx' hx)) hp' hi' ((Heap.SameBut.update _ _ _).trans sb) hg
    · rw [if_neg (by rw [decide_eq_false lt]; exact Bool.false_ne_true)]
      wp_walk
      exact h its hh n (.refl _) (hU.done (.inr lt)) hI (.refl _ _) hl
theorem sift_down (a : Addr) (result : Value) : ∀ (m p : Nat) (its : Array Value) (n : Nat), its.size - p ≤ m → its.size ≤ 200 → p < its.size → Ints its → DH its p →
    Meets (Builtin.«_heapq.heapify.sift» ⟨[.ref a, .bool false, .bool true, rawInt p, rawInt 0, result, rawInt (-1)], []⟩)
      (fun _ R s => s.heap.get? a = some (LstO its n) ∧ Ends a its result R s) := by
  intro m
  induction m with
  | zero => intro p its n h1 _ h2; omega
  | succ m ih =>
  intro p its n hm hz hp hI hD prog w A R s h
  obtain ⟨hh, g, d, tk, os⟩ := s; obtain ⟨hl, h⟩ := h
  obtain ⟨t, hx⟩ := hI.at hp
  wp_walk using wpAny_loadPart' hl
  rw [Int.toNat_natCast]
  by_cases e : p < its.size / 2
  · rw [if_pos e]
    wp_walk
    have hs1 : its.size ≤ sizeLine := by rw [sizeLine_eq]; omega
    have go : ∀ (c : Nat) (u : Tok), c < its.size → (c - 1) / 2 = p → 0 < c → its[c]? = some (.int (av its c) u) → (∀ i, 0 < i → i < its.size → (i - 1) / 2 = p → av its c ≤ av its i) → ∀ f : Array Value → Array Value, f = (fun xs => sw xs c p (.int (av its c) u) (.int (av its p) t)) →
        codeAny (model prog w) A (.builtin "_heapq.heapify.sift" ⟨[.ref a, .bool false, .bool true, rawInt c, rawInt 0, result, rawInt (-1)], []⟩) R { heap := hh.update a (Obj.mapSeq f), gens := g, drawn := d, toks := tk, os := os } := by
      intro c u hc ec c0 hcu le f ef
      subst ef
      have hl' : (hh.update a (Obj.mapSeq fun xs => sw xs c p (.int (av its c) u) (.int (av its p) t))).get? a = some (LstO (sw its c p (.int (av its c) u) (.int (av its p) t)) _) := Heap.get?_update_self (h := hh) _ hl rfl
      refine codeAny_builtin entry_sift ?_
      rw [Around.under_plainId plain_sift _]
      refine ih c _ _ (by rw [sw_size]; omega) (by rw [sw_size]; exact hz) (by rw [sw_size]; omega) (sw_ints hI hcu hx) (hD.down hc ec c0 hcu hx le) prog w A R _ ⟨hl', ?_⟩
      intro its' h' n' pm hp' hi' sb hg
      exact h its' h' n' (pm.trans (sw_perm hcu hx)) hp' hi' ((Heap.SameBut.update _ _ _).trans sb) hg
    have hs2 : ∀ c x y, (sw its c p x y).size ≤ sizeLine + 1 := fun c x y => by rw [sw_size]; omega
    obtain ⟨t1, h1⟩ := hI.at (show 2 * p + 1 < its.size by omega)
    by_cases e2 : 2 * p + 1 + 1 < its.size
    · rw [if_pos e2]
      obtain ⟨t2, h2⟩ := hI.at e2
      wp_walk using wpAny_loadPart' hl
      rw [h1]
      wp_walk using wpAny_loadPart' hl
      rw [h2]
      wp_walk using lt_i, wpAny_loadPart' hl
      by_cases lt : av its (2 * p + 1) < av its (2 * p + 1 + 1)
      · rw [if_neg (by rw [decide_eq_true lt]; decide)]
        wp_walk using wpAny_loadPart' hl
        rw [h1]
        wp_walk using wpAny_loadPart' hl
        rw [hx]
        wp_walk using (wpAny_updateSeq hl rfl (hz := hs1) (_hz' := hs2 _ _ _))
        refine ⟨plainId_quiet plain_sift _, go (2 * p + 1) t1 (by omega) (by omega) (by omega) h1 (fun i i0 i1 i2 => ?_) _ rfl⟩
        by_cases ei : i = 2 * p + 1
        · rw [ei]; exact Int.le_refl _
        · rw [show i = 2 * p + 1 + 1 by omega]; omega
      · rw [if_pos (by rw [decide_eq_false lt]; decide)]
        wp_walk using wpAny_loadPart' hl
        rw [h2]
        wp_walk using wpAny_loadPart' hl
        rw [hx]
        wp_walk using (wpAny_updateSeq hl rfl (hz := hs1) (_hz' := hs2 _ _ _))
        refine ⟨plainId_quiet plain_sift _, go (2 * p + 1 + 1) t2 (by omega) (by omega) (by omega) h2 (fun i i0 i1 i2 => ?_) _ rfl⟩
        by_cases ei : i = 2 * p + 1 + 1
        · rw [ei]; exact Int.le_refl _
        · rw [show i = 2 * p + 1 by omega]; omega
    · rw [if_neg e2]
      wp_walk using wpAny_loadPart' hl
      rw [h1]
      wp_walk using wpAny_loadPart' hl
      rw [hx]
      wp_walk using (wpAny_updateSeq hl rfl (hz := hs1) (_hz' := hs2 _ _ _))
      refine ⟨plainId_quiet plain_sift _, go (2 * p + 1) t1 (by omega) (by omega) (by omega) h1 (fun i i0 i1 i2 => ?_) _ rfl⟩
      rw [show i = 2 * p + 1 by omega]
      exact Int.le_refl _
  · rw [if_neg e]
    wp_walk
    refine ⟨plainId_quiet plain_sift _, codeAny_builtin entry_sift ?_⟩
    rw [Around.under_plainId plain_sift _]
    exact sift_up a result p its n hz hp hI (hD.leaf (by omega)) prog w A R _ ⟨hl, h⟩
/-! the two functions -/
theorem sub_ll : isSubtype (.type "list") (.type "list") = pure true := by rw [isSubtype_type]; kernel_rfl
theorem av_push {its : Array Value} {v : Value} {i : Nat} (h : i < its.size) : av (its.push v) i = av its i := by
  unfold av
  rw [Array.getElem?_push_lt h, Array.getElem?_eq_getElem h]
theorem av_eq {xs ys : Array Value} {i j : Nat} (h : xs[i]? = ys[j]?) : av xs i = av ys j := by
  unfold av
  rw [h]
theorem push_meets (a : Addr) (its : Array Value) (n : Nat) (k : Int) (u : Tok) (hz : its.size ≤ 100) (hI : Ints its) (hH : HP its) :
    Meets (Builtin.«_heapq.heappush» ⟨[.ref a, .int k u], []⟩)
      (fun _ R s => s.heap.get? a = some (LstO its n) ∧ Ends a (its.push (.int k u)) .none R s) := by
  intro prog w A R s h
  obtain ⟨hh, g, d, tk, os⟩ := s; obtain ⟨hl, h⟩ := h
  have hsub := sub_ll
  have hs1 : its.size ≤ sizeLine := by rw [sizeLine_eq]; omega
  have hs2 : (its.push (.int k u)).size ≤ sizeLine + 1 := by rw [Array.size_push]; omega
  have hT : Shared.TypeIs { heap := hh, gens := g, drawn := d, toks := tk, os := os } (.ref a) "list" := ⟨_, hl, rfl⟩
  have hl' : (hh.update a (Obj.mapSeq fun xs => xs.push (.int k u))).get? a = some (LstO (its.push (.int k u)) _) := Heap.get?_update_self (h := hh) _ hl rfl
  wp_walk using (wpAny_updateSeq hl rfl (hz := hs1) (_hz' := hs2)), wpAny_loadPart' hl'
  refine ⟨plainId_quiet plain_sift _, codeAny_builtin entry_sift ?_⟩
  rw [Around.under_plainId plain_sift _]
  have hp : (its.push (.int k u)).size - 1 < (its.push (.int k u)).size := by rw [Array.size_push]; omega
  have hI' : Ints (its.push (.int k u)) := by
    intro i hi
    rw [Array.size_push] at hi
    by_cases e : i = its.size
    · subst e
      exact ⟨k, u, by simp⟩
    · rw [Array.getElem?_push_lt (show i < its.size by omega)]
      obtain ⟨k', t', e'⟩ := hI i (by omega)
      rw [Array.getElem?_eq_getElem (by omega)] at e'
      exact ⟨k', t', e'⟩
  refine sift_up a .none _ _ _ (by rw [Array.size_push]; omega) hp hI' ⟨fun i i0 i1 ni => ?_, fun _ c c0 c1 ec => ?_⟩ prog w A R _ ⟨hl', ?_⟩
  · rw [Array.size_push] at i1 ni
    rw [av_push (by omega), av_push (by omega)]
    exact hH i i0 (by omega)
  · rw [Array.size_push] at c1 ec
    omega
  · intro its' h' n' pm hp' hi' sb hg
    exact h its' h' n' pm hp' hi' ((Heap.SameBut.update _ _ _).trans sb) hg
theorem pop_meets (a : Addr) (its : Array Value) (n : Nat) (hz : its.size ≤ 100) (h0 : 0 < its.size) (hI : Ints its) (hH : HP its) :
    Meets (Builtin.«_heapq.heappop» ⟨[.ref a], []⟩)
      (fun _ R s => s.heap.get? a = some (LstO its n) ∧ ∀ (its' : Array Value) (t : Tok) (h' : Heap) (n' : Nat), its[0]? = some (.int (av its 0) t) → (.int (av its 0) t :: its'.toList).Perm its.toList → HP its' → Ints its' → Heap.SameBut a s.heap h' → h'.get? a = some (LstO its' n') → R (.ok (.ret (.int (av its 0) t))) { s with heap := h' }) := by
  intro prog w A R s h
  obtain ⟨hh, g, d, tk, os⟩ := s; obtain ⟨hl, h⟩ := h
  have hsub := sub_ll
  have hT : Shared.TypeIs { heap := hh, gens := g, drawn := d, toks := tk, os := os } (.ref a) "list" := ⟨_, hl, rfl⟩
  have hs1 : its.size ≤ sizeLine := by rw [sizeLine_eq]; omega
  have hs2 : its.pop.size ≤ sizeLine + 1 := by rw [Array.size_pop]; omega
  obtain ⟨t0, e0⟩ := hI.at h0
  obtain ⟨tl, el⟩ := hI.at (show its.size - 1 < its.size by omega)
  have hb : its.back? = some (.int (av its (its.size - 1)) tl) := by rw [Array.back?_eq_getElem?]; exact el
  have hl' : (hh.update a (Obj.mapSeq fun xs => xs.pop)).get? a = some (LstO its.pop _) := Heap.get?_update_self (h := hh) _ hl rfl
  wp_walk using wpAny_loadPart' hl
  rw [hb]
  wp_walk using (wpAny_updateSeq hl rfl (hz := hs1) (_hz' := hs2)), wpAny_loadPart' hl'
  obtain ⟨l, hl0⟩ : ∃ l : List Value, its.toList = .int (av its 0) t0 :: l := by
    cases e : its.toList with
    | nil =>
      have : its.size = 0 := by rw [← Array.length_toList, e]; rfl
      omega
    | cons v l =>
      have : its.toList[0]? = some (.int (av its 0) t0) := by rw [Array.getElem?_toList]; exact e0
      rw [e] at this
      exact ⟨l, by rw [show v = _ from Option.some.inj this]⟩
  by_cases e1 : its.size = 1
  · rw [if_pos (by rw [e1]; rfl)]
    wp_walk
    have el0 : its[0]? = some (.int (av its 0) tl) := by rw [show (0 : Nat) = its.size - 1 by omega]; exact el
    rw [show its.size - 1 = 0 by omega]
    refine h its.pop tl _ _ el0 ?_ (fun i i0 i1 => by rw [Array.size_pop] at i1; omega) (fun i i1 => by rw [Array.size_pop] at i1; omega) (.update _ _ _) hl'
    have hn : l = [] := by
      have : its.toList.length = 1 := by rw [Array.length_toList]; exact e1
      rw [hl0] at this
      exact List.length_eq_zero_iff.mp (Nat.succ.inj this)
    have et : t0 = tl := by
      rw [e0] at el0
      cases el0
      rfl
    rw [Array.toList_pop, hl0, hn, et]
    exact .refl _
  · rw [if_neg (by simp [e1])]
    wp_walk
    rw [e0]
    have hps : its.pop.size ≤ sizeLine := by rw [Array.size_pop]; omega
    have hps2 : (its.pop.setIfInBounds 0 (.int (av its (its.size - 1)) tl)).size ≤ sizeLine + 1 := by rw [Array.size_setIfInBounds, Array.size_pop]; omega
    have hl2 : ((hh.update a (Obj.mapSeq fun xs => xs.pop)).update a (Obj.mapSeq fun xs => xs.setIfInBounds 0 (.int (av its (its.size - 1)) tl))).get? a = some (LstO (its.pop.setIfInBounds 0 (.int (av its (its.size - 1)) tl)) _) := Heap.get?_update_self (h := hh.update a (Obj.mapSeq fun xs => xs.pop)) _ hl' rfl
    wp_walk using (wpAny_updateSeq hl' rfl (hz := hps) (_hz' := hps2))
    refine ⟨plainId_quiet plain_sift _, codeAny_builtin entry_sift ?_⟩
    rw [Around.under_plainId plain_sift _]
    generalize hv : (Value.int (av its (its.size - 1)) tl) = v at hl2 el hb ⊢
    have hsz : (its.pop.setIfInBounds 0 v).size = its.size - 1 := by rw [Array.size_setIfInBounds, Array.size_pop]
    have hget : ∀ i, 0 < i → i < its.size - 1 → (its.pop.setIfInBounds 0 v)[i]? = its[i]? := fun i i0 i1 => by
      rw [Array.getElem?_setIfInBounds, if_neg (by omega), Array.getElem?_pop, if_pos (by omega)]
    have hI' : Ints (its.pop.setIfInBounds 0 v) := by
      intro i hi
      rw [hsz] at hi
      by_cases ei : i = 0
      · subst ei
        rw [Array.getElem?_setIfInBounds, if_pos rfl, if_pos (by rw [Array.size_pop]; omega)]
        exact ⟨_, _, by rw [← hv]⟩
      · rw [hget i (by omega) hi]
        exact hI i (by omega)
    refine sift_down a (.int (av its 0) t0) _ 0 _ _ (Nat.le_refl _) (by rw [hsz]; omega) (by rw [hsz]; omega) hI' ⟨fun i i0 i1 _ ni => ?_, fun z => absurd z (Nat.lt_irrefl _)⟩ prog w A R _ ⟨hl2, ?_⟩
    · rw [hsz] at i1
      rw [av_eq (hget i i0 i1), av_eq (hget ((i - 1) / 2) (by omega) (by omega))]
      exact hH i i0 (by omega)
    · intro its' h' n' pm hp' hi' sb hg
      refine h its' t0 h' n' e0 ?_ hp' hi' (((Heap.SameBut.update _ _ _).trans (Heap.SameBut.update _ _ _)).trans sb) hg
      refine (pm.cons _).trans ?_
      have hl1 : l ≠ [] := by
        intro z
        have := Array.length_toList (xs := its)
        rw [hl0, z] at this
        exact e1 this.symm
      have hlast : l.getLast hl1 = v := by
        have h1 : its.toList[its.size - 1]? = some v := by rw [Array.getElem?_toList]; exact el
        have h2 : its.toList.length = its.size := Array.length_toList
        rw [hl0] at h1 h2
        have h3 : its.size - 1 = l.length - 1 + 1 := by
          have : 0 < l.length := List.length_pos_iff.mpr hl1
          have : l.length + 1 = its.size := h2
          omega
        rw [h3, List.getElem?_cons_succ, ← List.getLast?_eq_getElem?, List.getLast?_eq_some_getLast hl1] at h1
        exact Option.some.inj h1
      have e2 : (its.pop.setIfInBounds 0 v).toList = v :: l.dropLast := by
        rw [Array.toList_setIfInBounds, Array.toList_pop, hl0, List.dropLast_cons_of_ne_nil hl1]
        rfl
      rw [e2, hl0]
      refine List.Perm.cons _ ?_
      have := List.dropLast_concat_getLast hl1
      rw [hlast] at this
      rw [← this]
      simpa using (List.perm_append_comm (l₁ := [v]) (l₂ := l.dropLast))
end Hq
namespace Qa
open PySem PySem.Spec PyProof.Rows L2
/-- a list in heap order -/
def hpL (ns : List Int) : Prop := ∀ i, 0 < i → i < ns.length → ns.getD ((i - 1) / 2) 0 ≤ ns.getD i 0
def ivl : Value → Int
  | .int k _ => k
  | _ => 0
theorem vals_ivl : ∀ {ns : List Int} {its : List Value}, Vals (ns.map V.int) its → its.map ivl = ns ∧ ∀ v ∈ its, ∃ k t, v = Value.int k t
  | [], its, r => by
    cases its with
    | nil => exact ⟨rfl, by simp⟩
    | cons _ _ => cases r
  | n :: ns, its, r => by
    cases r with
    | cons h t =>
      obtain ⟨tk, rfl⟩ := h
      obtain ⟨h1, h2⟩ := vals_ivl t
      refine ⟨by rw [List.map_cons, h1]; rfl, fun v hv => ?_⟩
      rcases List.mem_cons.mp hv with rfl | hv
      · exact ⟨_, _, rfl⟩
      · exact h2 v hv
theorem ivl_vals : ∀ {its : List Value}, (∀ v ∈ its, ∃ k t, v = Value.int k t) → Vals ((its.map ivl).map V.int) its
  | [], _ => .nil
  | v :: its, h => by
    obtain ⟨k, t, rfl⟩ := h v List.mem_cons_self
    exact .cons ⟨t, rfl⟩ (ivl_vals fun v hv => h v (List.mem_cons_of_mem _ hv))
theorem av_list (xs : Array Value) (i : Nat) : Hq.av xs i = (xs.toList.map ivl).getD i 0 := by
  unfold Hq.av
  rw [← Array.getElem?_toList, List.getD_eq_getElem?_getD, List.getElem?_map]
  cases e : xs.toList[i]? with
  | none => rfl
  | some v => cases v <;> rfl
theorem hp_list {xs : Array Value} : Hq.HP xs ↔ hpL (xs.toList.map ivl) := by
  unfold Hq.HP hpL
  rw [List.length_map, Array.length_toList]
  constructor
  · intro h i h0 h1
    have := h i h0 h1
    rw [av_list, av_list] at this
    exact this
  · intro h i h0 h1
    rw [av_list, av_list]
    exact h i h0 h1
theorem ints_list {xs : Array Value} : Hq.Ints xs ↔ ∀ v ∈ xs.toList, ∃ k t, v = Value.int k t := by
  constructor
  · intro h v hv
    obtain ⟨i, hi⟩ := List.getElem?_of_mem hv
    have hl : i < xs.size := by
      have := (List.getElem?_eq_some_iff.mp hi).1
      rw [Array.length_toList] at this
      exact this
    obtain ⟨k, t, e⟩ := h i hl
    rw [Array.getElem?_toList] at hi
    rw [e] at hi
    exact ⟨k, t, (Option.some.inj hi).symm⟩
  · intro h i hi
    have e : xs[i]? = some xs[i] := Array.getElem?_eq_getElem hi
    obtain ⟨k, t, e2⟩ := h xs[i] (by simp)
    exact ⟨k, t, by rw [e, e2]⟩
def rPush : List V → Hp → VK → Prop := fun vs H Q => ∃ (l : Addr) (ns : List Int) (k : Int), vs = [.ref l, .int k] ∧ H l = some (.lst (ns.map V.int)) ∧ ns.length ≤ 100 ∧ hpL ns ∧ ∀ ns' : List Int, ns'.Perm (ns ++ [k]) → hpL ns' → Q .non (upd H l (.lst (ns'.map V.int)))
def rPop : List V → Hp → VK → Prop := fun vs H Q => ∃ (l : Addr) (ns : List Int), vs = [.ref l] ∧ H l = some (.lst (ns.map V.int)) ∧ 0 < ns.length ∧ ns.length ≤ 100 ∧ hpL ns ∧ ∀ (m : Int) (ns' : List Int), (m :: ns').Perm ns → (∀ x, x ∈ ns → m ≤ x) → hpL ns' → Q (.int m) (upd H l (.lst (ns'.map V.int)))
section
variable {X : Cx}
theorem cr_push : CallR X (.builtin "_heapq.heappush") rPush := by
  intro pins s σ H vs us Q I r h
  obtain ⟨l, ns, k, rfl, hl, hn, hh, q⟩ := h
  obtain ⟨u1, u2, rfl, r1, ⟨t, rfl⟩⟩ := vals2 r
  cases r1
  obtain ⟨hz, its, n, rv, hob⟩ := I.hok l _ hl
  obtain ⟨ei, ai⟩ := vals_ivl rv
  have hsz : its.toArray.size = ns.length := by rw [List.size_toArray, ← ei, List.length_map]
  have hI : Hq.Ints its.toArray := ints_list.mpr ai
  have hH : Hq.HP its.toArray := hp_list.mpr (by show hpL (its.map ivl); rw [ei]; exact hh)
  refine call_function_meets Hq.kind_push Hq.plain_push Hq.entry_push (Hq.args_push _ _) (Hq.push_meets l its.toArray n k t (by omega) hI hH) ⟨hob, ?_⟩
  intro its' h' n' pm hp' hi' sb hg
  have ai' := ints_list.mp hi'
  have pm' : (its'.toList.map ivl).Perm (ns ++ [k]) := by
    have := pm.map ivl
    rw [Array.toList_push, List.map_append] at this
    rw [← ei]
    exact this
  have hlen : ((its'.toList.map ivl).map V.int).length ≤ sizeLine := by
    rw [List.length_map, pm'.length_eq, List.length_append, sizeLine_eq]
    show _ + 1 ≤ _
    omega
  refine ⟨.non, upd H l (.lst ((its'.toList.map ivl).map V.int)), I.write (e := l) (t' := s.toks) (by rw [hl]; trivial) (.inl rfl) (fun b u hb hu => by rw [sb.2 b hb]; exact hu) ⟨_, hg⟩ ⟨hlen, its'.toList, n', ivl_vals ai', hg⟩, rfl, q _ pm' (hp_list.mp hp')⟩
theorem hp_min {ns : List Int} (h : hpL ns) : ∀ i, i < ns.length → ns.getD 0 0 ≤ ns.getD i 0 := by
  intro i
  induction i using Nat.strongRecOn with
  | _ i ih =>
    intro hi
    by_cases e : i = 0
    · subst e
      exact Int.le_refl _
    · have h1 := ih ((i - 1) / 2) (by omega) (by omega)
      have h2 := h i (by omega) hi
      omega
theorem cr_pop : CallR X (.builtin "_heapq.heappop") rPop := by
  intro pins s σ H vs us Q I r h
  obtain ⟨l, ns, rfl, hl, h0, hn, hh, q⟩ := h
  obtain ⟨u1, rfl, r1⟩ := vals1 r
  cases r1
  obtain ⟨hz, its, n, rv, hob⟩ := I.hok l _ hl
  obtain ⟨ei, ai⟩ := vals_ivl rv
  have hsz : its.toArray.size = ns.length := by rw [List.size_toArray, ← ei, List.length_map]
  have hI : Hq.Ints its.toArray := ints_list.mpr ai
  have hH : Hq.HP its.toArray := hp_list.mpr (by show hpL (its.map ivl); rw [ei]; exact hh)
  refine call_function_meets Hq.kind_pop Hq.plain_pop Hq.entry_pop (Hq.args_pop _) (Hq.pop_meets l its.toArray n (by omega) (by omega) hI hH) ⟨hob, ?_⟩
  intro its' t h' n' e0 pm hp' hi' sb hg
  have ai' := ints_list.mp hi'
  have pm' : (Hq.av its.toArray 0 :: its'.toList.map ivl).Perm ns := by
    have := pm.map ivl
    rw [List.map_cons] at this
    have e : (its.toArray.toList).map ivl = ns := ei
    rw [e] at this
    exact this
  have hlen : ((its'.toList.map ivl).map V.int).length ≤ sizeLine := by
    have := pm'.length_eq
    rw [List.length_cons] at this
    rw [List.length_map, sizeLine_eq]
    omega
  have ea : Hq.av its.toArray 0 = ns.getD 0 0 := by rw [av_list]; show ((its.map ivl).getD 0 0) = _; rw [ei]
  refine ⟨.int (Hq.av its.toArray 0), upd H l (.lst ((its'.toList.map ivl).map V.int)), I.write (e := l) (t' := s.toks) (by rw [hl]; trivial) (.inl rfl) (fun b u hb hu => by rw [sb.2 b hb]; exact hu) ⟨_, hg⟩ ⟨hlen, its'.toList, n', ivl_vals ai', hg⟩, ⟨_, rfl⟩, q _ _ pm' (fun x hx => ?_) (hp_list.mp hp')⟩
  obtain ⟨i, hi⟩ := List.getElem?_of_mem hx
  have := hp_min hh i (List.getElem?_eq_some_iff.mp hi).1
  have e9 : ns.getD i 0 = x := by rw [List.getD_eq_getElem?_getD, hi]; rfl
  rw [ea]
  rw [e9] at this
  exact this
def gIxL (K : PySem.W.Frag) : V → V → Hp → VK → Prop := fun x y H Q => ∃ p xs j v, x = .ref p ∧ y = .int ((j : Nat) : Int) ∧ SqL K H p xs ∧ xs[j]? = some v ∧ Q v H
theorem get_list : PGet X (gIxL X.K) := by
  intro pins s σ H x y v u Q I rx ry h
  obtain ⟨p, xs, j, z, rfl, rfl, hq, he, q⟩ := h
  cases rx
  obtain ⟨t, rfl⟩ := ry
  obtain ⟨its, r, pl, hz⟩ := I.list hq
  obtain ⟨w, ew, rw'⟩ := r.get he
  have hl := r.length
  have hn := line63
  have hlt : j < xs.length := (List.getElem?_eq_some_iff.mp he).1
  have fin : EP X pins σ Q w s := ⟨z, H, I, rw', q⟩
  exact wpAny_getItem_list (x := w) pl.isList (by omega) (by omega) (by rw [Int.toNat_natCast]; simpa using ew) fin
/-- f(e, ..), f a module's name of a built-in function -/
theorem pe_callG {id : String} {r : List V → Hp → VK → Prop} {x : Str} {e : Expr} {es : List Expr} {t : TA} {p pos : Pos} (hc : CallR X (.builtin id) r) (hg : Gl X x) (hm : X.mg x = some (.builtin id)) (ha : PA X (e :: es) t) (hdb : (x == ("__debug__" : Str)) = false := by decide)
    (he : starEach (e :: es) X.env = (false, eval e X.env) :: starEach es X.env := by rfl) (hpl : (backTo pos (starEach es X.env)).any (·.1) = false := by rfl) : PE X (.Call (.Name x p) (e :: es) [] pos) (tCB r t) := by
  refine ⟨fun pins s σ H Q I h => ?_⟩
  refine wpAny_Call_Name_kw (ld_glob I hg hm ?_ hdb)
  exact PyProof.Rows.callWith_builtin1 (thn (ha.run pos pins s σ H _ I h) fun us s1 ⟨vs, H1, I1, r1, q1⟩ => hc pins s1 σ H1 vs us Q I1 r1 q1) he hpl
end
section
variable {H : Hp} {Q : VK} {l : Addr} {ns : List Int}
theorem ixN_k {n j : Nat} (h : j < n) : ixN n (j : Int) = some j := by
  unfold ixN
  simp
  omega
theorem rd_augS {σ : L2.St} {D : Ends} {to ti te : TE} {tget : V → V → Hp → VK → Prop} {tip : TIp} {tset : TSet} (q : to σ H fun o H1 => ti σ H1 fun i H2 => tget o i H2 fun x H3 => te σ H3 fun y H4 => tip x y H4 fun z H5 => tset o i z H5 fun H6 => D.nx σ H6) : tAugS to ti te tget tip tset D σ H := q
theorem rd_gIxL {K : PySem.W.Frag} {p : Addr} {xs : List V} {j : Nat} {v : V} (h : SqL K H p xs) (e : xs[j]? = some v) (q : Q v H) : gIxL K (.ref p) (.int (j : Int)) H Q := ⟨p, xs, j, v, rfl, rfl, h, e, q⟩
theorem rd_ipI {f : Int → Int → Int} {i j : Int} (q : Q (.int (f i j)) H) : ipI f (.int i) (.int j) H Q := ⟨i, j, rfl, rfl, q⟩
theorem rd_push {k : Int} (h : H l = some (.lst (ns.map V.int))) (hn : ns.length ≤ 100) (hh : hpL ns) (q : ∀ ns' : List Int, ns'.Perm (ns ++ [k]) → hpL ns' → Q .non (upd H l (.lst (ns'.map V.int)))) : rPush [.ref l, .int k] H Q := ⟨l, ns, k, rfl, h, hn, hh, q⟩
theorem rd_hpop (h : H l = some (.lst (ns.map V.int))) (h0 : 0 < ns.length) (hn : ns.length ≤ 100) (hh : hpL ns) (q : ∀ (m : Int) (ns' : List Int), (m :: ns').Perm ns → (∀ x, x ∈ ns → m ≤ x) → hpL ns' → Q (.int m) (upd H l (.lst (ns'.map V.int)))) : rPop [.ref l] H Q := ⟨l, ns, rfl, h, h0, hn, hh, q⟩
end
end Qa
namespace Qm
open PySem PySem.Spec PyProof.Rows L2 Qa
/-! ### match over tuples: a text ahead, names behind -/
/-- a case: the text ahead (if any), the slots behind, its body -/
structure MC where
  lead : Option Str
  is : List Nat
  tb : TS
def bindIs (σ : L2.St) : List Nat → List V → L2.St
  | i :: is, v :: vs => bindIs (σ.set i (some v)) is vs
  | _, _ => σ
def tCases : List MC → List V → TS
  | [], _ => fun D σ H => D.nx σ H
  | ⟨some z, is, tb⟩ :: r, xs => fun D σ H => (xs.length ≠ is.length + 1 ∧ tCases r xs D σ H) ∨ (xs.length = is.length + 1 ∧ ∃ z' ys, xs = .str z' :: ys ∧ if decide (z' = z) = true then tb D (bindIs σ is ys) H else tCases r xs D σ H)
  | ⟨none, is, tb⟩ :: r, xs => fun D σ H => (xs.length ≠ is.length ∧ tCases r xs D σ H) ∨ (xs.length = is.length ∧ tb D (bindIs σ is xs) H)
structure PM (X : Cx) (cases : List MatchCase) (cs : List MC) : Prop where
  run : ∀ (pins : List (Addr × Obj)) (s : Shared) (σ : L2.St) (H : Hp) (D : Ends) (a : Addr) (xs : List V) (first : Bool), Inv X pins σ H s → SqT X.K H a xs → tCases cs xs D σ H → wpAny (model X.prog X.w) X.A (matchCases cases X.env (.ref a) first) (SP X pins D) X.xe s
inductive PCaps (X : Cx) : List Pattern → List Nat → List Str → Prop
  | nil : PCaps X [] [] []
  | cons {x : Str} {i : Nat} {pos : Pos} {ps : List Pattern} {is : List Nat} {ns : List Str} : X.N[i]? = some x → Loc X.env.scope x → (X.fn x = true ∨ X.env.scope.names.lookup x = some .local) → PCaps X ps is ns → PCaps X (.MatchAs none (some x) pos :: ps) (i :: is) (x :: ns)
section
variable {X : Cx} {caps : List Pattern} {is : List Nat} {ns : List Str} {M : Model} {A : Around} {E : Value → Shared → Prop}
theorem PCaps.len (h : PCaps X caps is ns) : caps.length = is.length := by
  induction h with
  | nil => rfl
  | cons _ _ _ _ ih => exact congrArg (· + 1) ih
theorem caps_match (h : PCaps X caps is ns) : ∀ {us : List Value} {Q : Option (List (Str × Value)) → Shared → Prop} {s : Shared}, us.length = caps.length → Q (some (ns.zip us)) s → wpAny M A (matchEach caps X.env us) Q E s := by
  induction h with
  | nil => exact fun hl hq => wpAny_matchEach_nil (by cases List.length_eq_zero_iff.mp hl; exact hq)
  | cons a b c d ih =>
    intro us Q s hl hq
    cases us with
    | nil => cases hl
    | cons u us =>
      refine wpAny_matchEach_cons (wpAny_matchPattern_Capture ?_)
      exact ih (Nat.succ.inj hl) hq
theorem caps_store {pins : List (Addr × Obj)} {H : Hp} (hN : X.N.Nodup) (h : PCaps X caps is ns) : ∀ {us : List Value} {vs : List V} {σ : L2.St} {s : Shared} {Q : Unit → Shared → Prop}, Vals vs us → us.length = is.length → Inv X pins σ H s → (∀ s', Inv X pins (bindIs σ is vs) H s' → Q () s') →
    wpAny (model X.prog X.w) X.A (assignInOrder ((ns.zip us).map fun (n, _) => bindName X.env n) ((ns.zip us).map (·.2))) Q E s := by
  induction h with
  | nil =>
    intro us vs σ s Q r hl I q
    exact wpAny_assignInOrder_none (by cases List.length_eq_zero_iff.mp hl; cases r; exact q s I)
  | cons a b c d ih =>
    intro us vs σ s Q r hl I q
    cases r with
    | nil => cases hl
    | cons r rr =>
      exact wpAny_assignInOrder_more (wpAny_bindName (store_ok I hN a b r (fun s2 I2 => ih rr (Nat.succ.inj hl) I2 q) c))
theorem pm_nil : PM X [] [] := ⟨fun pins s σ H D a xs first I hq h => wpAny_matchCases_nil ⟨σ, H, I, h⟩⟩
theorem pm_lead {z : Str} {j : Nat} {p1 p2 p3 : Pos} {body : List Stmt} {tb : TS} {rest : List MatchCase} {cs : List MC} (hc : X.calm = true) (hN : X.N.Nodup) (hcap : PCaps X caps is ns) (hb : PSs X body tb) (hr : PM X rest cs)
    (hstar : (Pattern.MatchValue (.Constant (.str z) j p1) p2 :: caps).findIdx? (·.isStar) = none := by rfl)
    (hwild : ((Pattern.MatchValue (.Constant (.str z) j p1) p2 :: caps).all fun p => p.isWildcard || (p.isStar && p.names.isEmpty)) = false := by rfl) :
    PM X (⟨.MatchSequence (.MatchValue (.Constant (.str z) j p1) p2 :: caps) p3, none, body⟩ :: rest) (⟨some z, is, tb⟩ :: cs) := by
  refine ⟨fun pins s σ H D a xs first I hq h => ?_⟩
  obtain ⟨its, rv, ht, hz⟩ := I.tuple hq
  have hlen := rv.length
  have hcl := hcap.len
  have hn := line63
  refine wpAny_matchCases_cons ?_
  rcases h with ⟨hl, h⟩ | ⟨hl, z', ys, rfl, h⟩
  · refine matchSeq_tuple_miss ht (by simp only [List.size_toArray]; omega) (by simp only [List.size_toArray, List.length_cons]; omega) ?_ hstar hwild
    exact hr.run pins _ σ H D a xs false (I.kept (t' := s.toks + 1 + 1) fun _ _ e => e) hq h
  · have hs : its.toArray.size = (Pattern.MatchValue (.Constant (.str z) j p1) p2 :: caps).length := by simp only [List.size_toArray, List.length_cons]; omega
    refine matchSeq_tuple_hit ht (by simp only [List.size_toArray]; omega) hs ?_ hstar hwild
    rw [← hs]
    refine unpackItems_tuple (s := { s with toks := s.toks + 1 + 1 }) (I.ok.hd hc) ht fun h' hx => ?_
    have I1 : Inv X pins σ H { s with heap := h', toks := s.toks + 1 + 1 } := I.kept (t' := s.toks + 1 + 1) fun b o e => hx b o (Nat.ne_of_lt (Heap.lt_size e)) e
    cases rv with
    | cons r rr =>
      rename_i u us
      refine wpAny_matchEach_cons (wpAny_matchPattern_Value ?_)
      refine thn ((pe_str (X := X) (x := z) (j := j) (pos := p1)).run pins _ σ H (fun v H1 => v = .str z ∧ H1 = H) I1 ⟨rfl, rfl⟩) fun u2 s2 ⟨v2, H2, I2, r2, e1, e2⟩ => ?_
      subst e1 e2
      refine thn (op_eq pins s2 σ H2 (.str z') (.str z) u u2 (fun v H1 => v = .bl (decide (z' = z)) ∧ H1 = H2) I2 r r2 ⟨rfl, by rw [show decide (V.str z' = V.str z) = decide (z' = z) from by rw [Bool.eq_iff_iff]; simp]; exact ⟨rfl, rfl⟩⟩) fun c s3 ⟨v3, H3, I3, r3, e3, e4⟩ => ?_
      subst e3 e4
      cases r3
      refine wpAny_truthy_bool ?_
      by_cases he : z' = z
      · rw [decide_eq_true he] at h ⊢
        rw [if_pos rfl] at h
        show wpAny _ _ (matchEach caps X.env us) _ _ _
        have lus : us.length = caps.length := by simp only [List.length_cons] at hs hl hlen; simpa using hs
        refine caps_match hcap lus ?_
        refine caps_store hN hcap rr (by omega) I3 fun s4 I4 => ?_
        exact hb.run pins s4 _ H3 D I4 h
      · rw [decide_eq_false he] at h ⊢
        rw [if_neg (by decide)] at h
        exact hr.run pins s3 σ H3 D a _ false I3 hq h
theorem pm_bare {p3 : Pos} {body : List Stmt} {tb : TS} {rest : List MatchCase} {cs : List MC} (hc : X.calm = true) (hN : X.N.Nodup) (hcap : PCaps X caps is ns) (hb : PSs X body tb) (hr : PM X rest cs)
    (hstar : caps.findIdx? (·.isStar) = none := by rfl) (hwild : (caps.all fun p => p.isWildcard || (p.isStar && p.names.isEmpty)) = false := by rfl) :
    PM X (⟨.MatchSequence caps p3, none, body⟩ :: rest) (⟨none, is, tb⟩ :: cs) := by
  refine ⟨fun pins s σ H D a xs first I hq h => ?_⟩
  obtain ⟨its, rv, ht, hz⟩ := I.tuple hq
  have hlen := rv.length
  have hcl := hcap.len
  have hn := line63
  refine wpAny_matchCases_cons ?_
  rcases h with ⟨hl, h⟩ | ⟨hl, h⟩
  · refine matchSeq_tuple_miss ht (by simp only [List.size_toArray]; omega) (by simp only [List.size_toArray]; omega) ?_ hstar hwild
    exact hr.run pins _ σ H D a xs false (I.kept (t' := s.toks + 1 + 1) fun _ _ e => e) hq h
  · have hs : its.toArray.size = caps.length := by simp only [List.size_toArray]; omega
    refine matchSeq_tuple_hit ht (by simp only [List.size_toArray]; omega) hs ?_ hstar hwild
    rw [← hs]
    refine unpackItems_tuple (s := { s with toks := s.toks + 1 + 1 }) (I.ok.hd hc) ht fun h' hx => ?_
    have I1 : Inv X pins σ H { s with heap := h', toks := s.toks + 1 + 1 } := I.kept (t' := s.toks + 1 + 1) fun b o e => hx b o (Nat.ne_of_lt (Heap.lt_size e)) e
    refine caps_match hcap (by simpa using hs) ?_
    refine caps_store hN hcap rv (by show its.length = _; omega) I1 fun s4 I4 => ?_
    exact hb.run pins s4 _ H D I4 h
def tMatch (K : PySem.W.Frag) (te : TE) (cs : List MC) : TS := fun D σ H => te σ H fun x H1 => ∃ a xs, x = .ref a ∧ SqT K H1 a xs ∧ tCases cs xs D σ H1
theorem ps_match {subject : Expr} {cases : List MatchCase} {pos : Pos} {te : TE} {cs : List MC} (he : PE X subject te) (hm : PM X cases cs) : PS X (.Match subject cases pos) (tMatch X.K te cs) := by
  refine ⟨fun pins s σ H D I h => ?_⟩
  refine wpAny_Match (thn (he.run pins s σ H _ I h) fun v s1 ⟨x, H1, I1, r1, a, xs, e, hq, q⟩ => ?_)
  subst e
  cases r1
  exact hm.run pins s1 σ H1 D a xs true I1 hq q
end
section
variable {K : PySem.W.Frag} {σ : L2.St} {H : Hp} {D : Ends} {te : TE} {cs r : List MC} {a : Addr} {xs ys : List V} {is : List Nat} {tb : TS} {z z' : Str}
theorem rd_match (q : te σ H fun x H1 => ∃ a xs, x = .ref a ∧ SqT K H1 a xs ∧ tCases cs xs D σ H1) : tMatch K te cs D σ H := q
theorem rd_mt (h : SqT K H a xs) (q : tCases cs xs D σ H) : ∃ b ys, V.ref a = .ref b ∧ SqT K H b ys ∧ tCases cs ys D σ H := ⟨a, xs, rfl, h, q⟩
/-- this case -/
theorem rd_mhit (hl : ys.length = is.length) (q : tb D (bindIs σ is ys) H) : tCases (⟨some z, is, tb⟩ :: r) (.str z :: ys) D σ H := .inr ⟨by rw [List.length_cons, hl], z, ys, rfl, by rw [if_pos (decide_eq_true rfl)]; exact q⟩
/-- another text -/
theorem rd_mmiss (hz : z' ≠ z) (q : tCases r (.str z' :: ys) D σ H) : tCases (⟨some z, is, tb⟩ :: r) (.str z' :: ys) D σ H := by
  by_cases hl : (V.str z' :: ys).length = is.length + 1
  · exact .inr ⟨hl, z', ys, rfl, by rw [if_neg (by rw [decide_eq_false hz]; decide)]; exact q⟩
  · exact .inl ⟨hl, q⟩
theorem rd_mbare (hl : xs.length = is.length) (q : tb D (bindIs σ is xs) H) : tCases (⟨none, is, tb⟩ :: r) xs D σ H := .inr ⟨hl, q⟩
end
end Qm
open PySem PySem.Spec PyProof.Rows L2 Qa Qr
/-! tables; no program here -/
namespace Qr
section
variable {K : PySem.W.Frag} {H : Hp} {Q : VK}
def isRow : T → Bool
  | .tup [a, b, c] => isNum a && (isNum b && isPct c)
  | _ => false
theorem row3 {ts : List T} (h : ts.length = 3) : ∃ a b c, ts = [a, b, c] := by
  match ts, h with
  | [a, b, c], _ => exact ⟨a, b, c, rfl⟩
theorem notRow {ts : List T} (h : ts.length ≠ 3) : isRow (.tup ts) = false := by
  unfold isRow
  split
  · rename_i e
    cases e
    exact absurd rfl h
  · rfl
def startOf : T → Int
  | .tup (.int s :: _) => s
  | _ => 0
def rise : List T → Bool
  | x :: y :: r => decide (startOf x < startOf y) && rise (y :: r)
  | _ => true
theorem rise_drop : ∀ (ts : List T) (i : Nat) (x y : T), ts[i]? = some x → ts[i + 1]? = some y → rise (ts.drop i) = (decide (startOf x < startOf y) && rise (ts.drop (i + 1)))
  | [], i, x, y, h, _ => by simp at h
  | [a], 0, x, y, h, h2 => by simp at h2
  | [a], i + 1, x, y, h, h2 => by simp at h
  | a :: b :: r, 0, x, y, h, h2 => by
    cases (Option.some.inj h); cases (Option.some.inj h2); rfl
  | a :: b :: r, i + 1, x, y, h, h2 => by
    have ih := rise_drop (b :: r) i x y h h2
    exact ih
theorem rise_end (ts : List T) (i : Nat) (h : ts.length ≤ i + 1) : rise (ts.drop i) = true := by
  have hl : (ts.drop i).length ≤ 1 := by rw [List.length_drop]; omega
  match ts.drop i, hl with
  | [], _ => rfl
  | [a], _ => rfl
theorem row_start {K : PySem.W.Frag} {H : Hp} {v : V} {t : T} (h : Tv K H v t) (r : isRow t = true) : ∃ a y z, v = .ref a ∧ SqT K H a [.int (startOf t), y, z] := by
  cases t with
  | tup ts =>
    by_cases hl : ts.length = 3
    · obtain ⟨ta, tb, tc, rfl⟩ := row3 hl
      obtain ⟨p, xs, rfl, hs, ha⟩ := h.tupE
      obtain ⟨x, xs, rfl, hx, ha⟩ := ha.consE
      obtain ⟨y, xs, rfl, hy, ha⟩ := ha.consE
      obtain ⟨z, xs, rfl, hz, ha⟩ := ha.consE
      cases ha.nilE
      have e : isNum ta = true := by
        simp only [isRow, Bool.and_eq_true] at r
        exact r.1
      cases ta with
      | int i => cases hx; exact ⟨p, y, z, rfl, hs⟩
      | _ => cases e
    · rw [notRow hl] at r; cases r
  | _ => cases r
def isTable : T → Bool
  | .tup ts => decide (1 ≤ ts.length) && decide (ts.length ≤ 20) && (ts.all isRow && rise ts)
  | _ => false
theorem isTable_tup (ts : List T) : isTable (.tup ts) = (decide (1 ≤ ts.length) && decide (ts.length ≤ 20) && (ts.all isRow && rise ts)) := rfl
theorem all_take {p : T → Bool} {ts : List T} {i : Nat} {t : T} (h : ts[i]? = some t) : (ts.take (i + 1)).all p = ((ts.take i).all p && p t) := by
  rw [List.take_add_one, h, List.all_append]
  simp
structure Row where
  s : Int
  p : Int
  c : Int
def rowT (r : Row) : T := .tup [.int r.s, .int r.p, .int r.c]
def atN (rows : List Row) (n : Int) : Int := rows.foldl (fun told r => if r.s ≤ n then r.p + (n - r.s) * r.c / 100 else told) 0
def pcts (rows : List Row) : Prop := ∀ r ∈ rows, 0 ≤ r.c ∧ r.c ≤ 100
theorem tv_row {K : PySem.W.Frag} {H : Hp} {v : V} {r : Row} (h : Tv K H v (rowT r)) : ∃ a, v = .ref a ∧ SqT K H a [.int r.s, .int r.p, .int r.c] := by
  obtain ⟨p, xs, rfl, hs, ha⟩ := Tv.tupE h
  obtain ⟨x, xs, rfl, hx, ha⟩ := ha.consE
  obtain ⟨y, xs, rfl, hy, ha⟩ := ha.consE
  obtain ⟨z, xs, rfl, hz, ha⟩ := ha.consE
  cases ha.nilE
  cases hx; cases hy; cases hz
  exact ⟨p, rfl, hs⟩
theorem tva_rows {K : PySem.W.Frag} {H : Hp} {xs : List V} {rows : List Row} {i : Nat} {x : V} (h : TvA K H xs (rows.map rowT)) (hx : xs[i]? = some x) : ∃ r a, rows[i]? = some r ∧ x = .ref a ∧ SqT K H a [.int r.s, .int r.p, .int r.c] := by
  obtain ⟨t, ht, hv⟩ := h.getV hx
  rw [List.getElem?_map] at ht
  cases e : rows[i]? with
  | none => rw [e] at ht; cases ht
  | some r =>
    rw [e] at ht
    cases (Option.some.inj ht)
    obtain ⟨a, rfl, hs⟩ := tv_row hv
    exact ⟨r, a, rfl, rfl, hs⟩
theorem atN_take {rows : List Row} {i : Nat} {r : Row} {n : Int} (h : rows[i]? = some r) : atN (rows.take (i + 1)) n = if r.s ≤ n then r.p + (n - r.s) * r.c / 100 else atN (rows.take i) n := by
  unfold atN
  rw [List.take_add_one, h]
  simp
structure GoodRow (r : Row) : Prop where
  s0 : -1000000000 ≤ r.s
  s1 : r.s ≤ 1000000000
  p0 : -1000000000 ≤ r.p
  p1 : r.p ≤ 1000000000
  c0 : 0 ≤ r.c
  c1 : r.c ≤ 100
def riseR : List Row → Prop
  | x :: y :: r => x.s < y.s ∧ riseR (y :: r)
  | _ => True
structure GoodTab (rows : List Row) : Prop where
  len : 1 ≤ rows.length ∧ rows.length ≤ 20
  row : ∀ r ∈ rows, GoodRow r
  rise : riseR rows
theorem riseR_snoc : ∀ (rows : List Row) (x : Row), riseR rows → (∀ r ∈ rows, r.s < x.s) → riseR (rows ++ [x])
  | [], x, _, _ => trivial
  | [a], x, _, h => ⟨h a List.mem_cons_self, trivial⟩
  | a :: b :: r, x, hr, h => ⟨hr.1, riseR_snoc (b :: r) x hr.2 fun y hy => h y (List.mem_cons_of_mem _ hy)⟩
structure Drawn (K : PySem.W.Frag) (H' : Hp) (o : Addr) (rows : List Row) (i : Nat) (st z : Int) : Prop where
  at_ : ∃ vs, H' o = some (.lst vs) ∧ TvA K H' vs (rows.map rowT)
  len : rows.length = i
  good : ∀ r ∈ rows, GoodRow r
  rise : riseR rows
  low : ∀ r ∈ rows, r.s < st
  s0 : -1000000000 ≤ st
  s1 : st ≤ z + 20000 * i
theorem isRow_good {r : Row} (g : GoodRow r) : isRow (rowT r) = true := by
  have := g.s0; have := g.s1; have := g.p0; have := g.p1; have := g.c0; have := g.c1
  simp [rowT, isRow, isNum, isPct, within]
  omega
theorem rise_good : ∀ (rows : List Row), riseR rows → rise (rows.map rowT) = true
  | [], _ => rfl
  | [_], _ => rfl
  | a :: b :: r, h => by
    show (decide (startOf (rowT a) < startOf (rowT b)) && rise ((b :: r).map rowT)) = true
    rw [rise_good (b :: r) h.2, Bool.and_true]
    exact decide_eq_true h.1
theorem good_table {rows : List Row} (g : GoodTab rows) : isTable (.tup (rows.map rowT)) = true := by
  rw [isTable_tup, rise_good rows g.rise]
  have e : (rows.map rowT).all isRow = true := by
    rw [List.all_eq_true]
    intro t ht
    obtain ⟨r, hr, rfl⟩ := List.mem_map.mp ht
    exact isRow_good (g.row r hr)
  have := g.len
  rw [e, List.length_map, decide_eq_true this.1, decide_eq_true this.2]
  rfl
end
end Qr
namespace Qa
open PySem PySem.Spec PyProof.Rows L2 Qr
/-! nested data, compared -/
mutual
def py : T → PyData
  | .non => .none | .bl b => .bool b | .int i => .int i | .str s => .str s | .lst => .none
  | .tup ts => .tuple (pyL ts)
def pyL : List T → List PyData
  | [] => []
  | t :: ts => py t :: pyL ts
end
mutual
/-- can be compared, so deep at most -/
def okT : Nat → T → Bool
  | _, .str s => PyData.strOk s
  | _, .lst => false
  | 0, .tup _ => false
  | n + 1, .tup ts => okL n ts
  | _, _ => true
def okL : Nat → List T → Bool
  | _, [] => true
  | n, t :: ts => okT n t && okL n ts
end
mutual
theorem okT_lay : ∀ {n : Nat} {t : T}, okT n t = true → (py t).canLay0 = true ∧ (py t).depth ≤ n
  | _, .non, _ => ⟨by simp [py, PyData.canLay0], by simp [py, PyData.depth]⟩
  | _, .bl _, _ => ⟨by simp [py, PyData.canLay0], by simp [py, PyData.depth]⟩
  | _, .int _, _ => ⟨by simp [py, PyData.canLay0], by simp [py, PyData.depth]⟩
  | _, .str s, h => ⟨by simpa [py, PyData.canLay0, okT] using h, by simp [py, PyData.depth]⟩
  | _, .lst, h => by simp [okT] at h
  | 0, .tup _, h => by simp [okT] at h
  | n + 1, .tup ts, h => by
    have := okL_lay (n := n) (ts := ts) (by simpa [okT] using h)
    exact ⟨by simpa [py, PyData.canLay0] using this.1, by simp only [py, PyData.depth]; omega⟩
theorem okL_lay : ∀ {n : Nat} {ts : List T}, okL n ts = true → PyData.canLayAll0 (pyL ts) = true ∧ PyData.depthAll (pyL ts) ≤ n
  | _, [], _ => ⟨by simp [pyL, PyData.canLayAll0], by simp [pyL, PyData.depthAll]⟩
  | n, t :: ts, h => by
    have h : (okT n t && okL n ts) = true := by simpa [okL] using h
    rw [Bool.and_eq_true] at h
    have h1 := okT_lay h.1
    have h2 := okL_lay h.2
    exact ⟨by simp [pyL, PyData.canLayAll0, h1.1, h2.1], by simp only [pyL, PyData.depthAll]; omega⟩
end
section
variable {K : PySem.W.Frag} {H : Hp} {Q : VK}
mutual
theorem tv_dp : ∀ {v : V} {t : T} {n : Nat}, Tv K H v t → okT n t = true → Dp K H v (py t)
  | _, _, _, .non, _ => by rw [py]; exact .non
  | _, _, _, .bl b, _ => by rw [py]; exact .bl b
  | _, _, _, .int i, _ => by rw [py]; exact .int i
  | _, _, _, .str s h, _ => by rw [py]; exact .str s
  | _, .tup _, 0, .tup h a, o => by simp [okT] at o
  | _, .tup ts, n + 1, .tup h a, o => by rw [py]; exact .tup h (tva_dp (n := n) a (by simpa [okT] using o))
  | _, _, _, .lst h, o => by simp [okT] at o
theorem tva_dp : ∀ {vs : List V} {ts : List T} {n : Nat}, TvA K H vs ts → okL n ts = true → DpAll K H vs (pyL ts)
  | _, _, _, .nil, _ => by rw [pyL]; exact .nil
  | _, t :: ts, n, .cons h a, o => by
    have o : (okT n t && okL n ts) = true := by simpa [okL] using o
    rw [Bool.and_eq_true] at o
    rw [pyL]
    exact .cons (tv_dp h o.1) (tva_dp a o.2)
end
theorem okL_all {n : Nat} : ∀ {ts : List T}, (∀ t ∈ ts, okT n t = true) → okL n ts = true
  | [], _ => by simp [okL]
  | t :: ts, h => by
    have h1 := h t List.mem_cons_self
    have h2 := okL_all (n := n) (ts := ts) fun x hx => h x (List.mem_cons_of_mem _ hx)
    simp [okL, h1, h2]
theorem shaped_of {d : PyData} (h : d.canLay0 = true) (hd : d.depth ≤ 64) : SeqAt.shaped d = true := by
  unfold SeqAt.shaped
  rw [h, decide_eq_true hd]
  rfl
/-- two tuples of the same data -/
theorem eqv_tup {ts : List T} {n : Nat} (o : okL n ts = true) (hn : n < 64) : SeqAt.shaped (.tuple (pyL ts)) = true ∧ PyData.eqv (.tuple (pyL ts)) (.tuple (pyL ts)) = true := by
  have h := okL_lay o
  have h1 : (PyData.tuple (pyL ts)).canLay0 = true := by simpa [PyData.canLay0] using h.1
  have h2 : (PyData.tuple (pyL ts)).depth ≤ 64 := by simp only [PyData.depth]; omega
  exact ⟨shaped_of h1 h2, SeqAt.eqv_refl _ h1⟩
theorem rd_eqTups {a b : Addr} {xs ys : List V} {ts : List T} {n : Nat} (o : okL n ts = true) (hn : n < 64) (ha : SqT K H a xs) (ta : TvA K H xs ts) (hb : SqT K H b ys) (tb : TvA K H ys ts) (q : Q (.bl true) H) : rEqA K (.ref a) (.ref b) H Q := by
  obtain ⟨h1, h2⟩ := eqv_tup o hn
  refine .inr ⟨_, _, .tup ha (tva_dp ta o), .tup hb (tva_dp tb o), h1, h1, ?_⟩
  rw [h2]
  exact q
theorem rd_neTups {a b : Addr} {xs ys : List V} {ts : List T} {n : Nat} (o : okL n ts = true) (hn : n < 64) (ha : SqT K H a xs) (ta : TvA K H xs ts) (hb : SqT K H b ys) (tb : TvA K H ys ts) (q : Q (.bl false) H) : rNeA K (.ref a) (.ref b) H Q := by
  obtain ⟨h1, h2⟩ := eqv_tup o hn
  refine .inr ⟨_, _, .tup ha (tva_dp ta o), .tup hb (tva_dp tb o), h1, h1, ?_⟩
  rw [h2]
  exact q
theorem eqv_lst {ts : List T} {n : Nat} (o : okL n ts = true) (hn : n < 64) : SeqAt.shaped (.list (pyL ts)) = true ∧ PyData.eqv (.list (pyL ts)) (.list (pyL ts)) = true := by
  have h := okL_lay o
  have h1 : (PyData.list (pyL ts)).canLay0 = true := by simpa [PyData.canLay0] using h.1
  have h2 : (PyData.list (pyL ts)).depth ≤ 64 := by simp only [PyData.depth]; omega
  exact ⟨shaped_of h1 h2, SeqAt.eqv_refl _ h1⟩
theorem rd_eqLsts {a b : Addr} {xs ys : List V} {ts : List T} {n : Nat} (o : okL n ts = true) (hn : n < 64) (ha : SqL K H a xs) (ta : TvA K H xs ts) (hb : SqL K H b ys) (tb : TvA K H ys ts) (q : Q (.bl true) H) : rEqA K (.ref a) (.ref b) H Q := by
  obtain ⟨h1, h2⟩ := eqv_lst o hn
  refine .inr ⟨_, _, .lst ha (tva_dp ta o), .lst hb (tva_dp tb o), h1, h1, ?_⟩
  rw [h2]
  exact q
theorem rd_neLsts {a b : Addr} {xs ys : List V} {ts : List T} {n : Nat} (o : okL n ts = true) (hn : n < 64) (ha : SqL K H a xs) (ta : TvA K H xs ts) (hb : SqL K H b ys) (tb : TvA K H ys ts) (q : Q (.bl false) H) : rNeA K (.ref a) (.ref b) H Q := by
  obtain ⟨h1, h2⟩ := eqv_lst o hn
  refine .inr ⟨_, _, .lst ha (tva_dp ta o), .lst hb (tva_dp tb o), h1, h1, ?_⟩
  rw [h2]
  exact q
theorem rd_neNil {a b : Addr} {ns : List Key} (ok : ∀ k ∈ ns, okK k = true) (ha : SqL K H a (ns.map kV)) (hb : SqL K H b []) (q : Q (.bl (!ns.isEmpty)) H) : rNeA K (.ref a) (.ref b) H Q := by
  refine .inr ⟨_, _, .lst ha (dp_keys ns), .lst hb .nil, shaped_flat _ (flat_kD ns ok), shaped_flat [] (by simp), ?_⟩
  cases ns with
  | nil => exact q
  | cons n ns => exact q
end
/-- a rule can be compared -/
theorem words_ok : ∀ x ∈ words, PyData.strOk x = true := by decide +kernel
theorem rule_ok {sz : Sz} : ∀ {n : Nat} {t : T}, isRule sz n t = true → okT n t = true
  | 0, _, h => by cases h
  | n + 1, t, h => by
    obtain ⟨x, ts, ks, rfl, e, hl, hz⟩ := rule_of h
    have hx : x ∈ words := by
      by_cases hm : x ∈ words
      · exact hm
      · rw [kinds_none hm] at e
        cases e
    have hk := kinds_of e
    clear e
    have parts : ∀ (ts : List T) (ks : List Str), ts.length ≤ ks.length → zipOk (partOk (isRule sz n) sz) ts ks = true → okL n ts = true := by
      intro ts
      induction ts with
      | nil => intro ks _ _; simp [okL]
      | cons t ts ih =>
        intro ks hlen hz
        cases ks with
        | nil => exact absurd hlen (by simp)
        | cons k ks =>
          have hz : (partOk (isRule sz n) sz k t && zipOk (partOk (isRule sz n) sz) ts ks) = true := hz
          rw [Bool.and_eq_true] at hz
          have h2 := ih ks (by simpa using hlen) hz.2
          have h1 : okT n t = true := by
            have hp := hz.1
            unfold partOk at hp
            split at hp
            · exact rule_ok hp
            · split at hp
              · cases t with
                | int i => cases n <;> simp [okT]
                | _ => cases hp
              · split at hp
                · cases t with
                  | int i => cases n <;> simp [okT]
                  | _ => cases hp
                · split at hp
                  · obtain ⟨z, rfl⟩ := word_str hp
                    have := isWord_ok hp
                    cases n <;> simpa [okT] using this
                  · obtain ⟨i, rfl⟩ := place_int hp
                    cases n <;> simp [okT]
          simp [okL, h1, h2]
    have h1 : okT n (.str x) = true := by
      have := words_ok x hx
      cases n <;> simpa [okT] using this
    have h2 := parts ts ks (by omega) hz
    show okT (n + 1) (.tup (.str x :: ts)) = true
    have h0 := words_ok x hx
    simp [okT, okL, h0, h2]
end Qa
/-! rings: the first that is found is the least; no program here -/
namespace Qg
def row (nm : List (List Nat)) (x : Nat) : List Nat := (nm[x]?).getD []
inductive Walk (nm : List (List Nat)) (f : Nat) : List Nat → Nat → Prop
  | one : Walk nm f [f] f
  | snoc {w : List Nat} {x y : Nat} : Walk nm f w x → y ∈ row nm x → Walk nm f (w ++ [y]) y
def Ring (nm : List (List Nat)) (f : Nat) (w : List Nat) : Prop := ∃ x, Walk nm f w x ∧ f ∈ row nm x
def lexLt : List Nat → List Nat → Prop
  | [], _ => False
  | _ :: _, [] => False
  | a :: as, b :: bs => a < b ∨ (a = b ∧ lexLt as bs)
def sl (p q : List Nat) : Prop := p.length < q.length ∨ (p.length = q.length ∧ lexLt p q)
def sle (p q : List Nat) : Prop := p = q ∨ sl p q
theorem lex_snoc : ∀ {p q : List Nat} (x y : Nat), p.length = q.length → lexLt p q → lexLt (p ++ [x]) (q ++ [y])
  | [], _, _, _, _, h => h.elim
  | _ :: _, [], _, _, e, _ => by cases e
  | a :: p, b :: q, x, y, e, h => by
    rcases h with h | ⟨h, h'⟩
    · exact .inl h
    · exact .inr ⟨h, lex_snoc x y (Nat.succ.inj e) h'⟩
theorem lex_last {x y : Nat} (h : x < y) : ∀ (p : List Nat), lexLt (p ++ [x]) (p ++ [y])
  | [] => .inl h
  | _ :: p => .inr ⟨rfl, lex_last h p⟩
theorem lex_trans : ∀ {p q r : List Nat}, lexLt p q → lexLt q r → lexLt p r
  | [], _, _, h, _ => h.elim
  | _ :: _, [], _, h, _ => h.elim
  | _ :: _, _ :: _, [], _, h => h.elim
  | a :: p, b :: q, c :: r, h, h' => by
    rcases h with h | ⟨h, h2⟩
    · rcases h' with h' | ⟨h', h3⟩
      · exact .inl (Nat.lt_trans h h')
      · exact .inl (h' ▸ h)
    · rcases h' with h' | ⟨h', h3⟩
      · exact .inl (h ▸ h')
      · exact .inr ⟨h.trans h', lex_trans h2 h3⟩
theorem lex_irr : ∀ {p : List Nat}, ¬ lexLt p p
  | [], h => h
  | _ :: _, h => by
    rcases h with h | ⟨_, h⟩
    · exact Nat.lt_irrefl _ h
    · exact lex_irr h
theorem sl_trans {p q r : List Nat} (h : sl p q) (h' : sl q r) : sl p r := by
  rcases h with h | ⟨h, h2⟩
  · rcases h' with h' | ⟨h', h3⟩
    · exact .inl (by omega)
    · exact .inl (by omega)
  · rcases h' with h' | ⟨h', h3⟩
    · exact .inl (by omega)
    · exact .inr ⟨h.trans h', lex_trans h2 h3⟩
theorem sl_irr {p : List Nat} : ¬ sl p p := by
  rintro (h | ⟨_, h⟩)
  · omega
  · exact lex_irr h
theorem sle_sl {p q r : List Nat} (h : sle p q) (h' : sl q r) : sl p r := by
  rcases h with rfl | h
  · exact h'
  · exact sl_trans h h'
theorem sle_trans {p q r : List Nat} (h : sle p q) (h' : sle q r) : sle p r := by
  rcases h' with rfl | h'
  · exact h
  · exact .inr (sle_sl h h')
theorem sle_anti {p q : List Nat} (h : sle p q) (h' : sle q p) : p = q := by
  rcases h with h | h
  · exact h
  · rcases h' with h' | h'
    · exact h'.symm
    · exact (sl_irr (sl_trans h h')).elim
theorem sle_len {p q : List Nat} (h : sle p q) : p.length ≤ q.length := by
  rcases h with rfl | h | h
  · exact Nat.le_refl _
  · omega
  · omega
theorem sl_grow {p q : List Nat} (y : Nat) (h : sle p q) : sl p (q ++ [y]) := by
  have := sle_len h
  exact .inl (by rw [List.length_append]; show _ < _ + 1; omega)
theorem sl_snoc {p q : List Nat} (x y : Nat) (h : sl p q) : sl (p ++ [x]) (q ++ [y]) := by
  rcases h with h | ⟨h, h2⟩
  · exact .inl (by rw [List.length_append, List.length_append]; show _ + 1 < _ + 1; omega)
  · exact .inr ⟨by rw [List.length_append, List.length_append, h]; rfl, lex_snoc x y h h2⟩
theorem sl_last {x y : Nat} (p : List Nat) (h : x < y) : sl (p ++ [x]) (p ++ [y]) := .inr ⟨by rw [List.length_append, List.length_append]; rfl, lex_last h p⟩
theorem walk_last {nm : List (List Nat)} {f x : Nat} {w : List Nat} (h : Walk nm f w x) : w.getLast? = some x := by
  cases h with
  | one => rfl
  | snoc _ _ => simp
theorem walk_uniq {nm : List (List Nat)} {f x y : Nat} {w : List Nat} (h : Walk nm f w x) (h' : Walk nm f w y) : x = y := by
  have e := walk_last h
  rw [walk_last h'] at e
  exact (Option.some.inj e).symm
theorem walk_pos {nm : List (List Nat)} {f x : Nat} {w : List Nat} (h : Walk nm f w x) : 0 < w.length := by
  cases h with
  | one => exact Nat.one_pos
  | snoc _ _ => simp
/-- walks of a snoc -/
theorem walk_snoc {nm : List (List Nat)} {f x y : Nat} {w : List Nat} (h : Walk nm f (w ++ [y]) x) : x = y := by
  have e := walk_last h
  simp at e
  exact e.symm
/-! ### the search -/
structure BI (nm : List (List Nat)) (f : Nat) (D Q : List (List Nat)) (R : List Nat) : Prop where
  wk : ∀ p, p ∈ D ++ Q → ∃ x, x ∈ R ∧ Walk nm f p x
  st : (D ++ Q).Pairwise sl
  up : ∀ q, q ∈ Q → (D = [] ∧ q = [f]) ∨ ∃ d, d ∈ D ∧ ∃ x, q = d ++ [x]
  cl : ∀ d, d ∈ D → ∀ x, Walk nm f d x → ∀ y, y ∈ row nm x → y ≠ f ∧ ∃ q, q ∈ D ++ Q ∧ Walk nm f q y ∧ sle q (d ++ [y])
  rt : [f] ∈ D ++ Q
  rc : ∀ y, y ∈ R → ∃ q, q ∈ D ++ Q ∧ Walk nm f q y
  nd : R.Nodup
  ln : (D ++ Q).length = R.length
  dl : ∀ d, d ∈ D → d.length ≤ D.length
  ql : ∀ q, q ∈ Q → q.length ≤ D.length + 1
section
variable {nm : List (List Nat)} {f : Nat} {D Q : List (List Nat)} {R : List Nat}
theorem BI.start : BI nm f [] [[f]] [f] where
  wk := fun p h => by
    have e : p = [f] := by simpa using h
    subst e
    exact ⟨f, by simp, .one⟩
  st := by simp
  up := fun q h => .inl ⟨rfl, by simpa using h⟩
  cl := fun d h => by cases h
  rt := by simp
  rc := fun y h => by
    have e : y = f := by simpa using h
    subst e
    exact ⟨[y], by simp, .one⟩
  nd := by simp
  ln := rfl
  dl := fun d h => by cases h
  ql := fun q h => by
    have e : q = [f] := by simpa using h
    subst e
    exact Nat.le_refl _
theorem BI.min (I : BI nm f D Q R) {w : List Nat} {x : Nat} (h : Walk nm f w x) : (∃ q, q ∈ D ++ Q ∧ Walk nm f q x ∧ sle q w) ∨ ∃ q, q ∈ Q ∧ sl q w := by
  induction h with
  | one => exact .inl ⟨[f], I.rt, .one, .inl rfl⟩
  | @snoc w x y h hy ih =>
    rcases ih with ⟨q, hq, hw, hs⟩ | ⟨q, hq, hs⟩
    · rcases List.mem_append.mp hq with hd | hd
      · obtain ⟨_, q2, h2, hw2, hs2⟩ := I.cl q hd x hw y hy
        refine .inl ⟨q2, h2, hw2, sle_trans hs2 ?_⟩
        rcases hs with rfl | hs
        · exact .inl rfl
        · exact .inr (sl_snoc _ _ hs)
      · exact .inr ⟨q, hd, sl_grow y hs⟩
    · exact .inr ⟨q, hq, sl_grow y (.inr hs)⟩
theorem BI.none (I : BI nm f D [] R) (w : List Nat) : ¬ Ring nm f w := by
  rintro ⟨x, h, hf⟩
  rcases I.min h with ⟨q, hq, hw, _⟩ | ⟨q, hq, _⟩
  · rw [List.append_nil] at hq
    exact (I.cl q hq x hw f hf).1 rfl
  · cases hq
theorem BI.found {p : List Nat} {x : Nat} (I : BI nm f D (p :: Q) R) (hp : Walk nm f p x) (hf : f ∈ row nm x) : Ring nm f p ∧ ∀ w, Ring nm f w → sle p w := by
  refine ⟨⟨x, hp, hf⟩, ?_⟩
  rintro w ⟨y, h, hy⟩
  have le : ∀ q, q ∈ p :: Q → sle p q := by
    intro q hq
    have st : (p :: Q).Pairwise sl := (List.pairwise_append.mp I.st).2.1
    rcases List.mem_cons.mp hq with rfl | hq
    · exact .inl rfl
    · exact .inr ((List.pairwise_cons.mp st).1 q hq)
  rcases I.min h with ⟨q, hq, hw, hs⟩ | ⟨q, hq, hs⟩
  · rcases List.mem_append.mp hq with hd | hd
    · exact ((I.cl q hd y hw f hy).1 rfl).elim
    · exact sle_trans (le q hd) hs
  · exact .inr (sle_sl (le q hq) hs)
/-- one path's turn -/
structure BS (nm : List (List Nat)) (f : Nat) (D : List (List Nat)) (p : List Nat) (Q0 A : List (List Nat)) (R : List Nat) (seen : List Nat) : Prop where
  wk : ∀ q, q ∈ D ++ [p] ++ (Q0 ++ A) → ∃ x, x ∈ R ∧ Walk nm f q x
  st : (D ++ [p] ++ (Q0 ++ A)).Pairwise sl
  up : ∀ q, q ∈ Q0 → ∃ d, d ∈ D ∧ ∃ x, q = d ++ [x]
  na : ∀ q, q ∈ A → ∃ y, y ∈ seen ∧ q = p ++ [y]
  cl : ∀ d, d ∈ D → ∀ x, Walk nm f d x → ∀ y, y ∈ row nm x → y ≠ f ∧ ∃ q, q ∈ D ++ [p] ++ (Q0 ++ A) ∧ Walk nm f q y ∧ sle q (d ++ [y])
  ch : ∀ y, y ∈ seen → y ≠ f ∧ ∃ q, q ∈ D ++ [p] ++ (Q0 ++ A) ∧ Walk nm f q y ∧ sle q (p ++ [y])
  rt : [f] ∈ D ++ [p] ++ (Q0 ++ A)
  rc : ∀ y, y ∈ R → ∃ q, q ∈ D ++ [p] ++ (Q0 ++ A) ∧ Walk nm f q y
  nd : R.Nodup
  ln : (D ++ [p] ++ (Q0 ++ A)).length = R.length
  dl : ∀ d, d ∈ D → d.length ≤ D.length
  ql : ∀ q, q ∈ Q0 → q.length ≤ D.length + 1
  pl : p.length ≤ D.length + 1
theorem BI.open {p : List Nat} (I : BI nm f D (p :: Q) R) : BS nm f D p Q [] R [] where
  wk := by simpa using I.wk
  st := by simpa using I.st
  up := fun q hq => by
    rcases I.up q (List.mem_cons_of_mem _ hq) with ⟨rfl, rfl⟩ | h
    · have st : (p :: Q).Pairwise sl := I.st
      have h1 := (List.pairwise_cons.mp st).1 _ hq
      rcases I.up p List.mem_cons_self with ⟨_, rfl⟩ | ⟨d, hd, _⟩
      · exact (sl_irr h1).elim
      · cases hd
    · exact h
  na := fun q h => by cases h
  cl := by simpa using I.cl
  ch := fun y h => by cases h
  rt := by simpa using I.rt
  rc := by simpa using I.rc
  nd := I.nd
  ln := by simpa using I.ln
  dl := I.dl
  ql := fun q h => I.ql q (List.mem_cons_of_mem _ h)
  pl := I.ql p List.mem_cons_self
variable {p : List Nat} {A : List (List Nat)} {seen : List Nat}
theorem BS.lt (I : BS nm f D p Q A R seen) {y : Nat} (hs : ∀ z, z ∈ seen → z < y) : ∀ q, q ∈ D ++ [p] ++ (Q ++ A) → sl q (p ++ [y]) := by
  intro q hq
  have st := I.st
  rw [List.append_assoc] at st
  have hd : ∀ d, d ∈ D → sl d p := fun d hd => (List.pairwise_append.mp st).2.2 d hd p (by simp)
  rcases List.mem_append.mp hq with h | h
  · rcases List.mem_append.mp h with h | h
    · exact sl_grow y (.inr (hd q h))
    · have e : q = p := by simpa using h
      subst e
      exact sl_grow y (.inl rfl)
  · rcases List.mem_append.mp h with h | h
    · obtain ⟨d, h1, x, rfl⟩ := I.up q h
      exact sl_snoc _ _ (hd d h1)
    · obtain ⟨z, hz, rfl⟩ := I.na q h
      exact sl_last p (hs z hz)
theorem BS.old (I : BS nm f D p Q A R seen) {y : Nat} (hs : ∀ z, z ∈ seen → z < y) (hf : y ≠ f) (hy : y ∈ R) : BS nm f D p Q A R (seen ++ [y]) := by
  refine { I with na := fun q h => ?_, ch := fun z hz => ?_ }
  · obtain ⟨z, hz, e⟩ := I.na q h
    exact ⟨z, List.mem_append.mpr (.inl hz), e⟩
  · rcases List.mem_append.mp hz with hz | hz
    · exact I.ch z hz
    · have e : z = y := by simpa using hz
      subst e
      obtain ⟨q, hq, hw⟩ := I.rc z hy
      exact ⟨hf, q, hq, hw, .inr (I.lt hs q hq)⟩
theorem BS.new (I : BS nm f D p Q A R seen) {x y : Nat} (hp : Walk nm f p x) (hr : y ∈ row nm x) (hs : ∀ z, z ∈ seen → z < y) (hf : y ≠ f) (hy : y ∉ R) : BS nm f D p Q (A ++ [p ++ [y]]) (R ++ [y]) (seen ++ [y]) := by
  have wn : Walk nm f (p ++ [y]) y := .snoc hp hr
  have ea : D ++ [p] ++ (Q ++ (A ++ [p ++ [y]])) = (D ++ [p] ++ (Q ++ A)) ++ [p ++ [y]] := by simp
  refine ⟨fun q hq => ?_, ?_, I.up, fun q h => ?_, fun d hd z hz u hu => ?_, fun z hz => ?_, ?_, fun z hz => ?_, ?_, ?_, I.dl, I.ql, I.pl⟩
  · rw [ea] at hq
    rcases List.mem_append.mp hq with h | h
    · obtain ⟨z, hz, hw⟩ := I.wk q h
      exact ⟨z, List.mem_append.mpr (.inl hz), hw⟩
    · have e : q = p ++ [y] := by simpa using h
      subst e
      exact ⟨y, by simp, wn⟩
  · rw [ea, List.pairwise_append]
    refine ⟨I.st, by simp, fun q hq r hr => ?_⟩
    have e : r = p ++ [y] := by simpa using hr
    subst e
    exact I.lt hs q hq
  · rcases List.mem_append.mp h with h | h
    · obtain ⟨z, hz, e⟩ := I.na q h
      exact ⟨z, List.mem_append.mpr (.inl hz), e⟩
    · exact ⟨y, by simp, by simpa using h⟩
  · obtain ⟨h1, q, hq, h2⟩ := I.cl d hd z hz u hu
    exact ⟨h1, q, by rw [ea]; exact List.mem_append.mpr (.inl hq), h2⟩
  · rcases List.mem_append.mp hz with hz | hz
    · obtain ⟨h1, q, hq, h2⟩ := I.ch z hz
      exact ⟨h1, q, by rw [ea]; exact List.mem_append.mpr (.inl hq), h2⟩
    · have e : z = y := by simpa using hz
      subst e
      exact ⟨hf, p ++ [z], by simp, wn, .inl rfl⟩
  · rw [ea]; exact List.mem_append.mpr (.inl I.rt)
  · rcases List.mem_append.mp hz with hz | hz
    · obtain ⟨q, hq, h2⟩ := I.rc z hz
      exact ⟨q, by rw [ea]; exact List.mem_append.mpr (.inl hq), h2⟩
    · have e : z = y := by simpa using hz
      subst e
      exact ⟨p ++ [z], by simp, wn⟩
  · rw [List.nodup_append]
    refine ⟨I.nd, by simp, fun a ha b hb => ?_⟩
    have e : b = y := by simpa using hb
    subst e
    rintro rfl
    exact hy ha
  · rw [ea, List.length_append, I.ln, List.length_append]
    rfl
theorem BS.close (I : BS nm f D p Q A R seen) {x : Nat} (hp : Walk nm f p x) (hs : ∀ y, y ∈ row nm x → y ∈ seen) : BI nm f (D ++ [p]) (Q ++ A) R := by
  refine ⟨I.wk, I.st, fun q hq => ?_, fun d hd z hz y hy => ?_, I.rt, I.rc, I.nd, I.ln, fun d hd => ?_, fun q hq => ?_⟩
  · rcases List.mem_append.mp hq with h | h
    · obtain ⟨d, h1, h2⟩ := I.up q h
      exact .inr ⟨d, List.mem_append.mpr (.inl h1), h2⟩
    · obtain ⟨y, _, e⟩ := I.na q h
      exact .inr ⟨p, by simp, y, e⟩
  · rcases List.mem_append.mp hd with h | h
    · exact I.cl d h z hz y hy
    · have e : d = p := by simpa using h
      subst e
      have e2 := walk_uniq hz hp
      subst e2
      exact I.ch y (hs y hy)
  · rw [List.length_append]
    rcases List.mem_append.mp hd with h | h
    · have := I.dl d h
      show _ ≤ _ + 1
      omega
    · have e : d = p := by simpa using h
      subst e
      exact I.pl
  · rw [List.length_append]
    show _ ≤ _ + 1 + 1
    rcases List.mem_append.mp hq with h | h
    · have := I.ql q h
      omega
    · obtain ⟨y, _, rfl⟩ := I.na q h
      have := I.pl
      rw [List.length_append]
      show _ + 1 ≤ _
      omega
end
theorem nodup_lt : ∀ {n : Nat} {l : List Nat}, l.Nodup → (∀ x, x ∈ l → x < n) → l.length ≤ n
  | 0, l, _, h => by
    cases l with
    | nil => exact Nat.le_refl _
    | cons a l => exact (Nat.not_lt_zero _ (h a List.mem_cons_self)).elim
  | n + 1, l, hd, h => by
    have h1 : (l.erase n).length ≤ n := nodup_lt (hd.erase n) fun x hx => by
      have := (List.Nodup.mem_erase_iff hd).mp hx
      have := h x this.2
      omega
    have h2 : l.length ≤ (l.erase n).length + 1 := by
      rw [List.length_erase]
      split <;> omega
    omega
/-- the least ring of a line, [] where none is -/
def Least (nm : List (List Nat)) (f : Nat) (r : List Nat) : Prop := Ring nm f r ∧ ∀ w, Ring nm f w → sle r w
def IsBst (nm : List (List Nat)) (f : Nat) (r : List Nat) : Prop := (r = [] ∧ ∀ w, ¬ Ring nm f w) ∨ Least nm f r
theorem ring_ne {nm : List (List Nat)} {f : Nat} {r : List Nat} (h : Ring nm f r) : r ≠ [] := by
  obtain ⟨x, h, _⟩ := h
  have := walk_pos h
  rintro rfl
  exact Nat.lt_irrefl _ this
theorem bst_uniq {nm : List (List Nat)} {f : Nat} {r s : List Nat} (a : IsBst nm f r) (b : IsBst nm f s) : r = s := by
  rcases a with ⟨rfl, a⟩ | ⟨a, a'⟩
  · rcases b with ⟨rfl, _⟩ | ⟨b, _⟩
    · rfl
    · exact (a _ b).elim
  · rcases b with ⟨rfl, b⟩ | ⟨b, b'⟩
    · exact (b _ a).elim
    · exact sle_anti (a' s b) (b' r a)
/-- the best so far and one more -/
def better (acc r : List Nat) : List Nat := if r ≠ [] ∧ (acc = [] ∨ r.length < acc.length) then r else acc
inductive Best (nm : List (List Nat)) : Nat → List Nat → Prop
  | zero : Best nm 0 []
  | succ {i : Nat} {acc r : List Nat} : Best nm i acc → IsBst nm i r → Best nm (i + 1) (better acc r)
theorem best_uniq {nm : List (List Nat)} : ∀ {i : Nat} {a b : List Nat}, Best nm i a → Best nm i b → a = b
  | 0, _, _, .zero, .zero => rfl
  | _ + 1, _, _, .succ h r, .succ h' r' => by rw [best_uniq h h', bst_uniq r r']
theorem best_ring {nm : List (List Nat)} : ∀ {i : Nat} {a : List Nat}, Best nm i a → a = [] ∨ ∃ f, Ring nm f a
  | 0, _, .zero => .inl rfl
  | i + 1, _, .succ (acc := acc) (r := r) h r' => by
    unfold better
    split
    · rename_i hh
      rcases r' with ⟨rfl, _⟩ | ⟨r', _⟩
      · exact (hh.1 rfl).elim
      · exact .inr ⟨_, r'⟩
    · exact best_ring h
/-! ### the law's own: ways back -/
def Way (nm : List (List Nat)) (f : Nat) : Nat → Nat → Prop
  | 0, k => k = f
  | j + 1, k => ∃ x, x ∈ row nm k ∧ Way nm f j x
def Dist (nm : List (List Nat)) (f k j : Nat) : Prop := 1 ≤ j ∧ Way nm f j k ∧ ∀ i, 1 ≤ i → i < j → ¬ Way nm f i k
section
variable {nm : List (List Nat)} {f : Nat}
theorem dist_uniq {k i j : Nat} (a : Dist nm f k i) (b : Dist nm f k j) : i = j := by
  rcases Nat.lt_trichotomy i j with h | h | h
  · exact (b.2.2 i a.1 h a.2.1).elim
  · exact h
  · exact (a.2.2 j b.1 h b.2.1).elim
theorem way_dist {k : Nat} : ∀ {i : Nat}, 1 ≤ i → Way nm f i k → ∃ j, j ≤ i ∧ Dist nm f k j := by
  intro i
  induction i using Nat.strongRecOn with
  | _ i ih =>
    intro h1 h
    by_cases e : ∃ j, 1 ≤ j ∧ j < i ∧ Way nm f j k
    · obtain ⟨j, a, b, c⟩ := e
      obtain ⟨m, hm, d⟩ := ih j b a c
      exact ⟨m, by omega, d⟩
    · exact ⟨i, Nat.le_refl _, h1, h, fun j a b c => e ⟨j, a, b, c⟩⟩
/-- the line next on a shortest way -/
theorem dist_next {k j : Nat} (h : Dist nm f k (j + 1)) {x : Nat} (hx : x ∈ row nm k) (hw : Way nm f j x) (h1 : 1 ≤ j) : Dist nm f x j :=
  ⟨h1, hw, fun i a b c => h.2.2 (i + 1) (by omega) (by omega) ⟨x, hx, c⟩⟩
theorem dist_row {k j : Nat} (h : Dist nm f k (j + 1)) (h1 : 1 ≤ j) : ∃ x, x ∈ row nm k ∧ Dist nm f x j := by
  obtain ⟨x, hx, hw⟩ := h.2.1
  exact ⟨x, hx, dist_next h hx hw h1⟩
theorem row_lt {k x : Nat} (h : x ∈ row nm k) : k < nm.length := by
  by_cases e : k < nm.length
  · exact e
  · unfold row at h
    rw [List.getElem?_eq_none (by omega)] at h
    cases h
theorem dist_list : ∀ {j k : Nat}, Dist nm f k j → ∃ l : List Nat, l.length = j ∧ l.Nodup ∧ ∀ x, x ∈ l → x < nm.length ∧ ∃ i, i ≤ j ∧ Dist nm f x i
  | 0, k, h => by have := h.1; omega
  | 1, k, h => by
    obtain ⟨x, hx, _⟩ := h.2.1
    refine ⟨[k], rfl, by simp, fun y hy => ?_⟩
    have e : y = k := by simpa using hy
    subst e
    exact ⟨row_lt hx, 1, Nat.le_refl _, h⟩
  | j + 2, k, h => by
    obtain ⟨x, hx, hd⟩ := dist_row h (by omega)
    obtain ⟨l, hl, hn, hm⟩ := dist_list hd
    refine ⟨k :: l, by rw [List.length_cons, hl], List.nodup_cons.mpr ⟨fun z => ?_, hn⟩, fun y hy => ?_⟩
    · obtain ⟨_, i, hi, d⟩ := hm k z
      have := dist_uniq d h
      omega
    · rcases List.mem_cons.mp hy with rfl | hy
      · exact ⟨row_lt hx, j + 2, Nat.le_refl _, h⟩
      · obtain ⟨a, i, hi, d⟩ := hm y hy
        exact ⟨a, i, by omega, d⟩
theorem dist_le {j k : Nat} (h : Dist nm f k j) : j ≤ nm.length := by
  obtain ⟨l, hl, hn, hm⟩ := dist_list h
  rw [← hl]
  exact nodup_lt hn fun x hx => (hm x hx).1
theorem walk_way {w : List Nat} {x : Nat} (h : Walk nm f w x) : ∀ {j : Nat}, Way nm f j x → Way nm f (w.length - 1 + j) f := by
  induction h with
  | one => intro j hj; simpa using hj
  | @snoc w x y h hy ih =>
    intro j hj
    have := ih (j := j + 1) ⟨y, hy, hj⟩
    have hp := walk_pos h
    rw [List.length_append]
    show Way nm f (w.length + 1 - 1 + j) f
    rw [show w.length + 1 - 1 + j = w.length - 1 + (j + 1) by omega]
    exact this
theorem ring_way {w : List Nat} (h : Ring nm f w) : Way nm f w.length f := by
  obtain ⟨x, h, hf⟩ := h
  have := walk_way h (j := 1) ⟨f, hf, rfl⟩
  have hp := walk_pos h
  rw [show w.length - 1 + 1 = w.length by omega] at this
  exact this
/-- the ways from a walk's places -/
theorem walk_take {w : List Nat} {x : Nat} (h : Walk nm f w x) : ∀ {m : Nat}, 1 ≤ m → m ≤ w.length → ∃ y, Walk nm f (w.take m) y ∧ ∀ {j : Nat}, Way nm f j x → Way nm f (w.length - m + j) y := by
  induction h with
  | one =>
    intro m h1 h2
    have e : m = 1 := by simp at h2; omega
    subst e
    exact ⟨f, .one, fun hj => by simpa using hj⟩
  | @snoc w x y h hy ih =>
    intro m h1 h2
    rw [List.length_append] at h2
    have h2 : m ≤ w.length + 1 := h2
    by_cases e : m = w.length + 1
    · subst e
      refine ⟨y, ?_, fun hj => ?_⟩
      · rw [show w.length + 1 = (w ++ [y]).length by rw [List.length_append]; rfl, List.take_length]
        exact .snoc h hy
      · rw [List.length_append]
        show Way nm f (w.length + 1 - (w.length + 1) + _) y
        rw [Nat.sub_self, Nat.zero_add]
        exact hj
    · obtain ⟨z, hz, hz2⟩ := ih h1 (by omega)
      refine ⟨z, ?_, fun {j} hj => ?_⟩
      · rw [List.take_append_of_le_length (by omega)]
        exact hz
      · have := hz2 (j := j + 1) ⟨y, hy, hj⟩
        rw [List.length_append]
        show Way nm f (w.length + 1 - m + j) z
        rw [show w.length + 1 - m + j = w.length - m + (j + 1) by omega]
        exact this
/-- the law's choice of the next line: the greedy list, so far -/
structure Greedy (nm : List (List Nat)) (f L t : Nat) (g : List Nat) : Prop where
  ln : g.length = t + 1
  tl : t < L
  wk : ∃ x, Walk nm f g x ∧ Dist nm f x (L - t)
  le : ∀ w, Ring nm f w → w.length = L → g = w.take (t + 1) ∨ lexLt g (w.take (t + 1))
theorem greedy_start {L : Nat} (h : Dist nm f f L) : Greedy nm f L 0 [f] := by
  refine ⟨rfl, h.1, ⟨f, .one, h⟩, fun w ⟨x, hw, _⟩ e => .inl ?_⟩
  have h1 := h.1
  obtain ⟨y, hy, _⟩ := walk_take hw (m := 1) (Nat.le_refl _) (by omega)
  show [f] = w.take 1
  generalize ev : w.take 1 = v at hy ⊢
  have hl : v.length ≤ 1 := by rw [← ev, List.length_take]; omega
  cases hy with
  | one => rfl
  | @snoc w' x y h _ =>
    have := walk_pos h
    rw [List.length_append] at hl
    have : w'.length + 1 ≤ 1 := hl
    omega
theorem take_snoc {w : List Nat} {m : Nat} (h : m < w.length) : w.take (m + 1) = w.take m ++ [w[m]] := by
  rw [List.take_add_one, List.getElem?_eq_getElem h]; rfl
theorem greedy_step {L t : Nat} {g : List Nat} {x y : Nat} (I : Greedy nm f L t g) (hx : Walk nm f g x) (h1 : t + 1 < L) (hy : y ∈ row nm x) (hd : Dist nm f y (L - t - 1)) (hm : ∀ z, z ∈ row nm x → Dist nm f z (L - t - 1) → y ≤ z) : Greedy nm f L (t + 1) (g ++ [y]) := by
  refine ⟨by rw [List.length_append, I.ln]; rfl, h1, ⟨y, .snoc hx hy, hd⟩, fun w hw e => ?_⟩
  have hlt : t + 1 < w.length := by omega
  rw [take_snoc hlt]
  rcases I.le w hw e with h | h
  · obtain ⟨u, hu, huf⟩ := hw
    obtain ⟨z, hz, hzw⟩ := walk_take hu (m := t + 2) (by omega) (by omega)
    rw [take_snoc hlt, ← h] at hz
    have ez := walk_snoc hz
    subst ez
    have hzr : w[t + 1] ∈ row nm x := by
      generalize w[t + 1] = c at hz ⊢
      generalize ea : g ++ [c] = a at hz
      cases hz with
      | one =>
        have := congrArg List.length ea
        rw [List.length_append, I.ln] at this
        have : t + 1 + 1 = 1 := this
        omega
      | @snoc w' x' y' h' hy' =>
        have e1 := List.append_inj' ea rfl
        have e2 := e1.1
        subst e2
        rw [walk_uniq hx h']
        exact hy'
    have hzw1 := hzw (j := 1) ⟨f, huf, rfl⟩
    obtain ⟨x', hx', hdx⟩ := I.wk
    have ex := walk_uniq hx' hx
    subst ex
    have hdz : Dist nm f w[t + 1] (L - t - 1) := by
      rw [show L - t = (L - t - 1) + 1 by omega] at hdx
      refine dist_next hdx hzr ?_ (by omega)
      rw [show L - t - 1 = w.length - (t + 2) + 1 by omega]
      exact hzw1
    have hle := hm _ hzr hdz
    by_cases eq : y = w[t + 1]
    · exact .inl (by rw [← h, eq])
    · exact .inr (by rw [← h]; exact lex_last (by omega) g)
  · exact .inr (lex_snoc _ _ (by rw [I.ln, List.length_take]; omega) h)
theorem greedy_end {L : Nat} {g : List Nat} (hL : Dist nm f f L) (I : Greedy nm f L (L - 1) g) : Least nm f g := by
  have h1 := hL.1
  have hl : g.length = L := by rw [I.ln]; omega
  obtain ⟨x, hx, hd⟩ := I.wk
  rw [show L - (L - 1) = 1 by omega] at hd
  obtain ⟨y, hy, hy0⟩ := hd.2.1
  have hf : f ∈ row nm x := by rw [← (show y = f from hy0)]; exact hy
  refine ⟨⟨x, hx, hf⟩, fun w hw => ?_⟩
  have hwl : L ≤ w.length := by
    obtain ⟨u, hu, _⟩ := id hw
    have hp := walk_pos hu
    by_cases e : w.length < L
    · exact (hL.2.2 _ hp e (ring_way hw)).elim
    · omega
  by_cases e : w.length = L
  · rcases I.le w hw e with h | h
    · rw [show L - 1 + 1 = w.length by omega, List.take_length] at h
      exact .inl h
    · rw [show L - 1 + 1 = w.length by omega, List.take_length] at h
      exact .inr (.inr ⟨by omega, h⟩)
  · exact .inr (.inl (by omega))
theorem no_ring (h : ∀ j, ¬ Dist nm f f j) (w : List Nat) : ¬ Ring nm f w := by
  intro hw
  obtain ⟨u, hu, _⟩ := id hw
  obtain ⟨j, _, d⟩ := way_dist (walk_pos hu) (ring_way hw)
  exact h j d
/-- the law's search back: all lines within so many steps -/
theorem back_step {k long : Nat} (hn : ∀ j, j ≤ long → ¬ Dist nm f k j) : Dist nm f k (long + 1) ↔ ∃ x, x ∈ row nm k ∧ ((long = 0 ∧ x = f) ∨ (1 ≤ long ∧ Dist nm f x long)) := by
  constructor
  · intro h
    obtain ⟨x, hx, hw⟩ := h.2.1
    by_cases e : long = 0
    · subst e
      exact ⟨x, hx, .inl ⟨rfl, hw⟩⟩
    · exact ⟨x, hx, .inr ⟨by omega, dist_next h hx hw (by omega)⟩⟩
  · rintro ⟨x, hx, h⟩
    have hw : Way nm f (long + 1) k := by
      refine ⟨x, hx, ?_⟩
      rcases h with ⟨rfl, rfl⟩ | ⟨_, h⟩
      · rfl
      · exact h.2.1
    refine ⟨by omega, hw, fun i a b c => ?_⟩
    obtain ⟨j, hj, d⟩ := way_dist a c
    exact hn j (by omega) d
end
theorem least_nat {P : Nat → Prop} : ∀ {y : Nat}, P y → ∃ z, P z ∧ ∀ u, P u → z ≤ u := by
  intro y
  induction y using Nat.strongRecOn with
  | _ y ih =>
    intro h
    by_cases e : ∃ u, u < y ∧ P u
    · obtain ⟨u, a, b⟩ := e
      exact ih u a b
    · refine ⟨y, h, fun u hu => ?_⟩
      by_cases e2 : y ≤ u
      · exact e2
      · exact (e ⟨u, by omega, hu⟩).elim
section
variable {nm : List (List Nat)} {f : Nat}
theorem greedy_all {L : Nat} (h : Dist nm f f L) : ∀ t, t < L → ∃ g, Greedy nm f L t g
  | 0, _ => ⟨[f], greedy_start h⟩
  | t + 1, ht => by
    obtain ⟨g, I⟩ := greedy_all h t (by omega)
    obtain ⟨x, hx, hd⟩ := I.wk
    rw [show L - t = (L - t - 1) + 1 by omega] at hd
    obtain ⟨y, hy, hdy⟩ := dist_row hd (by omega)
    obtain ⟨z, ⟨hz, hdz⟩, hm⟩ := least_nat (P := fun y => y ∈ row nm x ∧ Dist nm f y (L - t - 1)) ⟨hy, hdy⟩
    exact ⟨_, greedy_step I hx ht hz hdz fun u a b => hm u ⟨a, b⟩⟩
theorem least_of {L : Nat} (h : Dist nm f f L) : ∃ r, Least nm f r ∧ r.length = L := by
  have := h.1
  obtain ⟨g, I⟩ := greedy_all h (L - 1) (by omega)
  exact ⟨g, greedy_end h I, by rw [I.ln]; omega⟩
theorem walk_next {w : List Nat} {x : Nat} (h : Walk nm f w x) : w[0]? = some f ∧ ∀ i, i + 1 < w.length → ∃ a b, w[i]? = some a ∧ w[i + 1]? = some b ∧ b ∈ row nm a := by
  induction h with
  | one => exact ⟨rfl, fun i hi => absurd hi (by simp)⟩
  | @snoc w x y h hy ih =>
    have hp := walk_pos h
    refine ⟨by rw [List.getElem?_append_left hp]; exact ih.1, fun i hi => ?_⟩
    rw [List.length_append] at hi
    have hi : i + 1 < w.length + 1 := hi
    by_cases e : i + 1 < w.length
    · obtain ⟨a, b, h1, h2, h3⟩ := ih.2 i e
      exact ⟨a, b, by rw [List.getElem?_append_left (by omega)]; exact h1, by rw [List.getElem?_append_left (by omega)]; exact h2, h3⟩
    · have e : i + 1 = w.length := by omega
      refine ⟨x, y, ?_, by rw [List.getElem?_append_right (by omega), e, Nat.sub_self]; rfl, hy⟩
      rw [List.getElem?_append_left (by omega)]
      have := walk_last h
      rw [List.getLast?_eq_getElem?, show w.length - 1 = i by omega] at this
      exact this
theorem ring_next {w : List Nat} (h : Ring nm f w) {i : Nat} (hi : i < w.length) : ∃ a b, w[i]? = some a ∧ w[(i + 1) % w.length]? = some b ∧ b ∈ row nm a := by
  obtain ⟨x, h, hf⟩ := h
  obtain ⟨h0, hn⟩ := walk_next h
  by_cases e : i + 1 < w.length
  · rw [Nat.mod_eq_of_lt e]
    exact hn i e
  · have e : i + 1 = w.length := by omega
    rw [e, Nat.mod_self]
    refine ⟨x, f, ?_, h0, hf⟩
    have := walk_last h
    rw [List.getLast?_eq_getElem?, show w.length - 1 = i by omega] at this
    exact this
end
theorem least_len {nm : List (List Nat)} {f : Nat} {r : List Nat} (h : Least nm f r) : r.length ≤ nm.length := by
  obtain ⟨x, hw, _⟩ := id h.1
  obtain ⟨j, _, d⟩ := way_dist (walk_pos hw) (ring_way h.1)
  obtain ⟨r', h', l'⟩ := least_of d
  rw [bst_uniq (.inr h) (.inr h'), l']
  exact dist_le d
theorem best_len {nm : List (List Nat)} : ∀ {i : Nat} {a : List Nat}, Best nm i a → a.length ≤ nm.length
  | 0, _, .zero => Nat.zero_le _
  | i + 1, _, .succ h r' => by
    unfold better
    split
    · rcases r' with ⟨rfl, _⟩ | r'
      · exact Nat.zero_le _
      · exact least_len r'
    · exact best_len h
end Qg
open PySem PySem.Spec PyProof.Rows L2 Qa Qr
/-! whole numbers in lists; which lines each rule names -/
namespace Qg
abbrev iv (n : Nat) : V := .int (n : Int)
abbrev ik (n : Nat) : Key := .inl (n : Int)
def rowK (n : Nat) (ks : List Key) : List Nat := (List.range n).filter fun i => memK (ik i) ks
def nmOf (ts : List T) : List (List Nat) := ts.map fun t => rowK ts.length (beh "line" 8 t)
theorem iv_key (l : List Nat) : (l.map ik).map kV = l.map iv := by rw [List.map_map]; rfl
theorem iv_int (l : List Nat) : (l.map fun n : Nat => (n : Int)).map V.int = l.map iv := by rw [List.map_map]; rfl
theorem mem_rowK {n : Nat} {ks : List Key} {i : Nat} : i ∈ rowK n ks ↔ i < n ∧ ik i ∈ ks := by
  unfold rowK
  rw [List.mem_filter, List.mem_range, memK_iff]
theorem rowK_sorted (n : Nat) (ks : List Key) : (rowK n ks).Pairwise (· < ·) := List.Pairwise.filter _ List.pairwise_lt_range
def placeK (n : Nat) : Key → Bool
  | .inl i => decide (0 ≤ i) && decide (i < n)
  | .inr _ => false
theorem srt_filter {p : Key → Bool} : ∀ {ls : List Key}, srt ls → srt (ls.filter p) := by
  intro ls h
  rcases h with ⟨ns, rfl, h⟩ | ⟨xs, rfl, h⟩
  · refine .inl ⟨ns.filter (p ∘ Sum.inl), List.filter_map, h.filter _⟩
  · have hs : (xs.map (Sum.inr : Str → Key)).filter p = (xs.filter (p ∘ Sum.inr)).map Sum.inr := List.filter_map
    rw [hs]
    have hp := pw_sorted h
    refine .inr ⟨_, rfl, ?_⟩
    have : ∀ l : List Str, l.Pairwise leS → sortedS l = true := by
      intro l
      cases l with
      | nil => intro _; rfl
      | cons x r =>
        intro h
        show risingS x r = true
        induction r generalizing x with
        | nil => rfl
        | cons y r ih =>
          have h1 := List.pairwise_cons.mp h
          show (!ltCps y.cps.toList x.cps.toList && risingS y r) = true
          rw [show ltCps y.cps.toList x.cps.toList = false from h1.1 y List.mem_cons_self, ih y h1.2]
          rfl
    exact this _ (hp.filter _)
theorem keysOf_filter {p : Key → Bool} {ks ls : List Key} (h : keysOf ks ls) : keysOf (ks.filter p) (ls.filter p) :=
  ⟨srt_filter h.1, h.2.1.filter _, fun k => by rw [List.mem_filter, List.mem_filter, h.2.2]⟩
theorem keysOf_row {n : Nat} {ks : List Key} : keysOf (ks.filter (placeK n)) ((rowK n ks).map ik) := by
  refine ⟨.inl ⟨(rowK n ks).map fun i : Nat => (i : Int), by rw [List.map_map]; rfl, ?_⟩, ?_, fun k => ?_⟩
  · rw [List.pairwise_map]
    exact (rowK_sorted n ks).imp fun h => by omega
  · rw [List.Nodup, List.pairwise_map]
    exact (rowK_sorted n ks).imp fun h e => by
      have := Sum.inl.inj e
      omega
  · rw [List.mem_map, List.mem_filter]
    constructor
    · rintro ⟨i, hi, rfl⟩
      obtain ⟨h1, h2⟩ := mem_rowK.mp hi
      exact ⟨h2, by show (decide ((0 : Int) ≤ (i : Int)) && decide ((i : Int) < n)) = true; simp; omega⟩
    · rintro ⟨h1, h2⟩
      cases k with
      | inr x => cases h2
      | inl i =>
        have h2 : (decide (0 ≤ i) && decide (i < n)) = true := h2
        rw [Bool.and_eq_true, decide_eq_true_iff, decide_eq_true_iff] at h2
        have e : ik i.toNat = .inl i := by show Sum.inl _ = Sum.inl _; rw [Int.toNat_of_nonneg h2.1]
        exact ⟨i.toNat, mem_rowK.mpr ⟨by omega, by rw [e]; exact h1⟩, e⟩
theorem places_row {n : Nat} {ks ls : List Key} (h : keysOf ks ls) : ls.filter (placeK n) = (rowK n ks).map ik := keysOf_uniq (keysOf_filter h) keysOf_row
/-- all in their places -/
theorem places_all {n : Nat} {ks ls : List Key} (h : keysOf ks ls) (hp : ∀ k ∈ ks, placeK n k = true) : ls = (rowK n ks).map ik := by
  rw [← places_row h, List.filter_eq_self.mpr fun k hk => hp k ((h.2.2 k).mp hk)]
structure Rows (nm : List (List Nat)) : Prop where
  lt : ∀ r, r ∈ nm → ∀ x, x ∈ r → x < nm.length
  up : ∀ r, r ∈ nm → r.Pairwise (· < ·)
theorem rows_nmOf (ts : List T) : Rows (nmOf ts) := by
  constructor
  · intro r hr x hx
    obtain ⟨t, _, rfl⟩ := List.mem_map.mp hr
    rw [nmOf, List.length_map]
    exact (mem_rowK.mp hx).1
  · intro r hr
    obtain ⟨t, _, rfl⟩ := List.mem_map.mp hr
    exact rowK_sorted _ _
theorem nmOf_len (ts : List T) : (nmOf ts).length = ts.length := by rw [nmOf, List.length_map]
theorem Rows.at {nm : List (List Nat)} (h : Rows nm) (x : Nat) : (∀ y, y ∈ row nm x → y < nm.length) ∧ (row nm x).Pairwise (· < ·) := by
  unfold row
  cases e : nm[x]? with
  | none => exact ⟨by simp, by simp⟩
  | some r => exact ⟨h.lt r (List.mem_of_getElem? e), h.up r (List.mem_of_getElem? e)⟩
/-- at an address a list of lists of numbers -/
def NmAt (H : Hp) (l : Addr) (nm : List (List Nat)) : Prop := ∃ as : List Addr, H l = some (.lst (as.map V.ref)) ∧ as.length = nm.length ∧ ∀ (i : Nat) (r : List Nat), nm[i]? = some r → ∃ a, as[i]? = some a ∧ H a = some (.lst (r.map iv))
theorem NmAt.ex {H H' : Hp} {l : Addr} {nm : List (List Nat)} (h : NmAt H l nm) (e : Ex H H') : NmAt H' l nm := by
  obtain ⟨as, h1, h2, h3⟩ := h
  refine ⟨as, e _ _ h1, h2, fun i r hr => ?_⟩
  obtain ⟨a, h4, h5⟩ := h3 i r hr
  exact ⟨a, h4, e _ _ h5⟩
/-- the paths that wait -/
inductive Pths (H H' : Hp) (pl : Addr) : List Addr → List (List Nat) → Prop
  | nil : Pths H H' pl [] []
  | cons {a : Addr} {q : List Nat} {as : List Addr} {qs : List (List Nat)} : H a = none → a ≠ pl → H' a = some (.lst (q.map iv)) → Pths H H' pl as qs → Pths H H' pl (a :: as) (q :: qs)
theorem Pths.mv {H H1 H2 : Hp} {pl : Addr} (e : ∀ a xs, a ≠ pl → H1 a = some (.lst xs) → H2 a = some (.lst xs)) : ∀ {as : List Addr} {qs : List (List Nat)}, Pths H H1 pl as qs → Pths H H2 pl as qs
  | _, _, .nil => .nil
  | _, _, .cons h1 h2 h3 h => .cons h1 h2 (e _ _ h2 h3) (h.mv e)
theorem Pths.snoc {H H' : Hp} {pl a : Addr} {q : List Nat} (h1 : H a = none) (h2 : a ≠ pl) (h3 : H' a = some (.lst (q.map iv))) : ∀ {as : List Addr} {qs : List (List Nat)}, Pths H H' pl as qs → Pths H H' pl (as ++ [a]) (qs ++ [q])
  | _, _, .nil => .cons h1 h2 h3 .nil
  | _, _, .cons g1 g2 g3 h => .cons g1 g2 g3 (h.snoc h1 h2 h3)
theorem Pths.len {H H' : Hp} {pl : Addr} : ∀ {as : List Addr} {qs : List (List Nat)}, Pths H H' pl as qs → as.length = qs.length
  | _, _, .nil => rfl
  | _, _, .cons _ _ _ h => congrArg (· + 1) h.len
/-- a dict whose keys are these numbers -/
def KsAt (kvs : List (Key × V)) (R : List Nat) : Prop := kvs.length = R.length ∧ ∀ y : Nat, (valV kvs (ik y)).isSome = decide (y ∈ R)
theorem KsAt.snoc {kvs : List (Key × V)} {R : List Nat} {y : Nat} {v : V} (h : KsAt kvs R) (hy : y ∉ R) : KsAt (putK kvs (ik y) v) (R ++ [y]) := by
  have hn : valV kvs (ik y) = none := by
    have := h.2 y
    rw [decide_eq_false hy] at this
    exact Option.isNone_iff_eq_none.mp (by cases e : valV kvs (ik y) with | none => rfl | some _ => rw [e] at this; cases this)
  have ep : putK kvs (ik y) v = kvs ++ [(ik y, v)] := by
    unfold putK
    rw [valV_any, hn]
    rfl
  rw [ep]
  refine ⟨by rw [List.length_append, List.length_append, h.1]; rfl, fun z => ?_⟩
  rw [valV_snoc _ _ _ _ hn]
  by_cases e : z = y
  · subst e
    rw [if_pos rfl]
    simp
  · rw [if_neg (fun c => e (by have := Sum.inl.inj c; omega)), h.2 z]
    simp [e]
theorem nodup_sub {α : Type} : ∀ {l m : List α}, l.Nodup → (∀ x, x ∈ l → x ∈ m) → l.length ≤ m.length
  | [], _, _, _ => Nat.zero_le _
  | a :: l, m, hd, h => by
    obtain ⟨s, t, rfl⟩ := List.append_of_mem (h a List.mem_cons_self)
    have hd' := List.nodup_cons.mp hd
    have := nodup_sub (m := s ++ t) hd'.2 fun x hx => by
      rcases List.mem_append.mp (h x (List.mem_cons_of_mem _ hx)) with z | z
      · exact List.mem_append.mpr (.inl z)
      · rcases List.mem_cons.mp z with rfl | z
        · exact (hd'.1 hx).elim
        · exact List.mem_append.mpr (.inr z)
    rw [List.length_append] at this ⊢
    show l.length + 1 ≤ s.length + (t.length + 1)
    omega
theorem keysOf_len {ks ls : List Key} (h : keysOf ks ls) : ls.length ≤ ks.length := nodup_sub h.2.1 fun k hk => (h.2.2 k).mp hk
theorem walk_split {nm : List (List Nat)} {f x : Nat} {w : List Nat} (h : Walk nm f w x) : ∃ v, w = v ++ [x] := by
  cases h with
  | one => exact ⟨[], rfl⟩
  | snoc _ _ => exact ⟨_, rfl⟩
theorem free_of {H H' : Hp} {p : Addr} (e : Ex H H') (h : H' p = none) : H p = none := by
  cases q : H p with
  | none => rfl
  | some o => rw [e p o q] at h; cases h
/-! which lines lead back, and in how many steps -/
def WaysAt (nm : List (List Nat)) (f : Nat) (B : Nat → Nat) (kvs : List (Key × V)) : Prop :=
  ∀ k, (∃ j, j ≤ B k ∧ Dist nm f k j ∧ valV kvs (ik k) = some (iv j)) ∨ ((∀ j, j ≤ B k → ¬ Dist nm f k j) ∧ valV kvs (ik k) = none)
def Ways (nm : List (List Nat)) (f : Nat) (kvs : List (Key × V)) : Prop :=
  ∀ k, (∃ j, Dist nm f k j ∧ valV kvs (ik k) = some (iv j)) ∨ ((∀ j, ¬ Dist nm f k j) ∧ valV kvs (ik k) = none)
theorem ways_end {nm : List (List Nat)} {f : Nat} {kvs : List (Key × V)} (h : WaysAt nm f (fun _ => nm.length) kvs) : Ways nm f kvs := by
  intro k
  rcases h k with ⟨j, _, d, e⟩ | ⟨h, e⟩
  · exact .inl ⟨j, d, e⟩
  · exact .inr ⟨fun j d => h j (dist_le d) d, e⟩
theorem ik_ne {a b : Nat} (h : a ≠ b) : ik a ≠ ik b := fun z => h (by have := Sum.inl.inj z; omega)
theorem valV_new {kvs : List (Key × V)} {k : Key} {v : V} (hn : valV kvs k = none) : putK kvs k v = kvs ++ [(k, v)] := by
  unfold putK
  rw [valV_any, hn]
  rfl
theorem dist_lt {nm : List (List Nat)} {f k j : Nat} (d : Dist nm f k j) : k < nm.length := by
  obtain ⟨h1, h2, _⟩ := d
  match j, h1, h2 with
  | j + 1, _, ⟨x, hx, _⟩ => exact row_lt hx
theorem ways_level {nm : List (List Nat)} {f i : Nat} {kvs : List (Key × V)} (h : WaysAt nm f (fun k => if k < nm.length then i + 1 else i) kvs) : WaysAt nm f (fun _ => i + 1) kvs := by
  intro k
  by_cases hk : k < nm.length
  · have := h k
    dsimp only at this ⊢
    rw [if_pos hk] at this
    exact this
  · rcases h k with ⟨j, _, d, e⟩ | ⟨_, e⟩
    · exact (hk (dist_lt d)).elim
    · exact .inr ⟨fun j _ d => hk (dist_lt d), e⟩
/-- one line more: it is in, it comes in, it stays out -/
theorem ways_in {nm : List (List Nat)} {f i k0 : Nat} {kvs : List (Key × V)} {j : Nat} (h : WaysAt nm f (fun k => if k < k0 then i + 1 else i) kvs) (hj : j ≤ i) (d : Dist nm f k0 j) (e : valV kvs (ik k0) = some (iv j)) : WaysAt nm f (fun k => if k < k0 + 1 then i + 1 else i) kvs := by
  intro k
  by_cases ek : k = k0
  · subst ek
    exact .inl ⟨j, by dsimp only; split <;> omega, d, e⟩
  · have := h k
    dsimp only at this ⊢
    rw [show (if k < k0 + 1 then i + 1 else i) = (if k < k0 then i + 1 else i) by split <;> split <;> omega]
    exact this
theorem ways_new {nm : List (List Nat)} {f i k0 : Nat} {kvs : List (Key × V)} (h : WaysAt nm f (fun k => if k < k0 then i + 1 else i) kvs) (d : Dist nm f k0 (i + 1)) (e : valV kvs (ik k0) = none) : WaysAt nm f (fun k => if k < k0 + 1 then i + 1 else i) (putK kvs (ik k0) (iv (i + 1))) := by
  rw [valV_new e]
  intro k
  rw [valV_snoc _ _ _ _ e]
  by_cases ek : k = k0
  · subst ek
    exact .inl ⟨i + 1, by dsimp only; rw [if_pos (Nat.lt_succ_self _)]; exact Nat.le_refl _, d, if_pos rfl⟩
  · rw [if_neg (ik_ne ek)]
    have := h k
    dsimp only at this ⊢
    rw [show (if k < k0 + 1 then i + 1 else i) = (if k < k0 then i + 1 else i) by split <;> split <;> omega]
    exact this
theorem ways_out {nm : List (List Nat)} {f i k0 : Nat} {kvs : List (Key × V)} (h : WaysAt nm f (fun k => if k < k0 then i + 1 else i) kvs) (d : ∀ j, j ≤ i + 1 → ¬ Dist nm f k0 j) (e : valV kvs (ik k0) = none) : WaysAt nm f (fun k => if k < k0 + 1 then i + 1 else i) kvs := by
  intro k
  by_cases ek : k = k0
  · subst ek
    exact .inr ⟨fun j hj => d j (by dsimp only at hj; split at hj <;> omega), e⟩
  · have := h k
    dsimp only at this ⊢
    rw [show (if k < k0 + 1 then i + 1 else i) = (if k < k0 then i + 1 else i) by split <;> split <;> omega]
    exact this
section
variable {K : PySem.W.Frag} {H : Hp} {Q : VK}
theorem memK_ik {x : Nat} {r : List Nat} : memK (ik x) (r.map ik) = decide (x ∈ r) := by
  rw [Bool.eq_iff_iff, memK_iff, decide_eq_true_iff, List.mem_map]
  constructor
  · rintro ⟨y, hy, e⟩
    have := Sum.inl.inj e
    rw [show x = y by omega]
    exact hy
  · exact fun h => ⟨x, h, rfl⟩
theorem inV_iv (x : Nat) (r : List Nat) : inV (iv x) (r.map iv) = decide (x ∈ r) := by
  rw [← iv_key, ← memK_ik]
  exact inV_key (ik x) (r.map ik)
theorem flat_iv (r : List Nat) : (r.map iv).all flatV = true := by
  rw [← iv_key]
  exact flat_keys _
theorem rd_inN {x : Nat} {a : Addr} {r : List Nat} (h : SqL K H a (r.map iv)) (q : Q (.bl (decide (x ∈ r))) H) : rIn K false (iv x) (.ref a) H Q := by
  refine rd_inL h rfl (flat_iv r) ?_
  rw [inV_iv]
  exact q
theorem rd_outN {x : Nat} {a : Addr} {r : List Nat} (h : SqL K H a (r.map iv)) (q : Q (.bl (!decide (x ∈ r))) H) : rIn K true (iv x) (.ref a) H Q := by
  refine rd_outL h rfl (flat_iv r) ?_
  rw [inV_iv]
  exact q
end
end Qg
/-! the order of lines; no program here -/
namespace Qg
/-- each line so far the least that can stand there -/
inductive Topo (nm : List (List Nat)) : List Nat → Prop
  | nil : Topo nm []
  | snoc {ord : List Nat} {x : Nat} : Topo nm ord → x ∉ ord → x < nm.length → (∀ y, y ∈ row nm x → y ∈ ord) → (∀ z, z < nm.length → z ∉ ord → (∀ y, y ∈ row nm z → y ∈ ord) → x ≤ z) → Topo nm (ord ++ [x])
theorem topo_uniq {nm : List (List Nat)} {a : List Nat} (ha : Topo nm a) : ∀ {b : List Nat}, Topo nm b → a.length = b.length → a = b := by
  induction ha with
  | nil =>
    intro b hb e
    exact (List.length_eq_zero_iff.mp e.symm).symm
  | @snoc ord x h h1 h2 h3 h4 ih =>
    intro b hb e
    cases hb with
    | nil => simp at e
    | @snoc ord' x' g g1 g2 g3 g4 =>
      have el : ord.length = ord'.length := by simpa using e
      have eo := ih g el
      subst eo
      rw [Nat.le_antisymm (h4 x' g2 g1 g3) (g4 x h2 h1 h3)]
theorem topo_nodup {nm : List (List Nat)} {a : List Nat} (h : Topo nm a) : a.Nodup ∧ ∀ x, x ∈ a → x < nm.length ∧ ∀ y, y ∈ row nm x → y ∈ a := by
  induction h with
  | nil => exact ⟨by simp, fun x h => by cases h⟩
  | @snoc ord x h h1 h2 h3 h4 ih =>
    refine ⟨?_, fun y hy => ?_⟩
    · rw [List.nodup_append]
      refine ⟨ih.1, by simp, fun u hu v hv => ?_⟩
      have e : v = x := by simpa using hv
      subst e
      rintro rfl
      exact h1 hu
    · rcases List.mem_append.mp hy with hy | hy
      · exact ⟨(ih.2 y hy).1, fun z hz => List.mem_append.mpr (.inl ((ih.2 y hy).2 z hz))⟩
      · have e : y = x := by simpa using hy
        subst e
        exact ⟨h2, fun z hz => List.mem_append.mpr (.inl (h3 z hz))⟩
theorem topo_len {nm : List (List Nat)} {a : List Nat} (h : Topo nm a) : a.length ≤ nm.length := nodup_lt (topo_nodup h).1 fun x hx => ((topo_nodup h).2 x hx).1
/-- no line names itself, through others or not -/
def Acyc (nm : List (List Nat)) : Prop := ∃ rank : Nat → Nat, ∀ x y, y ∈ row nm x → rank y < rank x
theorem acyc_none {nm : List (List Nat)} (h : Acyc nm) (f : Nat) (w : List Nat) : ¬ Ring nm f w := by
  obtain ⟨rank, hr⟩ := h
  rintro ⟨x, hw, hf⟩
  have : ∀ {w : List Nat} {x : Nat}, Walk nm f w x → rank x ≤ rank f := by
    intro w x hw
    induction hw with
    | one => exact Nat.le_refl _
    | snoc _ hy ih =>
      have := hr _ _ hy
      omega
  have h1 := this hw
  have h2 := hr _ _ hf
  omega
theorem acyc_best {nm : List (List Nat)} (h : Acyc nm) : ∀ {i : Nat} {r : List Nat}, Best nm i r → r = []
  | 0, _, .zero => rfl
  | i + 1, _, .succ (acc := acc) (r := r) hb hr => by
    have e := acyc_best h hb
    have e2 : r = [] := by
      rcases hr with ⟨rfl, _⟩ | ⟨hr, _⟩
      · rfl
      · exact (acyc_none h _ _ hr).elim
    subst e
    subst e2
    rfl
theorem acyc_self {nm : List (List Nat)} (h : Acyc nm) (x : Nat) : x ∉ row nm x := fun hx => by
  obtain ⟨rank, hr⟩ := h
  exact Nat.lt_irrefl _ (hr x x hx)
/-- some line can stand next -/
theorem acyc_next {nm : List (List Nat)} (h : Acyc nm) (hl : ∀ x y, y ∈ row nm x → y < nm.length) (ord : List Nat) (hn : ∃ x, x < nm.length ∧ x ∉ ord) : ∃ x, x < nm.length ∧ x ∉ ord ∧ ∀ y, y ∈ row nm x → y ∈ ord := by
  obtain ⟨rank, hr⟩ := h
  obtain ⟨x0, h0⟩ := hn
  obtain ⟨r, ⟨x, hx, hx', rfl⟩, hm⟩ := least_nat (P := fun r => ∃ x, x < nm.length ∧ x ∉ ord ∧ rank x = r) ⟨x0, h0.1, h0.2, rfl⟩
  refine ⟨x, hx, hx', fun y hy => ?_⟩
  by_cases e : y ∈ ord
  · exact e
  · have h1 := hm (rank y) ⟨y, hl x y hy, e, rfl⟩
    have h2 := hr x y hy
    omega
theorem missing {n : Nat} {ord : List Nat} (hd : ord.Nodup) (hl : ∀ x, x ∈ ord → x < n) (h : ord.length < n) : ∃ x, x < n ∧ x ∉ ord := by
  by_cases e : ∃ x, x < n ∧ x ∉ ord
  · exact e
  · exfalso
    have all : ∀ x, x < n → x ∈ ord := fun x hx => by
      by_cases hm : x ∈ ord
      · exact hm
      · exact (e ⟨x, hx, hm⟩).elim
    have hp : (List.range n).length ≤ ord.length := by
      have sub : ∀ {l m : List Nat}, l.Nodup → (∀ x, x ∈ l → x ∈ m) → l.length ≤ m.length := by
        intro l
        induction l with
        | nil => intro m _ _; exact Nat.zero_le _
        | cons a l ih =>
          intro m hd h
          obtain ⟨s, t, rfl⟩ := List.append_of_mem (h a List.mem_cons_self)
          have hd' := List.nodup_cons.mp hd
          have := ih (m := s ++ t) hd'.2 fun x hx => by
            rcases List.mem_append.mp (h x (List.mem_cons_of_mem _ hx)) with z | z
            · exact List.mem_append.mpr (.inl z)
            · rcases List.mem_cons.mp z with rfl | z
              · exact (hd'.1 hx).elim
              · exact List.mem_append.mpr (.inr z)
          rw [List.length_append] at this ⊢
          show l.length + 1 ≤ s.length + (t.length + 1)
          omega
      exact sub List.nodup_range fun x hx => all x (List.mem_range.mp hx)
    rw [List.length_range] at hp
    omega
/-! how many of a line's lines are still to come -/
def nyet (nm : List (List Nat)) (ord : List Nat) (z : Nat) : Nat := ((row nm z).filter fun y => decide (y ∉ ord)).length
theorem nyet_zero {nm : List (List Nat)} {ord : List Nat} {z : Nat} : nyet nm ord z = 0 ↔ ∀ y, y ∈ row nm z → y ∈ ord := by
  unfold nyet
  rw [List.length_eq_zero_iff, List.filter_eq_nil_iff]
  constructor
  · intro h y hy
    have := h y hy
    by_cases e : y ∈ ord
    · exact e
    · exact (this (decide_eq_true e)).elim
  · intro h y hy z
    exact (of_decide_eq_true z) (h y hy)
theorem filt_less {l : List Nat} {ord : List Nat} {x : Nat} (hd : l.Nodup) (hx : x ∉ ord) : (l.filter fun y => decide (y ∉ ord)).length = (l.filter fun y => decide (y ∉ ord ++ [x])).length + if x ∈ l then 1 else 0 := by
  induction l with
  | nil => rfl
  | cons a l ih =>
    have hd' := List.nodup_cons.mp hd
    have ih := ih hd'.2
    by_cases ea : a = x
    · subst ea
      rw [List.filter_cons_of_pos (by simpa using hx), List.filter_cons_of_neg (by simp), List.length_cons, ih, if_pos List.mem_cons_self, if_neg hd'.1]
    · have em : (x ∈ a :: l) ↔ x ∈ l := ⟨fun h => (List.mem_cons.mp h).resolve_left (Ne.symm ea), List.mem_cons_of_mem _⟩
      have e2 : (if x ∈ a :: l then 1 else 0) = if x ∈ l then 1 else 0 := by simp only [em]
      rw [e2]
      by_cases eo : a ∈ ord
      · rw [List.filter_cons_of_neg (by simpa using eo), List.filter_cons_of_neg (by simp [eo]), ih]
      · rw [List.filter_cons_of_pos (by simpa using eo), List.filter_cons_of_pos (by simp [eo, ea]), List.length_cons, List.length_cons, ih]
        omega
theorem nyet_less {nm : List (List Nat)} {ord : List Nat} {x z : Nat} (hd : (row nm z).Nodup) (hx : x ∉ ord) : nyet nm ord z = nyet nm (ord ++ [x]) z + if x ∈ row nm z then 1 else 0 := filt_less hd hx
theorem nyet_nil {nm : List (List Nat)} {z : Nat} : nyet nm [] z = (row nm z).length := by
  unfold nyet
  rw [List.filter_eq_self.mpr (fun y _ => by simp)]
end Qg
open PySem PySem.Spec PyProof.Rows L2 Qa Qr Qg
/-! what a rule comes to; no program here -/
namespace Qw
/-- what rules are reckoned by -/
structure Sg where
  lines : Nat → Int
  papers : Str → Int
  earlier : Nat → Int
  tables : List (List Qr.Row)
  taken : Nat → Bool
def iT : T → Int
  | .int i => i
  | _ => 0
def sT : T → Str
  | .str s => s
  | _ => ⟨#[]⟩
def both (x : Str) (a b : Int) : Int := if x = "add" then a + b else if x = "take" then a - b else if x = "least" then (if b < a then b else a) else (if b > a then b else a)
def worth (S : Sg) : Nat → T → Int
  | 0, _ => 0
  | n + 1, .tup (.str x :: ts) =>
    match ts with
    | [a] => if x = "number" then iT a else if x = "paper" then S.papers (sT a) else if x = "line" then S.lines (iT a).toNat else S.earlier (iT a).toNat
    | [a, b] => if x = "part" then worth S n a * iT b / 100 else if x = "table" then atN (S.tables.getD (iT a).toNat []) (worth S n b) else both x (worth S n a) (worth S n b)
    | [a, b, c] => if x = "where" then (if 0 < worth S n a then worth S n b else worth S n c) else (if S.taken (iT a).toNat then worth S n c else worth S n b)
    | _ => 0
  | _, _ => 0
def four : List Str := ["add", "take", "least", "most"]
/-- the kinds of rules -/
inductive RV (sz : Sz) (n : Nat) : T → Prop
  | number {i : Int} : isNum (.int i) = true → RV sz n (.tup [.str "number", .int i])
  | paper {z : Str} : isWord (.str z) = true → RV sz n (.tup [.str "paper", .str z])
  | line {k : Nat} : (k : Int) < sz.l → RV sz n (.tup [.str "line", .int k])
  | earlier {k : Nat} : (k : Int) < sz.l → RV sz n (.tup [.str "earlier", .int k])
  | two {x : Str} {a b : T} : x ∈ four → isRule sz n a = true → isRule sz n b = true → RV sz n (.tup [.str x, a, b])
  | part {a : T} {p : Int} : 0 ≤ p → p ≤ 100 → isRule sz n a = true → RV sz n (.tup [.str "part", a, .int p])
  | table {k : Nat} {a : T} : (k : Int) < sz.tb → isRule sz n a = true → RV sz n (.tup [.str "table", .int k, a])
  | where_ {a b c : T} : isRule sz n a = true → isRule sz n b = true → isRule sz n c = true → RV sz n (.tup [.str "where", a, b, c])
  | choose {k : Nat} {a b : T} : (k : Int) < sz.ch → isRule sz n a = true → isRule sz n b = true → RV sz n (.tup [.str "choose", .int k, a, b])
theorem place_nat {t : T} {n : Int} (h : isPlace t n = true) : ∃ k : Nat, t = .int k ∧ (k : Int) < n := by
  obtain ⟨i, rfl⟩ := place_int h
  have h : (decide (0 ≤ i) && decide (i ≤ n - 1)) = true := h
  rw [Bool.and_eq_true, decide_eq_true_iff, decide_eq_true_iff] at h
  exact ⟨i.toNat, by congr 1; omega, by omega⟩
theorem pct_int {t : T} (h : isPct t = true) : ∃ p : Int, t = .int p ∧ 0 ≤ p ∧ p ≤ 100 := by
  cases t with
  | int i =>
    have h : (decide (0 ≤ i) && decide (i ≤ 100)) = true := h
    rw [Bool.and_eq_true, decide_eq_true_iff, decide_eq_true_iff] at h
    exact ⟨i, rfl, h.1, h.2⟩
  | _ => cases h
theorem num_int {t : T} (h : isNum t = true) : ∃ i : Int, t = .int i := by
  cases t with
  | int i => exact ⟨i, rfl⟩
  | _ => cases h
theorem len1 {ts : List T} (h : ts.length = 1) : ∃ a, ts = [a] := by
  match ts, h with
  | [a], _ => exact ⟨a, rfl⟩
theorem len2 {ts : List T} (h : ts.length = 2) : ∃ a b, ts = [a, b] := by
  match ts, h with
  | [a, b], _ => exact ⟨a, b, rfl⟩
theorem view {sz : Sz} {n : Nat} {t : T} (h : isRule sz (n + 1) t = true) : RV sz n t := by
  obtain ⟨x, ts, ks, rfl, e, hl, _⟩ := rule_of h
  have hx : x ∈ words := by
    by_cases hm : x ∈ words
    · exact hm
    · rw [kinds_none hm] at e
      cases e
  have two : ∀ x : Str, x ∈ four → isRule sz (n + 1) (.tup (.str x :: ts)) = true → ts.length = 2 → RV sz n (.tup (.str x :: ts)) := by
    intro x hx h hl
    obtain ⟨a, b, rfl⟩ := len2 hl
    rw [(R_two sz n a b hx).2] at h
    have h : (isRule sz n a && (isRule sz n b && true)) = true := h
    rw [Bool.and_true, Bool.and_eq_true] at h
    exact .two hx h.1 h.2
  simp only [words, List.mem_cons, List.not_mem_nil, or_false] at hx
  rcases hx with rfl | rfl | rfl | rfl | rfl | rfl | rfl | rfl | rfl | rfl | rfl | rfl
  · have e' : ks = (["number"] : List Str) := (Option.some.inj e).symm
    subst e'
    obtain ⟨a, rfl⟩ := len1 hl
    rw [R_number] at h
    obtain ⟨i, rfl⟩ := num_int h
    exact .number h
  · have e' : ks = (["word"] : List Str) := (Option.some.inj e).symm
    subst e'
    obtain ⟨a, rfl⟩ := len1 hl
    rw [R_paper] at h
    obtain ⟨i, rfl⟩ := word_str h
    exact .paper h
  · have e' : ks = (["line"] : List Str) := (Option.some.inj e).symm
    subst e'
    obtain ⟨a, rfl⟩ := len1 hl
    rw [R_line] at h
    obtain ⟨i, rfl, hi⟩ := place_nat h
    exact .line hi
  · have e' : ks = (["line"] : List Str) := (Option.some.inj e).symm
    subst e'
    obtain ⟨a, rfl⟩ := len1 hl
    rw [R_earlier] at h
    obtain ⟨i, rfl, hi⟩ := place_nat h
    exact .earlier hi
  · have e' : ks = (["rule", "rule"] : List Str) := (Option.some.inj e).symm
    subst e'
    exact two _ (by decide) h hl
  · have e' : ks = (["rule", "rule"] : List Str) := (Option.some.inj e).symm
    subst e'
    exact two _ (by decide) h hl
  · have e' : ks = (["rule", "rule"] : List Str) := (Option.some.inj e).symm
    subst e'
    exact two _ (by decide) h hl
  · have e' : ks = (["rule", "rule"] : List Str) := (Option.some.inj e).symm
    subst e'
    exact two _ (by decide) h hl
  · have e' : ks = (["rule", "percent"] : List Str) := (Option.some.inj e).symm
    subst e'
    obtain ⟨a, b, rfl⟩ := len2 hl
    rw [R_part, Bool.and_eq_true] at h
    obtain ⟨p, rfl, p0, p1⟩ := pct_int h.2
    exact .part p0 p1 h.1
  · have e' : ks = (["table", "rule"] : List Str) := (Option.some.inj e).symm
    subst e'
    obtain ⟨a, b, rfl⟩ := len2 hl
    rw [R_table, Bool.and_eq_true] at h
    obtain ⟨i, rfl, hi⟩ := place_nat h.1
    exact .table hi h.2
  · have e' : ks = (["rule", "rule", "rule"] : List Str) := (Option.some.inj e).symm
    subst e'
    obtain ⟨a, b, c, rfl⟩ := row3 hl
    rw [R_where] at h
    have h : (isRule sz n a && (isRule sz n b && (isRule sz n c && true))) = true := h
    rw [Bool.and_true, Bool.and_eq_true, Bool.and_eq_true] at h
    exact .where_ h.1 h.2.1 h.2.2
  · have e' : ks = (["choice", "rule", "rule"] : List Str) := (Option.some.inj e).symm
    subst e'
    obtain ⟨a, b, c, rfl⟩ := row3 hl
    rw [R_choose, Bool.and_eq_true, Bool.and_eq_true] at h
    obtain ⟨i, rfl, hi⟩ := place_nat h.1
    exact .choose hi h.2.1 h.2.2
section
variable {S S' : Sg} {n : Nat} {a b c : T}
theorem w_number {i : Int} : worth S (n + 1) (.tup [.str "number", .int i]) = i := rfl
theorem w_paper {z : Str} : worth S (n + 1) (.tup [.str "paper", .str z]) = S.papers z := rfl
theorem w_line {k : Nat} : worth S (n + 1) (.tup [.str "line", .int k]) = S.lines k := rfl
theorem w_earlier {k : Nat} : worth S (n + 1) (.tup [.str "earlier", .int k]) = S.earlier k := rfl
theorem w_part {p : Int} : worth S (n + 1) (.tup [.str "part", a, .int p]) = worth S n a * p / 100 := rfl
theorem w_table {k : Nat} : worth S (n + 1) (.tup [.str "table", .int k, a]) = atN (S.tables.getD k []) (worth S n a) := rfl
theorem w_where : worth S (n + 1) (.tup [.str "where", a, b, c]) = if 0 < worth S n a then worth S n b else worth S n c := rfl
theorem w_choose {k : Nat} : worth S (n + 1) (.tup [.str "choose", .int k, a, b]) = if S.taken k = true then worth S n b else worth S n a := rfl
theorem w_two {x : Str} (h : x ∈ four) : worth S (n + 1) (.tup [.str x, a, b]) = both x (worth S n a) (worth S n b) := by
  simp only [four, List.mem_cons, List.not_mem_nil, or_false] at h
  rcases h with rfl | rfl | rfl | rfl <;> rfl
theorem behs_mem {f : T → List Key} {k : Key} : ∀ {ts : List T} {ks : List Str} {i : Nat} {t : T}, ts[i]? = some t → ks[i]? = some ("rule" : Str) → k ∈ f t → k ∈ behs f ts ks
  | [], _, i, _, h, _, _ => by simp at h
  | _ :: _, [], i, _, _, h, _ => by simp at h
  | t :: ts, x :: ks, 0, u, h, h2, hk => by
    cases (Option.some.inj h)
    cases (Option.some.inj h2)
    show k ∈ (if ("rule" : Str) = "rule" then f t else []) ++ behs f ts ks
    rw [if_pos rfl]
    exact List.mem_append_left _ hk
  | t :: ts, x :: ks, i + 1, u, h, h2, hk => by
    show k ∈ (if x = "rule" then f t else []) ++ behs f ts ks
    exact List.mem_append_right _ (behs_mem (i := i) h h2 hk)
theorem beh_sub {wd x : Str} {ts : List T} {ks : List Str} (i : Nat) {t : T} {k : Key} (e : kindsOf x = some ks) (h : ts[i]? = some t) (h2 : ks[i]? = some ("rule" : Str)) (hk : k ∈ beh wd n t) : k ∈ beh wd (n + 1) (.tup (.str x :: ts)) := by
  rw [beh_at, show kindsD x = ks by unfold kindsD; rw [e]]
  exact List.mem_append_right _ (behs_mem h h2 hk)
theorem beh_head {x : Str} {t : T} {ts : List T} {k : Key} (h : keyT t = [k]) : k ∈ beh x (n + 1) (.tup (.str x :: t :: ts)) := by
  rw [beh_at, if_pos rfl]
  refine List.mem_append_left _ ?_
  show k ∈ keyT t
  rw [h]
  exact List.mem_singleton_self _
theorem four_kinds {x : Str} (h : x ∈ four) : kindsOf x = some (["rule", "rule"] : List Str) := by
  simp only [four, List.mem_cons, List.not_mem_nil, or_false] at h
  rcases h with rfl | rfl | rfl | rfl <;> rfl
/-- where two sights are alike in all that a rule names, it comes to the same -/
theorem worth_congr {sz : Sz} (ht : S.tables = S'.tables) : ∀ {n : Nat} {t : T}, isRule sz n t = true → (∀ k : Nat, ik k ∈ beh "line" n t → S.lines k = S'.lines k) → (∀ z : Str, .inr z ∈ beh "paper" n t → S.papers z = S'.papers z) →
    (∀ k : Nat, ik k ∈ beh "earlier" n t → S.earlier k = S'.earlier k) → (∀ k : Nat, ik k ∈ beh "choose" n t → S.taken k = S'.taken k) → worth S n t = worth S' n t
  | 0, t, h, _, _, _, _ => by cases h
  | n + 1, t, h, h1, h2, h3, h4 => by
    have go : ∀ {x : Str} {ts : List T} {ks : List Str} (i : Nat) {u : T}, t = .tup (.str x :: ts) → kindsOf x = some ks → ts[i]? = some u → ks[i]? = some ("rule" : Str) → isRule sz n u = true → worth S n u = worth S' n u := by
      intro x ts ks i u et e hu hk hr
      subst et
      exact worth_congr ht hr (fun k hk' => h1 k (beh_sub i e hu hk hk')) (fun k hk' => h2 k (beh_sub i e hu hk hk')) (fun k hk' => h3 k (beh_sub i e hu hk hk')) (fun k hk' => h4 k (beh_sub i e hu hk hk'))
    cases view h with
    | number _ => rfl
    | paper _ => exact h2 _ (beh_head rfl)
    | line _ => exact h1 _ (beh_head rfl)
    | earlier _ => exact h3 _ (beh_head rfl)
    | two hx ha hb => rw [w_two hx, w_two hx, go 0 rfl (four_kinds hx) rfl rfl ha, go 1 rfl (four_kinds hx) rfl rfl hb]
    | part _ _ ha => rw [w_part, w_part, go 0 rfl (ks := ["rule", "percent"]) rfl rfl rfl ha]
    | table _ ha => rw [w_table, w_table, go 1 rfl (ks := ["table", "rule"]) rfl rfl rfl ha, ht]
    | where_ ha hb hc => rw [w_where, w_where, go 0 rfl (ks := ["rule", "rule", "rule"]) rfl rfl rfl ha, go 1 rfl (ks := ["rule", "rule", "rule"]) rfl rfl rfl hb, go 2 rfl (ks := ["rule", "rule", "rule"]) rfl rfl rfl hc]
    | choose _ ha hb => rw [w_choose, w_choose, go 1 rfl (ks := ["choice", "rule", "rule"]) rfl rfl rfl ha, go 2 rfl (ks := ["choice", "rule", "rule"]) rfl rfl rfl hb, h4 _ (beh_head rfl)]
end
/-! ### a year -/
/-- what a year is reckoned by, its lines apart -/
structure Yr where
  papers : Str → Int
  earlier : Nat → Int
  tables : List (List Qr.Row)
  taken : Nat → Bool
def Yr.at_ (Y : Yr) (L : List Int) : Sg := ⟨fun k => L.getD k 0, Y.papers, Y.earlier, Y.tables, Y.taken⟩
/-- all lines' values, each by its rule -/
structure Reck (Y : Yr) (ts : List T) (L : List Int) : Prop where
  len : L.length = ts.length
  at_ : ∀ (k : Nat) (t : T), ts[k]? = some t → L.getD k 0 = worth (Y.at_ L) 8 t
/-- the lines so far -/
structure Part (Y : Yr) (ts : List T) (done : List Nat) (L : List Int) : Prop where
  len : L.length = ts.length
  at_ : ∀ (k : Nat) (t : T), k ∈ done → ts[k]? = some t → L.getD k 0 = worth (Y.at_ L) 8 t
section
variable {Y : Yr} {ts : List T} {sz : Sz}
theorem row_at {k : Nat} {t : T} (h : ts[k]? = some t) : row (nmOf ts) k = rowK ts.length (beh "line" 8 t) := by
  unfold row nmOf
  rw [List.getElem?_map, h]
  rfl
theorem named_row (hr : ∀ t ∈ ts, isRule sz 8 t = true) (hz : sz.l = ts.length) {k : Nat} {t : T} (h : ts[k]? = some t) {j : Nat} (hj : ik j ∈ beh "line" 8 t) : j ∈ row (nmOf ts) k := by
  rw [row_at h, mem_rowK]
  refine ⟨?_, hj⟩
  obtain ⟨i, e, i0, i1⟩ := beh_place 8 t (hr t (List.mem_of_getElem? h)) _ hj
  have := Sum.inl.inj e
  omega
/-- one line more -/
theorem part_step (hr : ∀ t ∈ ts, isRule sz 8 t = true) (hz : sz.l = ts.length) {done : List Nat} {L : List Int} {x : Nat} {t : T} (hp : Part Y ts done L) (hx : x ∉ done) (ht : ts[x]? = some t)
    (hd : ∀ k, k ∈ done → ∀ j, j ∈ row (nmOf ts) k → j ∈ done) (hn : ∀ j, j ∈ row (nmOf ts) x → j ∈ done) : Part Y ts (done ++ [x]) (L.set x (worth (Y.at_ L) 8 t)) := by
  have hxl : x < L.length := by
    have := (List.getElem?_eq_some_iff.mp ht).1
    rw [hp.len]
    exact this
  have same : ∀ j, j ∈ done → (L.set x (worth (Y.at_ L) 8 t)).getD j 0 = L.getD j 0 := fun j hj => by
    have ne : x ≠ j := by rintro rfl; exact hx hj
    rw [List.getD_eq_getElem?_getD, List.getD_eq_getElem?_getD, List.getElem?_set_ne ne]
  have keep : ∀ {k : Nat} {u : T}, ts[k]? = some u → (∀ j, j ∈ row (nmOf ts) k → j ∈ done) → worth (Y.at_ (L.set x (worth (Y.at_ L) 8 t))) 8 u = worth (Y.at_ L) 8 u := fun {k u} hu h =>
    worth_congr (S := Y.at_ (L.set x (worth (Y.at_ L) 8 t))) (S' := Y.at_ L) rfl (hr u (List.mem_of_getElem? hu)) (fun j hj => same j (h j (named_row hr hz hu hj))) (fun _ _ => rfl) (fun _ _ => rfl) (fun _ _ => rfl)
  refine ⟨by rw [List.length_set, hp.len], fun k u hk hu => ?_⟩
  rcases List.mem_append.mp hk with hk | hk
  · rw [same k hk, hp.at_ k u hk hu, keep hu (hd k hk)]
  · rw [List.mem_singleton] at hk
    subst hk
    rw [ht] at hu
    cases hu
    rw [keep ht hn, List.getD_eq_getElem?_getD, List.getElem?_set_self hxl]
    rfl
theorem part_end {done : List Nat} {L : List Int} (hp : Part Y ts done L) (h : ∀ k, k < ts.length → k ∈ done) : Reck Y ts L :=
  ⟨hp.len, fun k t ht => hp.at_ k t (h k (List.getElem?_eq_some_iff.mp ht).1) ht⟩
/-- only one list of values is each line's rule's -/
theorem reck_uniq (hr : ∀ t ∈ ts, isRule sz 8 t = true) (hz : sz.l = ts.length) (ha : Acyc (nmOf ts)) {L L' : List Int} (h : Reck Y ts L) (h' : Reck Y ts L') : L = L' := by
  obtain ⟨rank, hrk⟩ := ha
  have all : ∀ m k, rank k < m → L.getD k 0 = L'.getD k 0 := by
    intro m
    induction m with
    | zero => intro k hk; omega
    | succ m ih =>
      intro k hk
      cases et : ts[k]? with
      | none =>
        have hk' := List.getElem?_eq_none_iff.mp et
        rw [List.getD_eq_getElem?_getD, List.getD_eq_getElem?_getD, List.getElem?_eq_none (by rw [h.len]; exact hk'), List.getElem?_eq_none (by rw [h'.len]; exact hk')]
      | some t =>
        rw [h.at_ k t et, h'.at_ k t et]
        refine worth_congr (S := Y.at_ L) (S' := Y.at_ L') rfl (hr t (List.mem_of_getElem? et)) (fun j hj => ih j ?_) (fun _ _ => rfl) (fun _ _ => rfl) (fun _ _ => rfl)
        have := hrk k j (named_row hr hz et hj)
        omega
  refine List.ext_getElem (by rw [h.len, h'.len]) fun k h1 h2 => ?_
  have := all (rank k + 1) k (by omega)
  rw [List.getD_eq_getElem?_getD, List.getD_eq_getElem?_getD, List.getElem?_eq_getElem h1, List.getElem?_eq_getElem h2] at this
  exact this
end
theorem topo_take {nm : List (List Nat)} {ord : List Nat} (h : Topo nm ord) : ∀ i, Topo nm (ord.take i) := by
  induction h with
  | nil => intro i; rw [List.take_nil]; exact .nil
  | @snoc ord x h h1 h2 h3 h4 ih =>
    intro i
    by_cases hi : i ≤ ord.length
    · rw [List.take_append_of_le_length hi]
      exact ih i
    · rw [List.take_of_length_le (by rw [List.length_append]; show ord.length + 1 ≤ i; omega)]
      exact .snoc h h1 h2 h3 h4
theorem topo_split {nm : List (List Nat)} {ord : List Nat} {i k : Nat} (h : Topo nm ord) (e : ord[i]? = some k) : (∀ k', k' ∈ ord.take i → ∀ j, j ∈ row nm k' → j ∈ ord.take i) ∧ ∀ j, j ∈ row nm k → j ∈ ord.take i := by
  refine ⟨fun k' hk' => ((topo_nodup (topo_take h i)).2 k' hk').2, ?_⟩
  have h2 := topo_take h (i + 1)
  rw [List.take_add_one, e] at h2
  have h2 : Topo nm (ord.take i ++ [k]) := h2
  generalize el : ord.take i ++ [k] = l at h2
  cases h2 with
  | nil => simp at el
  | @snoc o x _ _ _ h3 _ =>
    obtain ⟨rfl, e2⟩ := List.append_inj' el rfl
    cases e2
    exact h3
end Qw
open PySem PySem.Spec PyProof.Rows L2 Qa Qr
/-! papers; no program here -/
namespace Qw
abbrev Pz := List (Str × Int)
def pkv (pz : Pz) : List (Key × V) := pz.map fun p => (.inr p.1, .int p.2)
def papF (pz : Pz) (z : Str) : Int := match pz.find? fun p => decide (p.1 = z) with | some p => p.2 | none => 0
theorem pkv_val (pz : Pz) (z : Str) : valV (pkv pz) (.inr z) = (pz.find? fun p => decide (p.1 = z)).map fun p => V.int p.2 := by
  induction pz with
  | nil => rfl
  | cons p r ih =>
    show valV ((.inr p.1, .int p.2) :: pkv r) (.inr z) = _
    by_cases e : p.1 = z
    · rw [valV_pos (congrArg Sum.inr e), List.find?_cons, decide_eq_true e]
      rfl
    · rw [valV_neg (fun h => e (Sum.inr.inj h)), List.find?_cons, decide_eq_false e]
      exact ih
theorem pkv_get (pz : Pz) (z : Str) : (valV (pkv pz) (.inr z)).getD (.int 0) = .int (papF pz z) := by
  rw [pkv_val]
  unfold papF
  cases pz.find? fun p => decide (p.1 = z) <;> rfl
theorem pkv_none {pz : Pz} {z : Str} (h : ∀ p ∈ pz, p.1 ≠ z) : valV (pkv pz) (.inr z) = none := by
  rw [pkv_val, List.find?_eq_none.mpr (fun p hp => by simpa using h p hp)]
  rfl
theorem pkv_some {pz : Pz} {z : Str} (h : ¬ ∀ p ∈ pz, p.1 ≠ z) : (valV (pkv pz) (.inr z)).isSome = true := by
  rw [pkv_val]
  cases e : pz.find? fun p => decide (p.1 = z) with
  | some p => rfl
  | none => exact absurd (fun p hp => by simpa using List.find?_eq_none.mp e p hp) h
theorem pkv_snoc (pz : Pz) (z : Str) (i : Int) : pkv (pz ++ [(z, i)]) = pkv pz ++ [(.inr z, .int i)] := by unfold pkv; rw [List.map_append]; rfl
/-- what is handed in as papers -/
abbrev Ps := List (T × T)
def psT (ps : Ps) : List T := ps.map fun p => .tup [p.1, p.2]
def pOk (p : T × T) : Bool := isWord p.1 && isNum p.2
def pzOf (ps : Ps) : Pz := ps.map fun p => (sT p.1, iT p.2)
/-- all papers can be, their words unlike -/
def papOk : Ps → List Str → Bool
  | [], _ => true
  | p :: r, seen => pOk p && (decide (sT p.1 ∉ seen) && papOk r (sT p.1 :: seen))
theorem papOk_drop {ps : Ps} {i : Nat} {p : T × T} {seen : List Str} (h : ps[i]? = some p) : papOk (ps.drop i) seen = (pOk p && (decide (sT p.1 ∉ seen) && papOk (ps.drop (i + 1)) (sT p.1 :: seen))) := by
  have hi := (List.getElem?_eq_some_iff.mp h)
  obtain ⟨hl, e⟩ := hi
  rw [List.drop_eq_getElem_cons hl, e]
  rfl
theorem pOk_ex {p : T × T} (h : pOk p = true) : ∃ z i, p = (.str z, .int i) ∧ isWord (.str z) = true ∧ isNum (.int i) = true := by
  obtain ⟨a, b⟩ := p
  unfold pOk at h
  rw [Bool.and_eq_true] at h
  obtain ⟨z, rfl⟩ := word_str h.1
  obtain ⟨i, rfl⟩ := num_int h.2
  exact ⟨z, i, rfl, h.1, h.2⟩
/-- papers that are known to be good, with the words ahead -/
theorem papOk_good : ∀ (ps : Ps) (seen : List Str), (∀ p ∈ ps, pOk p = true) → (ps.map fun p => sT p.1).Nodup → (∀ p ∈ ps, sT p.1 ∉ seen) → papOk ps seen = true
  | [], _, _, _, _ => rfl
  | p :: r, seen, h, nd, hs => by
    have nd' := List.nodup_cons.mp nd
    show (pOk p && (decide (sT p.1 ∉ seen) && papOk r (sT p.1 :: seen))) = true
    rw [h p List.mem_cons_self, decide_eq_true (hs p List.mem_cons_self), papOk_good r _ (fun q hq => h q (List.mem_cons_of_mem _ hq)) nd'.2 fun q hq z => ?_]
    · rfl
    · rcases List.mem_cons.mp z with z | z
      · exact nd'.1 (List.mem_map.mpr ⟨q, hq, z⟩)
      · exact hs q (List.mem_cons_of_mem _ hq) z
theorem papOk_bad {ps : Ps} {p : T × T} (hp : p ∈ ps) (h : pOk p = false) : ∀ seen, papOk ps seen = false := by
  induction ps with
  | nil => cases hp
  | cons q r ih =>
    intro seen
    show (pOk q && (decide (sT q.1 ∉ seen) && papOk r (sT q.1 :: seen))) = false
    rcases List.mem_cons.mp hp with rfl | hp
    · rw [h, Bool.false_and]
    · rw [ih hp, Bool.and_false, Bool.and_false]
/-- a list or a tuple -/
def SqLT (K : PySem.W.Frag) (H : Hp) (a : Addr) (xs : List V) : Prop := SqL K H a xs ∨ SqT K H a xs
section
variable {K : PySem.W.Frag} {H H' : Hp} {Q : VK} {a : Addr} {xs : List V}
theorem SqLT.ex (h : SqLT K H a xs) (e : Ex H H') : SqLT K H' a xs := h.elim (fun z => .inl (sql_ex z e)) fun z => .inr (sqt_ex z e)
theorem rd_ixLT {i : Int} {v : V} (h : SqLT K H a xs) (e : atI xs i = some v) (q : Q v H) : rIx K (.ref a) (.int i) H Q := h.elim (fun z => rd_ixL z e q) fun z => rd_ixT z e q
theorem rd_lenLT (h : SqLT K H a xs) (q : Q (.int (xs.length : Nat)) H) : rLenA K [.ref a] H Q := h.elim (fun z => rd_lenL z q) fun z => rd_lenT z q
theorem rd_lstOfLT (h : SqLT K H a xs) (q : ∀ p H', H p = none → Ex H H' → H' p = some (.lst xs) → Q (.ref p) H') : rLstOf K [.ref a] H Q := h.elim (fun z => rd_lstOfL z q) fun z => rd_lstOfT z q
end
end Qw
open PySem PySem.Spec PyProof.Rows L2 Qa Qr
namespace Qw
/-! dict(pairs), sum, slices of one -/
def rDictP (K : PySem.W.Frag) : List V → Hp → VK → Prop := fun xs H Q => ∃ (a : Addr) (ps : List Addr) (kvs : List (Key × V)), xs = [.ref a] ∧ SqL K H a (ps.map V.ref) ∧ Paired (fun p kv => SqT K H p [kV kv.1, kv.2]) ps kvs ∧
    ∀ p, H p = none → Q (.ref p) (upd H p (.dK (mergeK [] kvs)))
theorem cr_dictP {X : Cx} (hc : X.calm = true) : CallR X (.type "dict") (rDictP X.K) := call_dictP hc
def psOf (pz : Pz) : Ps := pz.map fun p => (.str p.1, .int p.2)
theorem pzOf_psOf (pz : Pz) : pzOf (psOf pz) = pz := by
  unfold pzOf psOf
  rw [List.map_map]
  exact List.map_id pz
theorem merge_new : ∀ (more acc : List (Key × V)), ((acc ++ more).map (·.1)).Nodup → more.foldl (fun acc kv => putK acc kv.1 kv.2) acc = acc ++ more
  | [], acc, _ => (List.append_nil acc).symm
  | kv :: r, acc, h => by
    have hn : valV acc kv.1 = none := by
      cases e : valV acc kv.1 with
      | none => rfl
      | some v =>
        exfalso
        have : (valV acc kv.1).isSome = true := by rw [e]; rfl
        rw [← valV_any, List.any_eq_true] at this
        obtain ⟨p, hp, hk⟩ := this
        rw [List.map_append, List.map_cons, List.nodup_append] at h
        exact h.2.2 p.1 (List.mem_map.mpr ⟨p, hp, rfl⟩) kv.1 List.mem_cons_self (of_decide_eq_true hk)
    rw [List.foldl_cons, putK_new _ hn]
    rw [merge_new r (acc ++ [(kv.1, kv.2)]) (by rw [List.append_assoc]; exact h), List.append_assoc]
    rfl
theorem merge_pkv {pz : Pz} (h : (pz.map (·.1)).Nodup) : mergeK [] (pkv pz) = pkv pz := by
  have e : ((pkv pz).map (·.1)) = (pz.map (·.1)).map Sum.inr := by unfold pkv; rw [List.map_map, List.map_map]; rfl
  have := merge_new (pkv pz) [] (by
    rw [List.nil_append, e]
    exact List.Pairwise.map _ (fun a b hab z => hab (Sum.inr.inj z)) h)
  rw [List.nil_append] at this
  exact this
section
variable {K : PySem.W.Frag} {H H' : Hp} {Q : VK} {a : Addr} {vs : List V}
theorem pairs_at : ∀ {vs : List V} {pz : Pz}, TvA K H vs (psT (psOf pz)) → ∃ ps : List Addr, vs = ps.map V.ref ∧ Paired (fun p kv => SqT K H p [kV kv.1, kv.2]) ps (pkv pz)
  | [], [], _ => ⟨[], rfl, .nil⟩
  | v :: vs, p :: pz, .cons h t => by
    obtain ⟨ps, rfl, hp⟩ := pairs_at (pz := pz) t
    obtain ⟨a, xs, rfl, hs, ha⟩ := Tv.tupE h
    obtain ⟨y1, xs, rfl, h1, ha⟩ := ha.consE
    obtain ⟨y2, xs, rfl, h2, ha⟩ := ha.consE
    cases ha.nilE
    cases h1
    cases h2
    exact ⟨a :: ps, rfl, .cons hs hp⟩
theorem rd_dictPz {pz : Pz} (h : SqL K H a vs) (ht : TvA K H vs (psT (psOf pz))) (nd : (pz.map (·.1)).Nodup) (q : ∀ p H', H p = none → Ex H H' → H' p = some (.dK (pkv pz)) → Q (.ref p) H') : rDictP K [.ref a] H Q := by
  obtain ⟨ps, rfl, hp⟩ := pairs_at ht
  refine ⟨a, ps, pkv pz, rfl, h, hp, fun p hf => ?_⟩
  rw [merge_pkv nd]
  exact q p _ hf (Evl.Ex.new hf) upd_same
theorem rd_sumL {ns : List Int} (h : SqL K H a (ns.map V.int)) (q : Q (.int ns.sum) H) : rSum K [.ref a] H Q := ⟨a, ns, rfl, h, q⟩
theorem cut_one (L : List Int) (k : Nat) : cutV (L.map V.int) (some (k : Int)) (some ((k : Int) + 1)) = ((L.drop k).take 1).map V.int := by
  unfold cutV
  have e1 : ((k : Int) + 1) = ((k + 1 : Nat) : Int) := by omega
  rw [e1, HT.sIx_nat (L.map V.int).length 0 k, HT.sIx_nat (L.map V.int).length (L.map V.int).length (k + 1), List.length_map, List.map_take, List.map_drop]
  by_cases h : k < L.length
  · rw [Nat.min_eq_left (by omega), Nat.min_eq_left (by omega), show k + 1 - k = 1 by omega]
  · rw [Nat.min_eq_right (by omega), Nat.min_eq_right (by omega), Nat.sub_self, List.take_zero, List.drop_eq_nil_of_le (by rw [List.length_map]; omega), List.take_nil]
theorem sum_one (L : List Int) (k : Nat) : ((L.drop k).take 1).sum = L.getD k 0 := by
  rw [List.getD_eq_getElem?_getD]
  cases e : L[k]? with
  | none =>
    rw [List.drop_eq_nil_of_le (List.getElem?_eq_none_iff.mp e)]
    rfl
  | some x =>
    obtain ⟨h, e2⟩ := List.getElem?_eq_some_iff.mp e
    rw [List.drop_eq_getElem_cons h, e2]
    simp
/-- a list of data and [] -/
theorem rd_eqNilT {b : Addr} {ts : List T} {n : Nat} (o : okL n ts = true) (hn : n < 64) (ha : SqL K H a vs) (ta : TvA K H vs ts) (hb : SqL K H b []) (q : Q (.bl ts.isEmpty) H) : rEqA K (.ref a) (.ref b) H Q := by
  refine .inr ⟨_, _, .lst ha (tva_dp ta o), .lst hb .nil, (eqv_lst o hn).1, shaped_flat [] (by simp), ?_⟩
  cases ts with
  | nil => rw [pyL]; exact q
  | cons t ts => rw [pyL]; exact q
theorem tva_ints {H : Hp} : ∀ ns : List Int, TvA K H (ns.map V.int) (ns.map T.int)
  | [] => .nil
  | n :: ns => .cons (.int n) (tva_ints ns)
theorem tva_bls {H : Hp} : ∀ ns : List Bool, TvA K H (ns.map V.bl) (ns.map T.bl)
  | [] => .nil
  | n :: ns => .cons (.bl n) (tva_bls ns)
theorem ok_ints (n : Nat) (ns : List Int) : okL n (ns.map T.int) = true := okL_all fun t ht => by
  obtain ⟨i, _, rfl⟩ := List.mem_map.mp ht
  cases n <;> simp [okT]
theorem ok_bls (n : Nat) (ns : List Bool) : okL n (ns.map T.bl) = true := okL_all fun t ht => by
  obtain ⟨i, _, rfl⟩ := List.mem_map.mp ht
  cases n <;> simp [okT]
end
end Qw
open PySem PySem.Spec PyProof.Rows L2 Qa Qr
namespace Qw
/-! ### pairs of lists -/
section
variable {α β : Type} {F G : α → β → Prop} {xs ys : List α} {us vs : List β}
theorem pd_len : ∀ {xs : List α} {us : List β}, Paired F xs us → xs.length = us.length
  | _, _, .nil => rfl
  | _, _, .cons _ t => congrArg (· + 1) (pd_len t)
theorem pd_get : ∀ {xs : List α} {us : List β} {i : Nat} {u : β}, Paired F xs us → us[i]? = some u → ∃ x, xs[i]? = some x ∧ F x u
  | _, _, i, _, .nil, h => by simp at h
  | _, _, 0, _, .cons h _, e => by cases (Option.some.inj e); exact ⟨_, rfl, h⟩
  | _, _, i + 1, _, .cons _ t, e => pd_get (i := i) t e
theorem pd_getL : ∀ {xs : List α} {us : List β} {i : Nat} {x : α}, Paired F xs us → xs[i]? = some x → ∃ u, us[i]? = some u ∧ F x u
  | _, _, i, _, .nil, h => by simp at h
  | _, _, 0, _, .cons h _, e => by cases (Option.some.inj e); exact ⟨_, rfl, h⟩
  | _, _, i + 1, _, .cons _ t, e => pd_getL (i := i) t e
theorem pd_app : ∀ {xs ys : List α} {us vs : List β}, Paired F xs us → Paired F ys vs → Paired F (xs ++ ys) (us ++ vs)
  | _, _, _, _, .nil, b => b
  | _, _, _, _, .cons h t, b => .cons h (pd_app t b)
theorem pd_take : ∀ {xs : List α} {us : List β} (n : Nat), Paired F xs us → Paired F (xs.take n) (us.take n)
  | _, _, 0, _ => .nil
  | _, _, n + 1, .nil => .nil
  | _, _, n + 1, .cons h t => .cons h (pd_take n t)
theorem pd_drop : ∀ {xs : List α} {us : List β} (n : Nat), Paired F xs us → Paired F (xs.drop n) (us.drop n)
  | _, _, 0, h => h
  | _, _, n + 1, .nil => .nil
  | _, _, n + 1, .cons _ t => pd_drop n t
theorem pd_set {x : α} {u : β} (h0 : F x u) : ∀ {xs : List α} {us : List β} (n : Nat), Paired F xs us → Paired F (xs.set n x) (us.set n u)
  | _, _, _, .nil => .nil
  | _, _, 0, .cons _ t => .cons h0 t
  | _, _, n + 1, .cons h t => .cons h (pd_set h0 n t)
theorem pd_mono : ∀ {xs : List α} {us : List β}, Paired F xs us → (∀ x u, x ∈ xs → u ∈ us → F x u → G x u) → Paired G xs us
  | _, _, .nil, _ => .nil
  | _, _, .cons h t, k => .cons (k _ _ List.mem_cons_self List.mem_cons_self h) (pd_mono t fun x u hx hu => k x u (List.mem_cons_of_mem _ hx) (List.mem_cons_of_mem _ hu))
theorem pd_memL (h : Paired F xs us) {x : α} (hx : x ∈ xs) : ∃ u, u ∈ us ∧ F x u := by
  obtain ⟨i, e⟩ := List.getElem?_of_mem hx
  obtain ⟨u, e2, f⟩ := pd_getL h e
  exact ⟨u, List.mem_of_getElem? e2, f⟩
theorem pd_mapR {γ : Type} (f : γ → β) : ∀ {xs : List α} {zs : List γ}, Paired (fun x z => F x (f z)) xs zs → Paired F xs (zs.map f)
  | _, _, .nil => .nil
  | _, _, .cons h t => .cons h (pd_mapR f t)
theorem pd_unmapR {γ : Type} (f : γ → β) : ∀ {xs : List α} {zs : List γ}, Paired F xs (zs.map f) → Paired (fun x z => F x (f z)) xs zs
  | _, [], .nil => .nil
  | _, _ :: _, .cons h t => .cons h (pd_unmapR f t)
end
/-! in comprehensions -/
theorem lstOfK {X : Cx} {K : PySem.W.Frag} (hK : X.K = K) : CallR X (.type "list") (rLstOf K) := by subst hK; exact cr_lstOf
theorem tupOfK {X : Cx} {K : PySem.W.Frag} (hK : X.K = K) : CallR X (.type "tuple") (rTupOf K) := by subst hK; exact cr_tupOf
theorem slK {X : Cx} {K : PySem.W.Frag} (hK : X.K = K) : SlR X (rSlX K) := by subst hK; exact sl_any
/-! ### lists of lists of data -/
def RowL {α : Type} (K : PySem.W.Frag) (f : α → List T) (H : Hp) (v : V) (x : α) : Prop := ∃ a vs, v = .ref a ∧ SqL K H a vs ∧ TvA K H vs (f x)
def RowLT {α : Type} (K : PySem.W.Frag) (f : α → List T) (H : Hp) (v : V) (x : α) : Prop := ∃ a vs, v = .ref a ∧ SqLT K H a vs ∧ TvA K H vs (f x)
section
variable {α : Type} {K : PySem.W.Frag} {f : α → List T} {H H' : Hp} {Q : VK} {v : V} {x : α} {us : List V} {xs : List α} {a b st D : Addr}
theorem RowL.ex (h : RowL K f H v x) (e : Ex H H') : RowL K f H' v x := by
  obtain ⟨a, vs, rfl, h1, h2⟩ := h
  exact ⟨a, vs, rfl, sql_ex h1 e, tva_ex h2 e⟩
theorem RowLT.ex (h : RowLT K f H v x) (e : Ex H H') : RowLT K f H' v x := by
  obtain ⟨a, vs, rfl, h1, h2⟩ := h
  exact ⟨a, vs, rfl, h1.ex e, tva_ex h2 e⟩
theorem RowL.lt (h : RowL K f H v x) : RowLT K f H v x := by
  obtain ⟨a, vs, rfl, h1, h2⟩ := h
  exact ⟨a, vs, rfl, .inl h1, h2⟩
theorem sql_frame {l : Addr} {zs : List V} (h : SqL K H l zs) (fr : ∀ o, H l = some o → H' l = some o) : SqL K H' l zs := by
  rcases h with (h | ⟨o, h⟩) | h
  · exact .inl (.inl (fr _ h))
  · exact .inl (.inr ⟨o, fr _ h⟩)
  · exact .inr h
theorem RowL.frm (h : RowL K f H v x) (n : v ≠ .ref st) (S : St1 st H H') : RowL K f H' v x := by
  obtain ⟨a, vs, rfl, h1, h2⟩ := h
  exact ⟨a, vs, rfl, sql_frame h1 fun o ho => S.fr _ _ (fun z => n (congrArg V.ref z)) ho, tva_st h2 S⟩
theorem RowL.up {zs ws : List V} (h : RowL K f H v x) (n : v ≠ .ref D) (hD : H D = some (.lst zs)) : RowL K f (upd H D (.lst ws)) v x := by
  obtain ⟨a, vs, rfl, h1, h2⟩ := h
  exact ⟨a, vs, rfl, sql_frame h1 fun o ho => by rw [upd_ne (fun z => n (congrArg V.ref z))]; exact ho, (Tame.upd hD).tvA h2⟩
abbrev RowsL (K : PySem.W.Frag) (f : α → List T) (H : Hp) (us : List V) (xs : List α) : Prop := Paired (RowL K f H) us xs
abbrev RowsLT (K : PySem.W.Frag) (f : α → List T) (H : Hp) (us : List V) (xs : List α) : Prop := Paired (RowLT K f H) us xs
theorem rows_ex (h : RowsL K f H us xs) (e : Ex H H') : RowsL K f H' us xs := pd_mono h fun _ _ _ _ z => z.ex e
theorem rowsT_ex (h : RowsLT K f H us xs) (e : Ex H H') : RowsLT K f H' us xs := pd_mono h fun _ _ _ _ z => z.ex e
theorem rows_lt (h : RowsL K f H us xs) : RowsLT K f H us xs := pd_mono h fun _ _ _ _ z => z.lt
theorem rows_st (h : RowsL K f H us xs) (n : ∀ v ∈ us, v ≠ .ref st) (S : St1 st H H') : RowsL K f H' us xs := pd_mono h fun _ _ m _ z => z.frm (n _ m) S
theorem rows_up {zs ws : List V} (h : RowsL K f H us xs) (n : ∀ v ∈ us, v ≠ .ref D) (hD : H D = some (.lst zs)) : RowsL K f (upd H D (.lst ws)) us xs := pd_mono h fun _ _ m _ z => z.up (n _ m) hD
/-! tuples -/
def RowT {α : Type} (K : PySem.W.Frag) (f : α → List T) (H : Hp) (v : V) (x : α) : Prop := ∃ a vs, v = .ref a ∧ SqT K H a vs ∧ TvA K H vs (f x)
theorem RowT.tame (h : RowT K f H v x) (e : Tame H H') : RowT K f H' v x := by
  obtain ⟨a, vs, rfl, h1, h2⟩ := h
  exact ⟨a, vs, rfl, e.sqT h1, e.tvA h2⟩
theorem RowT.lt (h : RowT K f H v x) : RowLT K f H v x := by
  obtain ⟨a, vs, rfl, h1, h2⟩ := h
  exact ⟨a, vs, rfl, .inr h1, h2⟩
/-! of lists that are tracked -/
def RowH {α : Type} (K : PySem.W.Frag) (f : α → List T) (H : Hp) (v : V) (x : α) : Prop := ∃ a vs, v = .ref a ∧ H a = some (.lst vs) ∧ TvA K H vs (f x)
theorem RowH.l (h : RowH K f H v x) : RowL K f H v x := by
  obtain ⟨a, vs, rfl, h1, h2⟩ := h
  exact ⟨a, vs, rfl, .of h1, h2⟩
theorem RowH.ex (h : RowH K f H v x) (e : Ex H H') : RowH K f H' v x := by
  obtain ⟨a, vs, rfl, h1, h2⟩ := h
  exact ⟨a, vs, rfl, e _ _ h1, tva_ex h2 e⟩
theorem RowH.frm (h : RowH K f H v x) (n : v ≠ .ref st) (S : St1 st H H') : RowH K f H' v x := by
  obtain ⟨a, vs, rfl, h1, h2⟩ := h
  exact ⟨a, vs, rfl, S.fr _ _ (fun z => n (congrArg V.ref z)) h1, tva_st h2 S⟩
theorem RowH.up {zs ws : List V} (h : RowH K f H v x) (n : v ≠ .ref D) (hD : H D = some (.lst zs)) : RowH K f (upd H D (.lst ws)) v x := by
  obtain ⟨a, vs, rfl, h1, h2⟩ := h
  exact ⟨a, vs, rfl, by rw [upd_ne (fun z => n (congrArg V.ref z))]; exact h1, (Tame.upd hD).tvA h2⟩
abbrev RowsH (K : PySem.W.Frag) (f : α → List T) (H : Hp) (us : List V) (xs : List α) : Prop := Paired (RowH K f H) us xs
theorem rowsH_l (h : RowsH K f H us xs) : RowsL K f H us xs := pd_mono h fun _ _ _ _ z => z.l
theorem rowsH_ex (h : RowsH K f H us xs) (e : Ex H H') : RowsH K f H' us xs := pd_mono h fun _ _ _ _ z => z.ex e
theorem rowsH_st (h : RowsH K f H us xs) (n : ∀ v ∈ us, v ≠ .ref st) (S : St1 st H H') : RowsH K f H' us xs := pd_mono h fun _ _ m _ z => z.frm (n _ m) S
theorem rowsH_up {zs ws : List V} (h : RowsH K f H us xs) (n : ∀ v ∈ us, v ≠ .ref D) (hD : H D = some (.lst zs)) : RowsH K f (upd H D (.lst ws)) us xs := pd_mono h fun _ _ m _ z => z.up (n _ m) hD
theorem rowsH_ne (h : RowsH K f H us xs) (hD : H D = none) : ∀ v ∈ us, v ≠ .ref D := fun v hv z => by
  obtain ⟨x, _, a, vs, e, h1, _⟩ := pd_memL h hv
  rw [z] at e
  cases e
  rw [hD] at h1
  cases h1
theorem set_cut {β : Type} {xs : List β} {n : Nat} {x : β} (h : n < xs.length) : xs.take n ++ [x] ++ xs.drop (n + 1) = xs.set n x := by
  rw [List.set_eq_take_append_cons_drop, if_pos h, List.append_assoc]
  rfl
/-! comparing -/
theorem rd_neDp {x y : V} {d : PyData} (h1 : Dp K H x d) (h2 : Dp K H y d) (c : d.canLay0 = true) (dp : d.depth ≤ 64) (q : Q (.bl false) H) : rNeA K x y H Q := by
  refine .inr ⟨d, d, h1, h2, shaped_of c dp, shaped_of c dp, ?_⟩
  rw [SeqAt.eqv_refl _ c]
  exact q
theorem rd_eqDp {x y : V} {d : PyData} (h1 : Dp K H x d) (h2 : Dp K H y d) (c : d.canLay0 = true) (dp : d.depth ≤ 64) (q : Q (.bl true) H) : rEqA K x y H Q := by
  refine .inr ⟨d, d, h1, h2, shaped_of c dp, shaped_of c dp, ?_⟩
  rw [SeqAt.eqv_refl _ c]
  exact q
def rowsD (f : α → List T) (xs : List α) : PyData := .list (xs.map fun x => .list (pyL (f x)))
theorem rows_dpA {n : Nat} : ∀ {us : List V} {xs : List α}, RowsL K f H us xs → (∀ x ∈ xs, okL n (f x) = true) → DpAll K H us (xs.map fun x => .list (pyL (f x)))
  | _, _, .nil, _ => .nil
  | _, _, .cons h t, o => by
    obtain ⟨a, vs, rfl, h1, h2⟩ := h
    exact .cons (.lst h1 (tva_dp h2 (o _ List.mem_cons_self))) (rows_dpA t fun x hx => o x (List.mem_cons_of_mem _ hx))
theorem rows_dp {n : Nat} (h : SqL K H a us) (r : RowsL K f H us xs) (o : ∀ x ∈ xs, okL n (f x) = true) : Dp K H (.ref a) (rowsD f xs) := .lst h (rows_dpA r o)
theorem rows_can {n : Nat} (hn : n ≤ 60) : ∀ {xs : List α}, (∀ x ∈ xs, okL n (f x) = true) → PyData.canLayAll0 (xs.map fun x => PyData.list (pyL (f x))) = true ∧ PyData.depthAll (xs.map fun x => PyData.list (pyL (f x))) ≤ 61
  | [], _ => ⟨by simp [PyData.canLayAll0], by simp [PyData.depthAll]⟩
  | x :: xs, o => by
    have h1 := okL_lay (o x List.mem_cons_self)
    have h2 := rows_can hn (xs := xs) fun y hy => o y (List.mem_cons_of_mem _ hy)
    refine ⟨by simp [PyData.canLayAll0, PyData.canLay0, h1.1, h2.1], ?_⟩
    simp only [List.map_cons, PyData.depthAll, PyData.depth]
    have := h1.2
    have := h2.2
    omega
theorem rowsD_ok {n : Nat} (hn : n ≤ 60) (o : ∀ x ∈ xs, okL n (f x) = true) : (rowsD f xs).canLay0 = true ∧ (rowsD f xs).depth ≤ 64 := by
  have h := rows_can hn o
  refine ⟨by simp [rowsD, PyData.canLay0, h.1], ?_⟩
  simp only [rowsD, PyData.depth]
  have := h.2
  omega
theorem rd_neRows {n : Nat} {vs : List V} (hn : n ≤ 60) (o : ∀ x ∈ xs, okL n (f x) = true) (h1 : SqL K H a us) (r1 : RowsL K f H us xs) (h2 : SqL K H b vs) (r2 : RowsL K f H vs xs) (q : Q (.bl false) H) : rNeA K (.ref a) (.ref b) H Q :=
  rd_neDp (rows_dp h1 r1 o) (rows_dp h2 r2 o) (rowsD_ok hn o).1 (rowsD_ok hn o).2 q
theorem rd_eqRows {n : Nat} {vs : List V} (hn : n ≤ 60) (o : ∀ x ∈ xs, okL n (f x) = true) (h1 : SqL K H a us) (r1 : RowsL K f H us xs) (h2 : SqL K H b vs) (r2 : RowsL K f H vs xs) (q : Q (.bl true) H) : rEqA K (.ref a) (.ref b) H Q :=
  rd_eqDp (rows_dp h1 r1 o) (rows_dp h2 r2 o) (rowsD_ok hn o).1 (rowsD_ok hn o).2 q
end
/-! rows of ints, of truths, of papers -/
abbrev fI (L : List Int) : List T := L.map T.int
abbrev fB (bs : List Bool) : List T := bs.map T.bl
abbrev fP (pz : Pz) : List T := psT (psOf pz)
section
variable {K : PySem.W.Frag} {H : Hp}
theorem tva_intsE : ∀ {vs : List V} {L : List Int}, TvA K H vs (fI L) → vs = L.map V.int
  | _, [], .nil => rfl
  | _, _ :: _, .cons h t => by rw [h.intE, tva_intsE t]; rfl
theorem tva_blsE : ∀ {vs : List V} {L : List Bool}, TvA K H vs (fB L) → vs = L.map V.bl
  | _, [], .nil => rfl
  | _, _ :: _, .cons h t => by rw [h.blE, tva_blsE t]; rfl
end
/-! ### years one behind the other -/
def prevL (Ls : List (List Int)) (i : Nat) : List Int := if i = 0 then [] else Ls.getD (i - 1) []
structure HistAt (rows : List (List Qr.Row)) (ts : List T) (yr : List Int → (Ps × List Bool) → Yr) (ys : List (Ps × List Bool)) (Ls : List (List Int)) : Prop where
  len : Ls.length = ys.length
  at_ : ∀ (i : Nat) (p : Ps × List Bool), ys[i]? = some p → Reck (yr (prevL Ls i) p) ts (Ls.getD i [])
section
variable {rows : List (List Qr.Row)} {ts : List T} {yr : List Int → (Ps × List Bool) → Yr} {ys : List (Ps × List Bool)} {Ls : List (List Int)}
theorem prevL_app {L : List Int} {i : Nat} (h : i ≤ Ls.length) : prevL (Ls ++ [L]) i = prevL Ls i := by
  unfold prevL
  by_cases e : i = 0
  · rw [if_pos e, if_pos e]
  · rw [if_neg e, if_neg e, List.getD_eq_getElem?_getD, List.getD_eq_getElem?_getD, List.getElem?_append_left (by omega)]
theorem HistAt.snoc {p : Ps × List Bool} {L : List Int} (h : HistAt rows ts yr ys Ls) (r : Reck (yr (prevL Ls Ls.length) p) ts L) : HistAt rows ts yr (ys ++ [p]) (Ls ++ [L]) := by
  refine ⟨by rw [List.length_append, List.length_append, h.len]; rfl, fun i q hq => ?_⟩
  by_cases hi : i < ys.length
  · rw [List.getElem?_append_left hi] at hq
    rw [prevL_app (by rw [h.len]; omega), List.getD_eq_getElem?_getD, List.getElem?_append_left (by rw [h.len]; exact hi), ← List.getD_eq_getElem?_getD]
    exact h.at_ i q hq
  · have hi2 : i = ys.length := by
      have := (List.getElem?_eq_some_iff.mp hq).1
      rw [List.length_append] at this
      simp only [List.length_singleton] at this
      omega
    subst hi2
    rw [List.getElem?_append_right (Nat.le_refl _), Nat.sub_self] at hq
    cases (Option.some.inj hq)
    have e : ys.length = Ls.length := h.len.symm
    rw [e, prevL_app (Nat.le_refl _), List.getD_eq_getElem?_getD, List.getElem?_append_right (Nat.le_refl _), Nat.sub_self]
    exact r
theorem HistAt.each (h : HistAt rows ts yr ys Ls) : ∀ L ∈ Ls, L.length = ts.length := fun L hL => by
  obtain ⟨i, e⟩ := List.getElem?_of_mem hL
  have hi : i < ys.length := by rw [← h.len]; exact (List.getElem?_eq_some_iff.mp e).1
  have := (h.at_ i _ (List.getElem?_eq_getElem hi)).len
  rw [List.getD_eq_getElem?_getD, e] at this
  exact this
theorem hist_uniq {sz : Sz} (hr : ∀ t ∈ ts, isRule sz 8 t = true) (hz : sz.l = ts.length) (ha : Qg.Acyc (Qg.nmOf ts)) {Ls' : List (List Int)} (h : HistAt rows ts yr ys Ls) (h' : HistAt rows ts yr ys Ls') : Ls = Ls' := by
  have all : ∀ i, i < ys.length → Ls.getD i [] = Ls'.getD i [] := by
    intro i
    induction i with
    | zero =>
      intro hi
      exact reck_uniq hr hz ha (h.at_ 0 _ (List.getElem?_eq_getElem hi)) (h'.at_ 0 _ (List.getElem?_eq_getElem hi))
    | succ i ih =>
      intro hi
      have e : prevL Ls (i + 1) = prevL Ls' (i + 1) := by
        unfold prevL
        rw [if_neg (by omega), if_neg (by omega), Nat.add_sub_cancel]
        exact ih (by omega)
      have h1 := h.at_ (i + 1) _ (List.getElem?_eq_getElem hi)
      rw [e] at h1
      exact reck_uniq hr hz ha h1 (h'.at_ (i + 1) _ (List.getElem?_eq_getElem hi))
  refine List.ext_getElem (by rw [h.len, h'.len]) fun k h1 h2 => ?_
  have := all k (by rw [← h.len]; exact h1)
  rw [List.getD_eq_getElem?_getD, List.getD_eq_getElem?_getD, List.getElem?_eq_getElem h1, List.getElem?_eq_getElem h2] at this
  exact this
end
end Qw
/-! a list comprehension whose item may raise -/
namespace Qy
open PySem PySem.Spec PyProof.Rows L2
section
variable {M : Model} {A : Around} {E : Value → Shared → Prop} {s : Shared}
/-- how a comprehension ends, its block's own frame being known -/
def Ends1 (M : Model) (A : Around) (E : Value → Shared → Prop) (Q : Value → Shared → Prop) (acc : Value) (ce : Env) : Result → Shared → Prop
  | .ok _, t => ∃ m, t.heap.Ns ce.locals m ∧ ∀ g, Heap.SameBut ce.locals t.heap g → Q acc { t with heap := g }
  | .error x, t => ∃ m, t.heap.Ns ce.locals m ∧ ∀ g, Heap.SameBut ce.locals t.heap g → wpAny M A (PySem.passOn "comprehension.variables-let-go" x ce : Sem Value) (fun _ _ => False) E { t with heap := g }
theorem comp_run {env : Env} {e : Expr} {scope : Scope} {pos : Pos} {newAcc first : Sem Value} {g : Comprehension} {gs : List Comprehension} {cl : List (Str × Addr)} {Q : Value → Shared → Prop}
    (hcl : clausesOf e = g :: gs) (hfold : ∀ x, foldedSetIterable g.iter env x = pure x) (hclos : closureFor scope env = pure cl) (hkind : scope.kind = .function) (hloc : ∀ x ∈ scope.names, x.2 = .local → scope.names.lookup x.1 = some .local)
    (h : wpAny M A first (fun x a => wpAny M A (pyIter x) (fun it b => wpAny M A newAcc (fun acc c => wpAny M A (newFunctionEnv scope env.globals cl [] env.qual none .none (some env)) (fun ce d =>
      codeAny M A (.compStart e 0 it acc { ce with scope := relabel scope env }) (Ends1 M A E Q acc { ce with scope := relabel scope env }) d) E c) E b) E a) E s) :
    wpAny M A (comprehension e scope env pos newAcc false first) Q E s := by
  unfold comprehension
  rw [hclos, hcl]
  refine wpAny_bind (wpAny_mono h (fun x a ha => wpAny_bind (wpAny_standAt (wpAny_bind (wpAny_of_eq (hfold x) (wpAny_bind (wpAny_holding (wpAny_mono ha (fun it b hb => wpAny_standIf (wpAny_bind
    (wpAny_mono hb (fun acc c hc => wpAny_bind (wpAny_pure (wpAny_bind (wpAny_mono hc (fun ce d hd => ?_) fun _ _ z => z)))) fun _ _ z => z))) fun _ _ z => z))))))) fun _ _ z => z)
  dsimp only
  have own : ∀ x ∈ (scope.names.filter fun x => (x.2 == .local || x.2 == .cell) && x.1 != (".0" : Str)).reverse, x.2 = .local → Env.kindOf { ce with scope := relabel scope env } x.1 = some .local :=
    fun x hx e => lookup_relabel_local (hloc x (List.mem_filter.mp (List.mem_reverse.mp hx)).1 e)
  refine wpAny_holding (wpAny_bind (wpAny_attempt (wpAny_holding (wpAny_run (codeAny_mono hd fun r t ht => ?_)))))
  cases r with
  | ok f =>
    obtain ⟨m, hn, q⟩ := ht
    exact wpAny_bind (wpAny_holding (wpAny_comp_letGo (cenv := { ce with scope := relabel scope env }) hkind _ t m own hn fun g _ _ sb => wpAny_pure (q g sb)))
  | error x =>
    obtain ⟨m, hn, q⟩ := ht
    exact wpAny_bind (wpAny_holding (wpAny_comp_letGo (cenv := { ce with scope := relabel scope env }) hkind _ t m own hn fun g _ _ sb => wpAny_mono (q g sb) (fun _ _ z => z.elim) fun _ _ z => z))
end
section
variable {X : Cx} {pins : List (Addr × Obj)} {σ : L2.St} {H H' : Hp} {s t : Shared} {W : XK} {C : Addr} {u : Value}
/-- an exception over the def's frames that knows nothing of the dict at C -/
def Above (X : Cx) (pins : List (Addr × Obj)) (σ : L2.St) (W : XK) (C : Addr) (Sk : Heap → Addr → (Obj → Prop) → Heap → Prop) (u : Value) (t : Shared) : Prop :=
  ∃ (a : Addr) (B : Heap) (r : Shared) (H : Hp) (cls : Value) (d : Option Addr), u = .ref a ∧ Inv X pins σ H r ∧ (∀ b o, r.heap.get? b = some o → b ∉ frs X.stack → B.get? b = some o) ∧ r.heap.UpToSlots t.heap ∧
    Sk B a (Zc cls d) t.heap ∧ H a = none ∧ t.os = r.os ∧ AllBare t.gens ∧ W cls d H ∧ B.get? C = none ∧ r.heap.get? C = none
abbrev Flies (X : Cx) : Heap → Addr → (Obj → Prop) → Heap → Prop := fun B a Z h => HandSPX.FlyingZ B X.stack a Z h
abbrev Held (X : Cx) : Heap → Addr → (Obj → Prop) → Heap → Prop := fun B a Z h => HandSPX.HeldZ B X.stack a Z X.env.locals h
theorem notFrame (I : Inv X pins σ H s) (f : FpOk X pins H' C) : C ∉ frs X.stack := fun z => (List.mem_cons.mp (I.stkSub C z)).elim f.2.1 f.2.2.1
theorem traced_less {h B B' : Heap} {e : Addr} {Z : Obj → Prop} {fl : Value} (k : ∀ b, B.get? b = none → B'.get? b = none) (x : HandSPX.TracedZ h B e Z fl) : HandSPX.TracedZ h B' e Z fl := by
  obtain ⟨oe, vs, T, oT, ts, x1, x2, x3, x4, x5, x6⟩ := x
  exact ⟨oe, vs, T, oT, ts, x1, x2, x3, x4, k T x5, x6⟩
theorem above_of {o : Obj} (I : Inv X pins σ H s) (f : FpOk X pins H C) (hC : s.heap.get? C = some o) (c : L2.CX X.prog X.w X.stack H s W u t) : Above X pins σ W C (Flies X) u t ∧ t.heap.get? C = some o := by
  obtain ⟨a, B, H2, cls, d, rfl, fl, hok, ub, na, os, ag, hW⟩ := c
  have nC := notFrame I f
  have BC : B.get? C = some o := ub.keep C o hC f.1 nC
  have C2 : H2 C = none := ub.free C o hC f.1
  generalize eB : PySem.W.hideAll B [C] = B'
  have sub : ∀ b p, B'.get? b = some p → B.get? b = some p := fun b p q => PySem.W.of_hideAll [C] (by rw [eB]; exact q)
  have put : ∀ b p, B.get? b = some p → b ≠ C → B'.get? b = some p := fun b p q n => by rw [← eB]; exact PySem.W.hideAll_get [C] q (by simpa using n)
  have non : B'.get? C = none := by rw [← eB]; exact PySem.W.hideAll_none [C] List.mem_cons_self
  have less : ∀ b, B.get? b = none → B'.get? b = none := fun b q => by
    cases z : B'.get? b with
    | none => rfl
    | some p => rw [sub b p z] at q; cases q
  have stay : B'.StaysIn t.heap := fun b p q => fl.1 b p (sub b p q)
  obtain ⟨f1, f2, f3, f4⟩ := fl
  have fr3 : t.heap.FunFrames B' X.stack := funFrames_none f3 fun L hL => less L (f3.mem hL).1
  obtain ⟨G, g1, g2⟩ := restrict t.heap fun b => (B'.get? b).isSome || decide (b ∈ frs X.stack)
  have inG : ∀ b p, B'.get? b = some p → G.get? b = some p := fun b p q => by rw [g1 b (by simp [q])]; exact stay b p q
  have frG : ∀ b, b ∈ frs X.stack → G.get? b = t.heap.get? b := fun b q => g1 b (by simp [q])
  have ofG : ∀ b p, G.get? b = some p → t.heap.get? b = some p ∧ ((B'.get? b).isSome = true ∨ b ∈ frs X.stack) := fun b p q => by
    cases z : ((B'.get? b).isSome || decide (b ∈ frs X.stack)) with
    | false => rw [g2 b z] at q; cases q
    | true => rw [g1 b z] at q; exact ⟨q, by simpa [Bool.or_eq_true] using z⟩
  have hok' : HOk X.prog X.w H2 B' := fun b p q => (hok b p q).stay (fun c v hc z => put c v z fun e => by
    subst e
    rcases hc with hc | hc
    · rw [hc, q] at C2; cases C2
    · rw [hc] at C2; cases C2) (fun _ z => z) fun _ _ z => z
  refine ⟨⟨a, B', { s with heap := G, gens := t.gens, drawn := t.drawn, toks := t.toks }, H2, cls, d, rfl, ?_, fun b p q nb => ?_, Heap.UpToSlots.of_keeps fun b p q => (ofG b p q).1, ⟨stay, less a f2, fr3, traced_less less f4⟩, na, os, ag, hW, non, ?_⟩, f1 C o BC⟩
  · refine I.call (ch := [C]) ⟨fun b p q n nb nc => ?_, fun b p q n nb _ => ?_, fun b p q n _ => ub.free b p q n, fun b p q nc => ?_, ub.tups, ub.frzs, ub.tbls⟩ (hok'.kept inG) ag fun b hb => ?_
    · exact inG b p (put b p (ub.keep b p q n nb) (by simpa using nc))
    · obtain ⟨sl, z⟩ := ub.slot b p q nb
      exact ⟨sl, by rw [frG b nb]; exact z⟩
    · by_cases nb : b ∈ frs X.stack
      · obtain ⟨sl, z⟩ := ub.slot b p q nb
        exact ⟨_, by rw [frG b nb]; exact z⟩
      · obtain ⟨p', z⟩ := ub.there b p q nb
        exact ⟨p', inG b p' (put b p' z (by simpa using nc))⟩
    · have e : b = C := by simpa using hb
      subst e
      exact ⟨f.2.2.2.1, f.2.1, f.2.2.2.2.1, f.2.2.2.2.2⟩
  · obtain ⟨q', h⟩ := ofG b p q
    rcases h with h | h
    · obtain ⟨p', z⟩ := Option.isSome_iff_exists.mp h
      have e := stay b p' z
      rw [q'] at e
      cases e
      exact z
    · exact absurd h nb
  · show G.get? C = none
    exact g2 C (by simp [non, nC])
theorem above_note {E₁ : Value → Shared → Prop} {Q : Unit → Shared → Prop} (hs : X.stack = X.env :: X.outer) (hf : X.env.frame = some X.env.locals) (x : Above X pins σ W C (Flies X) u t)
    (h : ∀ g, Above X pins σ W C (Held X) u { t with heap := g } → t.heap.UpToSlots g → Q () { t with heap := g }) : wpAny (model X.prog X.w) X.A (noteFrame u X.env) Q E₁ t := by
  obtain ⟨a, B, r, H, cls, d, rfl, I, nb, up, fl, na, os, ag, w, b1, b2⟩ := x
  have hfr : X.A.frames = some (X.env :: X.outer) := by rw [I.ok.frames, hs]
  have fl' : HandSPX.FlyingZ B (X.env :: X.outer) a (Zc cls d) t.heap := by rw [← hs]; exact fl
  exact HandSPX.looks_onZ Zc.steady hfr hf fl' fun g hh k => h g ⟨a, B, r, H, cls, d, rfl, I, nb, up.trans k, by show HandSPX.HeldZ B X.stack a _ _ g; rw [hs]; exact hh, na, os, ag, w, b1, b2⟩ k
theorem above_but {g : Heap} {m : Str → Option Value} (nC : C ∉ frs X.stack) (x : Above X pins σ W C (Held X) u t) (hn : t.heap.Ns C m) (sb : Heap.SameBut C t.heap g) : Above X pins σ W C (Held X) u { t with heap := g } := by
  obtain ⟨a, B, r, H, cls, d, rfl, I, nb, up, ⟨f1, f2, f3, oe, vs, T, oT, ts, x1, x2, x3, x4, x5, x6, x7, x8, x9⟩, na, os, ag, w, b1, b2⟩ := x
  obtain ⟨oC, es, ep, eC, dC, _⟩ := hn
  have aC : a ≠ C := fun z => by rw [z, eC] at x1; cases x1; rw [dC] at x3; cases x3
  have TC : T ≠ C := fun z => by rw [z, eC] at x7; cases x7; rw [dC] at x8; cases x8
  refine ⟨a, B, r, H, cls, d, rfl, I, nb, fun b p q nf => ?_, ⟨fun b p q => ?_, f2, ?_, oe, vs, T, oT, ts, (sb.2 a aC).trans x1, x2, x3, x4, x5, x6, (sb.2 T TC).trans x7, x8, x9⟩, na, os, ag, w, b1, b2⟩
  · obtain ⟨sl, z⟩ := up b p q nf
    exact ⟨sl, (sb.2 b (fun e => by rw [e, b2] at q; cases q)).trans z⟩
  · exact (sb.2 b (fun e => by rw [e, b1] at q; cases q)).trans (f1 b p q)
  · have all : ∀ l : List Env, (∀ L ∈ frs l, L ∈ frs X.stack) → t.heap.FunFrames B l → g.FunFrames B l := by
      intro l
      induction l with
      | nil => intro _ _; trivial
      | cons env l ih =>
        intro hl hx
        obtain ⟨k1, ⟨L, o, k2, k3, k4, k5⟩, k6⟩ := hx
        have hL : L ∈ frs X.stack := hl L (by unfold frs; rw [List.filterMap_cons, k2]; exact List.mem_cons_self)
        refine ⟨k1, ⟨L, o, k2, k3, (sb.2 L fun e => nC (e ▸ hL)).trans k4, k5⟩, ih (fun b hb => hl b ?_) k6⟩
        unfold frs
        rw [List.filterMap_cons, k2]
        exact List.mem_cons_of_mem _ hb
    exact all X.stack (fun _ z => z) f3
theorem above_on {what : String} {ce : Env} {W' : WX} (hf : ce.frame = some X.env.locals) (tk : Takes X W') (hW : ∀ cls d H, W cls d H → W' cls d σ H) (x : Above X pins σ W C (Held X) u t) :
    wpAny (model X.prog X.w) X.A (PySem.passOn what u ce : Sem Value) (fun _ _ => False) X.xe t := by
  obtain ⟨a, B, r, H, cls, d, rfl, I, nb, up, hh, na, os, ag, w, b1, b2⟩ := x
  obtain ⟨oe, vs, T, oT, ts, x1, x2, x3, x4, x5⟩ := hh.2.2.2
  unfold PySem.passOn
  refine wpAny_bind (wpAny_field x1 x3 x4 ?_)
  rw [if_neg (show ¬ ((Value.ref T == Value.none) = true) by simp)]
  rw [hf]
  refine wpAny_bind (HandSPX.setFlight_onZ hh fun g hh' k => ?_)
  exact wpAny_throw (tk _ _ ⟨a, B, r, pins, σ, H, cls, d, rfl, I, nb, up.trans k, .inr (.inr hh'), na, os, ag, hW _ _ _ w⟩)
theorem note_env {e : Value} {ce : Env} (h : ce.frame = X.env.frame) : noteFrame e ce = noteFrame e X.env := by
  unfold noteFrame PySem.frameOf
  rw [h]
/-- the whole way out -/
theorem out_of {Q : Value → Shared → Prop} {D : Addr} {ce : Env} {W' : WX} {m : Str → Option Value} (hs : X.stack = X.env :: X.outer) (hf : X.env.frame = some X.env.locals) (hce : ce.frame = X.env.frame) (tk : Takes X W') (hW : ∀ cls d H, W cls d H → W' cls d σ H)
    (nC : ce.locals ∉ frs X.stack) (x : Above X pins σ W ce.locals (Flies X) u t) (hn : t.heap.Ns ce.locals m) :
    notedBy (model X.prog X.w) X.A ce (fun e t' => Ends1 (model X.prog X.w) X.A X.xe Q (.ref D) ce (.error e) t') u t := by
  show wpAny _ _ (noteFrame u ce) _ _ _
  rw [note_env hce]
  refine above_note hs hf x fun g xg k => ?_
  have hng : g.Ns ce.locals m := Heap.UpToSlots.ns k hn
  exact ⟨m, hng, fun g' sb => above_on (hce.trans hf) tk hW (above_but nC xg hng sb)⟩
end
end Qy
namespace Qy
open PySem PySem.Spec PyProof.Rows L2
abbrev blkX (X : Cx) (s : Shared) (H : Hp) (scope : Scope) (ce : Env) (fp : List Addr) (xe : Value → Shared → Prop) : Cx := (X.blk s H scope ce fp).tr [] xe
section
variable {X : Cx}
def tLcX (W : WX) (wi : TI) (g : TG) (tt : TT) (te : XK → TE) (vs : List Nat) : TE := fun σ H Q => tLc wi g tt (te (WE W σ)) vs σ H Q
theorem pe_lcX {elt tg iter : Expr} {ifs : List Expr} {scope : Scope} {own : List (Str × Nat)} {pos : Pos} {wi : TI} {g : TG} {tt : TT} {te : XK → TE} {W : WX} (hc : X.calm = true) (hs : X.stack = X.env :: X.outer) (hf : X.env.frame = some X.env.locals) (tk : Takes X W)
    (hN : X.N.Nodup) (hi : PI X tg iter wi) (ok : BlkOk X.N X.env.scope scope own)
    (hg : ∀ (s : Shared) (H : Hp) (C : Addr) (cl : List (Str × Addr)) (fp : List Addr) (xe : Value → Shared → Prop), PG (blkX X s H scope (compEnvC scope cl C X.env) fp xe) tg g)
    (ht : ∀ (s : Shared) (H : Hp) (C : Addr) (cl : List (Str × Addr)) (fp : List Addr) (xe : Value → Shared → Prop), PTs (blkX X s H scope (compEnvC scope cl C X.env) fp xe) ifs tt)
    (he : ∀ (s : Shared) (H : Hp) (C : Addr) (cl : List (Str × Addr)) (fp : List Addr) (xe : Value → Shared → Prop) (E : XK), (∀ σ', PassesAt (L2.CX X.prog X.w) (blkX X s H scope (compEnvC scope cl C X.env) fp xe) σ' E) → PE (blkX X s H scope (compEnvC scope cl C X.env) fp xe) elt (te E))
    (hfold : ∀ x, foldedSetIterable iter X.env x = pure x := by intro _; rfl) : PE X (.ListComp elt [⟨tg, iter, ifs, 0⟩] scope pos) (tLcX W wi g tt te (own.map (·.2))) := by
  refine ⟨fun pins s σ H Q I h => ?_⟩
  have h : tLc wi g tt (te (WE W σ)) (own.map (·.2)) σ H Q := h
  rw [eval_ListComp]
  have hfree : ∀ y ∈ scope.names, y.2 = .free → ∃ c, X.env.cells.lookup y.1 = some c := fun y hy e => (ok.free y hy e).elim (fun k => I.ok.has _ (.inl k)) fun k => I.ok.has _ (.inr k)
  refine comp_run rfl hfold (closure_ok hfree) ok.kind (fun y hy e => by rw [ok.uniq y hy, e]) (thn (hi.run pins s σ H _ I h) fun xv s1 hx => thn hx fun itv s2 h2 => ?_)
  obtain ⟨it, fp, tn, J, H2, rfl, I2, T, st2, f2, q⟩ := h2
  refine wpAny_newObj_type (newEnv_comp ?_) (by show 0 ≤ sizeLine; decide)
  generalize eD : s2.heap.objs.size = D
  have D2 : H2 D = none := I2.hok.fresh (Nat.le_of_eq eD)
  obtain ⟨V, ⟨m0, v0⟩, turn⟩ := q D D2
  generalize e3 : ({ s2 with heap := s2.heap.push { cls := .type "list", data := .seq ([] : List Value).toArray } } : Shared) = s3
  have h3 : s3.heap = s2.heap.push { cls := .type "list", data := .seq ([] : List Value).toArray } := by rw [← e3]
  have I3 : Inv X pins σ (upd H2 D (.lst [])) s3 := by
    rw [← e3]
    refine I2.laid (t' := s2.toks) (fun b o z => Heap.get?_push_of_some _ z) (Nat.le_of_eq eD) ⟨Nat.zero_le _, [], 0, .nil, ?_⟩
    rw [← eD]
    exact Heap.get?_push_size _ rfl
  have below : ∀ b ∈ fp, b < s2.heap.objs.size := fun b hb => let ⟨_, z, _⟩ := T.obj _ _ st2 b hb; Heap.lt_size z
  have f3 : ∀ b ∈ fp, FpOk X pins (upd H2 D (.lst [])) b ∧ b < s3.heap.objs.size := fun b hb => by
    have lt := below b hb
    refine ⟨⟨?_, (f2 b hb).2⟩, by rw [h3, Heap.size_push]; exact Nat.lt_succ_of_lt lt⟩
    rw [upd_ne (by rw [← eD]; exact Nat.ne_of_lt lt)]
    exact (f2 b hb).1
  have st3 : tn 0 s3.heap := T.keep _ _ _ st2 fun b _ o z => by rw [h3]; exact Heap.get?_push_of_some _ z
  have I4' := block_start I3 ok hN f3
  generalize ecl : cellsFrom (s3.heap.objs.size + 1) scope.names (cloFrom X.env.cells scope.names []) = cl at I4'
  have pg := hg s3 (upd H2 D (.lst [])) s3.heap.objs.size cl fp
  have pt := ht s3 (upd H2 D (.lst [])) s3.heap.objs.size cl fp
  have pe := he s3 (upd H2 D (.lst [])) s3.heap.objs.size cl fp
  have goal : codeAny (model X.prog X.w) X.A (.compStart (.ListComp elt [⟨tg, iter, ifs, 0⟩] scope pos) 0 (.ref it) (.ref D) (compEnvC scope cl s3.heap.objs.size X.env)) (Ends1 (model X.prog X.w) X.A X.xe (EP X pins σ Q) (.ref D) (compEnvC scope cl s3.heap.objs.size X.env)) { s3 with heap := pushCells (s3.heap.push { cls := .type "dict", data := .dict #[] }) scope.names } := by
    have nfp : ∀ b ∈ fp, (upd H2 D (.lst [])) b = none := fun b hb => (f3 b hb).1.1
    generalize ece : compEnvC scope cl s3.heap.objs.size X.env = ce at I4' pg pt pe ⊢
    have cL : ce.locals = s3.heap.objs.size := by subst ece; rfl
    have cF : ce.frame = X.env.frame := by subst ece; rfl
    generalize eH : upd H2 D (.lst []) = H3 at I3 I4' pg pt pe v0 nfp f3
    generalize e4 : ({ s3 with heap := pushCells (s3.heap.push { cls := .type "dict", data := .dict #[] }) scope.names } : Shared) = s4 at I4' ⊢
    have st4 : tn 0 s4.heap := T.keep _ _ _ st3 fun b _ o z => by rw [← e4]; exact pushCells_keeps _ _ _ _ (Heap.get?_push_of_some _ z)
    -- the block's own wish
    generalize exe : (fun u t => Above X pins σ (WE W σ) ce.locals (Flies X) u t ∧ ∃ m, t.heap.Ns ce.locals m : Value → Shared → Prop) = xe at *
    have I4 : Inv (blkX X s3 H3 scope ce fp xe) [] (wipe σ (own.map (·.2))) H3 s4 := I4'.toTry xe
    have home : ∀ {p' : List (Addr × Obj)} {σ' : L2.St} {H' : Hp} {s' : Shared}, Inv (blkX X s3 H3 scope ce fp xe) p' σ' H' s' → Inv X pins σ H' s' ∧ FpOk X pins H' ce.locals ∧ ∃ m, s'.heap.Ns ce.locals m := fun {p' σ' H' s'} I' => by
      refine ⟨I3.call' (ch := fp) I'.os I'.base I'.hok I'.bare fun b hb => ⟨(f3 b hb).1.2.2.2.1, (f3 b hb).1.2.1, (f3 b hb).1.2.2.2.2.1, (f3 b hb).1.2.2.2.2.2⟩, ?_, ?_⟩
      · rw [cL]
        have z : H' ce.locals = none := I'.free
        rw [cL] at z
        exact I3.fpOk (Nat.le_refl _) z
      · obtain ⟨m, hn, _⟩ := I'.loc
        exact ⟨m, hn⟩
    have out : ∀ u t, xe u t → notedBy (model X.prog X.w) X.A ce (fun e t' => Ends1 (model X.prog X.w) X.A X.xe (EP X pins σ Q) (.ref D) ce (.error e) t') u t := fun u t z => by
      rw [← exe] at z
      obtain ⟨z, m, hn⟩ := z
      refine out_of hs hf cF tk (fun _ _ _ z => z) ?_ z hn
      exact notFrame I3 (home I4).2.1
    have pass : ∀ σ', PassesAt (L2.CX X.prog X.w) (blkX X s3 H3 scope ce fp xe) σ' (WE W σ) := fun σ' p' H' s' u t I' c => by
      show xe u t
      rw [← exe]
      obtain ⟨J, fo, m, hn⟩ := home I'
      obtain ⟨o, es, ep, ho, r⟩ := id hn
      obtain ⟨ab, k⟩ := above_of J fo ho c
      exact ⟨ab, m, o, es, ep, k, r⟩
    have pe := pe xe (WE W σ) pass
    have pg := pg xe
    have pt := pt xe
    have stat : ∀ {σ' : L2.St} {H' : Hp} {s' : Shared}, Inv (blkX X s3 H3 scope ce fp xe) [] σ' H' s' → (∀ b ∈ fp, H' b = none) → ∀ b ∈ fp, FpOk (blkX X s3 H3 scope ce fp xe) [] H' b := fun {σ' H' s'} I' hn b hb =>
      ⟨hn b hb, (I'.ok.exf b hb).1, I'.ok.exfs b hb, .inl hb, fun x c e => (I'.ok.exf b hb).2 x c e, fun p hp => absurd (show p ∈ ([] : List (Addr × Obj)) ++ [] from hp) (by simp)⟩
    have loop : codeAny (model X.prog X.w) X.A (.compLoop (.ListComp elt [⟨tg, iter, ifs, 0⟩] scope pos) 0 (.ref it) (.ref D) ce) (Ends1 (model X.prog X.w) X.A X.xe (EP X pins σ Q) (.ref D) ce) s4 := by
      refine compLoop_any (fun n s' => ∃ i H', Inv (blkX X s3 H3 scope ce fp xe) [] (wipe σ (own.map (·.2))) H' s' ∧ tn i s'.heap ∧ (∀ b ∈ fp, H' b = none) ∧ V i n H') ?_ m0 ⟨0, H3, I4, st4, nfp, v0⟩
      rintro n s5 ⟨i, H5, I5, st5, n5, v5⟩
      rcases turn i n H5 v5 with ⟨stop, qq⟩ | ⟨go, Nx, hNx, step⟩
      · refine thnF (T.done (blkX X s3 H3 scope ce fp xe) rfl rfl rfl hc i [] s5 _ H5 (fun _ _ => False) I5 (stat I5 n5) st5 stop) fun r s6 ⟨hr, I6⟩ => ?_
        subst hr
        obtain ⟨J, fo, m, hn⟩ := home I6
        obtain ⟨k0, k1, k2, k3, k4, k5⟩ := fo
        exact ⟨m, hn, fun g sb => ⟨.ref D, H5, J.turned (t' := s6.toks) (fun b o hb z => (sb.2 b hb).trans z) k0 k1 k3 k4 k5, rfl, qq⟩⟩
      · refine thnF (T.item (blkX X s3 H3 scope ce fp xe) rfl rfl rfl hc i [] s5 _ H5 (fun _ _ => False) I5 (stat I5 n5) st5 go) fun r s6 ⟨u, hr, h6⟩ => ?_
        subst hr
        refine thnF h6 fun _ s7 ⟨x, H7, I7, r7, y7, st7, n7⟩ => ?_
        have I7p := I7.pinned (stat I7 n7) (T.obj _ _ st7)
        refine wpAny_mono (pg.run _ s7 _ H7 x u _ I7p r7 (step x H7 y7)) (fun _ s8 ⟨σ8, H8, I8, w8, q8⟩ => ?_) out
        refine wpAny_mono (pt.run _ s8 σ8 H8 _ I8 q8) (fun b s9 ⟨H9, I9, q9⟩ => ?_) out
        have fin : ∀ {s' : Shared} {H' : Hp}, Inv (blkX X s3 H3 scope ce fp xe) ([] ++ pinsAt fp s7.heap) σ8 H' s' → Nx H' → ∃ m, m < n ∧ ∃ i H', Inv (blkX X s3 H3 scope ce fp xe) [] (wipe σ (own.map (·.2))) H' s' ∧ tn i s'.heap ∧ (∀ b ∈ fp, H' b = none) ∧ V i m H' := fun {s' H'} I' nx => by
          obtain ⟨m', lt, v'⟩ := hNx H' nx
          have stay : ∀ b ∈ fp, ∀ o, s7.heap.get? b = some o → s'.heap.get? b = some o ∧ H' b = none := fun b hb o z =>
            let w := I'.pin (b, o) (List.mem_append_right _ (List.mem_append_right _ (mem_pinsAt hb z)))
            ⟨w.1, w.2.1⟩
          have ll : (wipe σ (own.map (·.2))).length = σ8.length := by rw [← w8, wipe_length]
          refine ⟨m', lt, i + 1, H', (I'.unpinned (pins := [])).weak ll (fun j v z => ?_), T.keep _ _ _ st7 fun b hb o z => (stay b hb o z).1, fun b hb => ?_, v'⟩
          · rw [← w8] at z
            exact (wipe_some z).1
          · obtain ⟨o, z, _⟩ := T.obj _ _ st7 b hb
            exact (stay b hb o z).2
        cases b with
        | false =>
          simp only [Bool.false_eq_true, if_false] at q9 ⊢
          exact fin I9 q9
        | true =>
          simp only [if_true] at q9 ⊢
          refine wpAny_mono (pe.run _ s9 σ8 H9 _ I9 q9) (fun z s10 ⟨yv, H10, I10, r10, acc, hD, lz, nx⟩ => ?_) out
          exact app_ok (X := blkX X s3 H3 scope ce fp xe) I10 hD lz r10 fun s11 I11 => fin I11 nx
    exact codeAny_compStart_list loop (T.self X.A 0 _ _ _ st4 loop)
  exact goal
end
theorem rd_lcX {W : WX} {wi : TI} {g : TG} {tt : TT} {te : XK → TE} {vs : List Nat} {σ : L2.St} {H : Hp} {Q : VK} (q : tLc wi g tt (te (WE W σ)) vs σ H Q) : tLcX W wi g tt te vs σ H Q := q
end Qy
/-! min(xs, key=lambda x: x[1]): the first of the least; the def's table of code objects has nothing in it yet -/
namespace Qy
open PySem PySem.Spec PyProof.Rows L2
/-- what stood stands -/
abbrev Stands (h g : Heap) : Prop := ∀ b o, h.get? b = some o → g.get? b = some o
abbrev FirstLeast (kf : Nat → Int) (n i : Nat) : Prop := ∀ j, j < n → kf i ≤ kf j ∧ (j < i → kf i < kf j)
theorem FirstLeast.next {kf : Nat → Int} {n i : Nat} (f : FirstLeast kf n i) (hi : i < n) : FirstLeast kf (n + 1) (if kf n < kf i then n else i) := by
  intro j hj
  have fi := f i hi
  by_cases c : kf n < kf i
  · rw [if_pos c]
    by_cases e : j = n
    · subst e; exact ⟨Int.le_refl _, fun z => absurd z (Nat.lt_irrefl _)⟩
    · have := f j (by omega)
      exact ⟨by omega, fun _ => by omega⟩
  · rw [if_neg c]
    by_cases e : j = n
    · subst e; exact ⟨by omega, fun z => by omega⟩
    · exact f j (by omega)
section
variable {prog : Program} {w : World} {A : Around} {E : Value → Shared → Prop} {s : Shared} {h1 : Heap} {l q I S : Addr} {vs : List Value} {R : Result → Shared → Prop} {Q : Value → Shared → Prop} {kf : Nat → Int}
/-- the key of each item, asked for where all stands that stood in h1 -/
abbrev Keyed (prog : Program) (w : World) (A : Around) (s : Shared) (h1 : Heap) (q : Addr) (vs : List Value) (kf : Nat → Int) : Prop := ∀ (i : Nat) (v : Value), vs[i]? = some v → ∀ (h : Heap) (tk : Nat), Stands h1 h →
  wpAny (model prog w) A.in1 (call (.ref q) [v]) (fun x z => ∃ (h' : Heap) (tk' : Nat) (t : Tok), x = .int (kf i) t ∧ z = { s with heap := h', toks := tk' } ∧ Stands h h') (fun _ _ => False) { s with heap := h, toks := tk }
theorem upd_seq_at {h : Heap} {a : Addr} {items items' : Array Value} {n : Nat} (e : h.get? a = some (seqObj "list" items n)) : ∃ n', (h.update a (Obj.mapSeq fun _ => items')).get? a = some (seqObj "list" items' n') := ⟨_, get?_update_seq e fun _ => items'⟩
theorem min_turns (hh : A.handled = none) (hl : h1.IsList l vs.toArray) (nI : h1.get? I = none) (nS : h1.get? S = none) (IS : S ≠ I) (key : Keyed prog w A s h1 q vs kf)
    (hR : ∀ i v h' tk', vs[i]? = some v → FirstLeast kf vs.length i → Stands h1 h' → R (.ok (.ret v)) { s with heap := h', toks := tk' }) :
    ∀ (r j i : Nat) (h : Heap) (tk : Nat) (vb : Value) (tb : Tok) (c : Nat), vs.length = j + r → Stands h1 h → h.get? S = some (seqObj "list" #[vb, .int (kf i) tb] c) → h.IsListIter I l j → vs[i]? = some vb → i < j → FirstLeast kf j i →
      codeAny (model prog w) A (.builtin "min.loop" ⟨[.ref I, .ref q, .ref S], []⟩) R { s with heap := h, toks := tk } := by
  have nm : (toString "min" ++ toString ".loop" : String) = "min.loop" := by decide
  have lI : l ≠ I := fun z => by obtain ⟨o, e, _⟩ := id hl; rw [z, nI] at e; cases e
  have W := Walks.list (prog := prog) (w := w) (A := A.in1) hh I l lI vs.toArray
  have sz : vs.toArray.size = vs.length := List.size_toArray ..
  have at_ : ∀ {h : Heap}, Stands h1 h → h.IsList l vs.toArray := fun {h} k => by obtain ⟨o, e, r⟩ := id hl; exact ⟨o, k _ _ e, r⟩
  have offI : ∀ {h g : Heap}, Stands h1 h → (∀ b o, b ∉ [I] → h.get? b = some o → g.get? b = some o) → Stands h1 g := fun {h g} k k2 b o e => k2 b o (fun z => by rw [List.mem_singleton.mp z, nI] at e; cases e) (k b o e)
  have offS : ∀ {h g : Heap}, Stands h1 h → Heap.SameBut S h g → Stands h1 g := fun {h g} k k2 b o e => (k2.2 b (fun z => by rw [z, nS] at e; cases e)).trans (k b o e)
  intro r
  induction r with
  | zero =>
    intro j i h tk vb tb c hlen st hS hit hvb ij best
    refine codeAny_builtin (PySem.F.entry_min_loop) (?_)
    rw [Around.under_plainId (PySem.F.plain_min_loop) _]
    show wpAny _ A.in1 ((seqItems? (.ref S)) >>= _) _ _ _
    refine wpAny_bind (wpAny_seqItems hS rfl (?_ : wpAny _ A.in1 (tryCatch (pyNext (.ref I)) _ >>= _) _ _ _))
    refine wpAny_bind (wpAny_tryCatch (W.done _ _ _ ⟨by rw [sz, hlen]; exact hit, at_ st⟩ fun h2 tk2 k2 => ?_))
    have hS2 := k2 S _ (by simpa using IS) hS
    refine wpAny_bind (?_ : wpAny _ A.in1 (updateSeq S fun _ => #[]) _ _ _)
    refine wpAny_updateSeq hS2 rfl (wpAny_bind (wpAny_letGo (wpAny_pure (?_)))
      )
    exact hR i vb _ _ hvb (by rw [hlen]; exact best) (offS (offI st k2) (Heap.SameBut.update h2 S (Obj.mapSeq fun _ => (#[] : Array Value))))
  | succ r ih =>
    intro j i h tk vb tb c hlen st hS hit hvb ij best
    have lt : j < vs.length := by omega
    refine codeAny_builtin (PySem.F.entry_min_loop) (?_)
    rw [Around.under_plainId (PySem.F.plain_min_loop) _]
    show wpAny _ A.in1 ((seqItems? (.ref S)) >>= _) _ _ _
    refine wpAny_bind (wpAny_seqItems hS rfl (?_ : wpAny _ A.in1 (tryCatch (pyNext (.ref I)) _ >>= _) _ _ _))
    refine wpAny_bind (wpAny_tryCatch (W.item j _ _ _ (by rw [sz]; exact lt) ⟨hit, at_ st⟩ fun v h2 tk2 hv st2 k2 => ?_))
    have hv : vs[j]? = some v := by simpa using hv
    have hS2 := k2 S _ (by simpa using IS) hS
    have s2 := offI st k2
    refine wpAny_bind (?_ : wpAny _ A.in1 (tryCatch (holding [v] (call (.ref q) [v])) _) _ _ _)
    refine wpAny_tryCatch (wpAny_holding (wpAny_mono (key j v hv h2 tk2 s2) (fun x z hz => ?_) fun _ _ f => f.elim))
    obtain ⟨h3, tk3, t3, rfl, rfl, k3⟩ := hz
    have s3 : Stands h1 h3 := fun b o e => k3 b o (s2 b o e)
    have hS3 := k3 _ _ hS2
    have it3 : h3.IsListIter I l (j + 1) := by obtain ⟨o, e, r⟩ := id st2.1; exact ⟨o, k3 _ _ e, r⟩
    refine wpAny_bind (?_ : wpAny _ A.in1 (tryCatch (holding [v, .int (kf j) t3] (richCompare .Lt (.int (kf j) t3) (.int (kf i) tb) >>= _)) _) _ _ _)
    refine wpAny_tryCatch (wpAny_holding (wpAny_bind (CmpOf.ints_lt (prog := prog) (w := w) (A := A.in1) (P := fun i v => ∃ t, v = .int (kf i) t) kf (fun _ _ z => z) j i _ _ _ _ _ ⟨t3, rfl⟩ ⟨tb, rfl⟩ (wpAny_bind (wpAny_holding (wpAny_truthy_bool (?_)))))))
    refine wpAny_bind (wpAny_letGo (wpAny_pure (?_)))
    have best' := best.next ij
    by_cases cc : kf j < kf i
    · rw [if_pos cc] at best'
      obtain ⟨c2, hc2⟩ := upd_seq_at (items' := #[v, .int (kf j) t3]) hS3
      have sb := Heap.SameBut.update h3 S (Obj.mapSeq fun _ => #[v, .int (kf j) t3])
      simp only [cc, decide_true, if_true]
      refine wpAny_bind (wpAny_updateSeq hS3 rfl (wpAny_bind (wpAny_letGo (?_))))
      rw [nm]
      exact wpAny_pure ⟨plainId_quiet PySem.F.plain_min_loop _, ih (j + 1) j _ _ v t3 c2 (by omega) (offS s3 sb) hc2 (by obtain ⟨o, e, r⟩ := id it3; exact ⟨o, (sb.2 I IS.symm).trans e, r⟩) hv (Nat.lt_succ_self _) best'⟩
    · rw [if_neg cc] at best'
      simp only [cc, decide_false, Bool.false_eq_true, if_false]
      refine wpAny_bind (wpAny_letGo (?_))
      rw [nm]
      exact wpAny_pure ⟨plainId_quiet PySem.F.plain_min_loop _, ih (j + 1) i _ _ vb tb c (by omega) s3 hS3 it3 hvb (by omega) best'⟩
theorem min_run (hh : A.handled = none) (hl : s.heap.IsList l vs.toArray) (hne : 0 < vs.length) (key : Keyed prog w A s s.heap q vs kf)
    (hQ : ∀ i v h' tk', vs[i]? = some v → FirstLeast kf vs.length i → Stands s.heap h' → Q v { s with heap := h', toks := tk' }) :
    wpAny (model prog w) A (call (.builtin "min") [.ref l] [(Str.ofString "key", .ref q)]) Q E s := by
  have nm : (toString "min" ++ toString ".loop" : String) = "min.loop" := by decide
  refine kmk_tree PySem.F.kind_min PySem.F.plain_min PySem.F.entry_min (kmk_min_key _ _) (?_ : wpAny _ A.in1 (Builtin.Builtins.bindParams "min" ["key", "default"] 0 ⟨[], [(Str.ofString "key", .ref q)]⟩ >>= _) _ _ s)
  refine wpAny_bind (wpAny_of_eq (show Builtin.Builtins.bindParams "min" ["key", "default"] 0 ⟨[], [(Str.ofString "key", .ref q)]⟩ = pure [some (.ref q), none] from rfl) (wpAny_bind (wpAny_pure (?_))))
  refine wpAny_bind (wpAny_pyIter_list hl (wpAny_bind (wpAny_newList (?_) (Nat.zero_le _))))
  rw [nm]
  generalize eI : s.heap.objs.size = I
  have e1 : (s.heap.push { cls := .type "list_iterator", data := .fields #[.ref l, .int 0 0] }).objs.size = I + 1 := by rw [Heap.size_push, eI]
  generalize eg : s.heap.push { cls := .type "list_iterator", data := .fields #[.ref l, .int 0 0] } = g at e1 ⊢
  rw [e1]
  have nI : s.heap.get? I = none := Heap.get?_none_of_le (Nat.le_of_eq eI)
  have nS : s.heap.get? (I + 1) = none := Heap.get?_none_of_le (by omega)
  have lI : l ≠ I := fun z => by obtain ⟨o, e, _⟩ := id hl; rw [z, nI] at e; cases e
  have gI : g.get? I = some { cls := .type "list_iterator", data := .fields #[.ref l, .int 0 0] } := by rw [← eg, ← eI]; exact Heap.get?_push_size _ rfl
  have st0 : Stands s.heap (g.push (seqObj "list" #[] 0)) := fun b o e => Heap.get?_push_of_some _ (by rw [← eg]; exact Heap.get?_push_of_some _ e)
  have gS : (g.push (seqObj "list" #[] 0)).get? (I + 1) = some (seqObj "list" #[] 0) := by rw [← e1]; exact Heap.get?_push_size _ rfl
  have it0 : (g.push (seqObj "list" #[] 0)).IsListIter I l 0 := ⟨_, Heap.get?_push_of_some _ gI, rfl, rfl⟩
  refine wpAny_pure ⟨plainId_quiet PySem.F.plain_min_loop _, codeAny_builtin (PySem.F.entry_min_loop) (?_)⟩
  rw [Around.under_plainId (PySem.F.plain_min_loop) _]
  show wpAny _ A.in1 ((seqItems? (.ref (I + 1))) >>= _) _ _ _
  have W := Walks.list (prog := prog) (w := w) (A := A.in1) hh I l lI vs.toArray
  refine wpAny_bind (wpAny_seqItems gS rfl (?_ : wpAny _ A.in1 (tryCatch (pyNext (.ref I)) _ >>= _) _ _ _))
  have ls0 : (g.push (seqObj "list" #[] 0)).IsList l vs.toArray := by obtain ⟨o, e, r⟩ := id hl; exact ⟨o, st0 _ _ e, r⟩
  refine wpAny_bind (wpAny_tryCatch (W.item 0 _ _ _ (by rw [List.size_toArray]; exact hne) ⟨it0, ls0⟩ fun v h2 tk2 hv st2 k2 => ?_))
  have hv : vs[0]? = some v := by simpa using hv
  have hS2 := k2 (I + 1) _ (by simp) gS
  have s2 : Stands s.heap h2 := fun b o e => k2 b o (fun z => by rw [List.mem_singleton.mp z, nI] at e; cases e) (st0 b o e)
  refine wpAny_bind (?_ : wpAny _ A.in1 (tryCatch (holding [v] (call (.ref q) [v])) _) _ _ _)
  refine wpAny_tryCatch (wpAny_holding (wpAny_mono (key 0 v hv h2 tk2 s2) (fun x z hz => ?_) fun _ _ f => f.elim))
  obtain ⟨h3, tk3, t3, rfl, rfl, k3⟩ := hz
  obtain ⟨c2, hc2⟩ := upd_seq_at (items' := #[v, .int (kf 0) t3]) (k3 _ _ hS2)
  have sb := Heap.SameBut.update h3 (I + 1) (Obj.mapSeq fun _ => #[v, .int (kf 0) t3])
  refine wpAny_bind (?_ : wpAny _ A.in1 (updateSeq (I + 1) fun _ => #[v, .int (kf 0) t3]) _ _ _)
  refine wpAny_updateSeq (k3 _ _ hS2) rfl (?_)
  rw [nm]
  refine wpAny_pure ⟨plainId_quiet PySem.F.plain_min_loop _, min_turns hh hl nI nS (Nat.succ_ne_self I) key hQ (vs.length - 1) 1 0 _ _ v t3 c2 (by omega) (fun b o e => (sb.2 b (fun z => by rw [z, nS] at e; cases e)).trans (k3 b o (s2 b o e))) hc2 ?_ hv (by decide) ?_⟩
  · obtain ⟨o, e, r⟩ := id st2.1
    exact ⟨o, (sb.2 I (Nat.succ_ne_self I).symm).trans (k3 _ _ e), r⟩
  · intro j hj
    have : j = 0 := by omega
    subst this
    exact ⟨Int.le_refl _, fun z => absurd z (Nat.lt_irrefl _)⟩

/-- a lambda of one name and nothing else -/
def oneB (scope : Scope) (x : Str) : Bool := decide (scope.kind = .function) && !scope.isCoroutine && !scope.isGenerator && decide (scope.names = [(x, NameKind.local)])
theorem key_at {x qual : Str} {p1 p2 p3 : Pos} {j : Nat} {params : Arguments} {scope : Scope} {f c' : Addr} {pm ctv : Value} {h2 : Heap} (hsc : oneB scope x = true) (hd : (x == ("__debug__" : Str)) = false)
    (ho : h2.get? f = some (PySem.W.kla_obj "<lambda>" qual params (.Subscript (.Name x p1) (.Constant (.int 1) j p2) p3) scope [] pm c' ctv)) (hcd : h2.CodeRec (.ref c') qual)
    (hb : ∀ v, bindArgs (PySem.W.kla_fn "<lambda>" qual params (.Subscript (.Name x p1) (.Constant (.int 1) j p2) p3) scope [] pm (.ref c') ctv) ⟨[v], []⟩ = pure [(x, v)])
    (room : A.in1.depth < recursionLimit) (nl : h2.NoLimit) (hvs : ∀ i v, vs[i]? = some v → ∃ a tt t, v = .ref a ∧ IsTup h2 a tt ∧ tt[1]? = some (.int (kf i) t))
    (hs : ∀ a u, subscripted (.Constant (.int 1) j p2) false (.ref a) (.int 1 u) = operate [.ref a, .int 1 u] (getItem (.ref a) (.int 1 u))) (hgo : ∀ a r, letTemporaryGo (.Name x p1) (.ref a) r = pure ()) : Keyed prog w A s h2 f vs kf := by
  unfold oneB at hsc
  simp only [Bool.and_eq_true, Bool.not_eq_true', decide_eq_true_eq] at hsc
  obtain ⟨⟨⟨k1, k2⟩, k3⟩, k4⟩ := hsc
  intro i v hv h tk st
  obtain ⟨a, tt, t, rfl, lt, ht⟩ := hvs i v hv
  refine wpAny_call (PySem.W.kla_callFunE (A := A.in1) room (st _ _ ho) rfl k2 k3 rfl (by obtain ⟨c0, oc, us, tq, r1, r2, r3⟩ := hcd; exact ⟨c0, oc, us, tq, r1, st _ _ r2, r3⟩) ?_)
  rw [hb]
  refine wpAny_pure (wpAny_newFunctionEnv (fun y hy => ?_) (fun y hy => ?_) (fun h3 hns hsb => ⟨?_, PySem.W.kla_codeExpr ?_⟩) k1)
  · have hy : y ∈ scope.names := hy
    rw [k4, List.mem_singleton] at hy
    subst hy
    simp
  · rw [List.mem_singleton] at hy
    subst hy
    show scope.names.lookup x = _
    rw [k4]
    simp
  · exact ((nl.keeps st).fresh _ hsb)
  have k3' : Stands h h3 := fun b o e => hsb.extBut b o (Nat.ne_of_lt (Heap.lt_size e)) (Heap.get?_push_of_some _ e)
  refine Subscript_ (wpAny_Name (wpAny_loadName_local (show scope.kind = .function from k1) (show scope.names.lookup x = some .local by rw [k4]; simp) hns (show ([(x, Value.ref a)].reverse).lookup x = some (.ref a) by simp) (wpAny_Constant_int (?_))) hd)
  have lt3 : IsTup h3 a tt := by obtain ⟨o, e, r⟩ := id lt; exact ⟨o, k3' _ _ (st _ _ e), r⟩
  have h1 : 1 < tt.size := (Array.getElem?_eq_some_iff.mp ht).1
  refine item_tuple (j := 1) lt3 (by decide) (by decide) ?_ ht ⟨h3, _, t, rfl, rfl, k3'⟩ (hs _ _) (hgo a)
  unfold seqIndex?
  have z : (0 : Int) ≤ 1 := by decide
  simp
  omega
end
section
variable {X : Cx}
def tMinL (K : PySem.W.Frag) (P : Addr) (te : TE) : TE := fun σ H Q => te σ H fun v H1 => ∃ (yl : Addr) (xs : List V) (kf : Nat → Int), v = .ref yl ∧ SqL K H1 yl xs ∧ H1 P = some (.tbl #[]) ∧ 0 < xs.length ∧
  (∀ i v, xs[i]? = some v → ∃ a us, v = .ref a ∧ SqT K H1 a us ∧ us[1]? = some (.int (kf i))) ∧ ∀ i v H2, xs[i]? = some v → FirstLeast kf xs.length i → Qg.ExT H1 H2 → Q v H2
theorem pe_minL {c P : Addr} {e : Expr} {x : Str} {p pos kpos lpos p1 p2 p3 : Pos} {j k : Nat} {params : Arguments} {scope : Scope} {te : TE} {K : PySem.W.Frag} (hK : X.K = K) (hr : Room k X.A) (TB : GxR.TabB X.base X.mg c P) (hm : X.mg "min" = none)
    (hcode : X.env.code = .ref c) (hsc : oneB scope x = true) (hdef : defaultsOf params X.env = ([], []))
    (hb : ∀ (qual : Str) (pm : Value) (c' : Addr) (ctv v : Value), bindArgs (PySem.W.kla_fn "<lambda>" qual params (.Subscript (.Name x p1) (.Constant (.int 1) j p2) p3) scope [] pm (.ref c') ctv) ⟨[v], []⟩ = pure [(x, v)])
    (ha : PA X [e] (tCons te tNil)) (hg : Gl X "min" := by rfl) (hd : (x == ("__debug__" : Str)) = false := by decide)
    (hs : ∀ a u, subscripted (.Constant (.int 1) j p2) false (.ref a) (.int 1 u) = operate [.ref a, .int 1 u] (getItem (.ref a) (.int 1 u)) := by intro _ _; with_unfolding_all rfl) (hgo : ∀ a r, letTemporaryGo (.Name x p1) (.ref a) r = pure () := by intro _ _; with_unfolding_all rfl)
    (he : backTo pos (starEach [e] X.env) = (false, eval e X.env) :: backTo pos (starEach [] X.env) := by rfl) (hpl : (backTo pos (starEach [e] X.env)).any (·.1) = false := by rfl) :
    PE X (.Call (.Name "min" p) [e] [⟨some "key", .Lambda params (.Subscript (.Name x p1) (.Constant (.int 1) j p2) p3) scope lpos, kpos⟩] pos) (tMinL K P te) := by
  subst hK
  refine ⟨fun pins s σ H Q I h => ?_⟩
  refine wpAny_Call_Name_kw (ld_blt I hg hm boot_min (?_))
  refine PyProof.Rows.callWith_kw (thn (ha.run pos pins s σ H (fun us H1 => match us with
    | [v] => ∃ (yl : Addr) (xs : List V) (kf : Nat → Int), v = .ref yl ∧ SqL X.K H1 yl xs ∧ H1 P = some (.tbl #[]) ∧ 0 < xs.length ∧
      (∀ i v, xs[i]? = some v → ∃ a us, v = .ref a ∧ SqT X.K H1 a us ∧ us[1]? = some (.int (kf i))) ∧ ∀ i v H2, xs[i]? = some v → FirstLeast kf xs.length i → Qg.ExT H1 H2 → Q v H2
    | _ => False) I h) fun us s1 hz => ?_) he hpl rfl rfl
  obtain ⟨vs, H1, I1, r1, hz⟩ := hz
  match vs, hz, r1 with
  | [], hz, _ => exact hz.elim
  | _ :: _ :: _, hz, _ => exact hz.elim
  | [v], hz, r1 =>
  obtain ⟨yl, xs, kf, rfl, hyl, hP, hne, hks, hQ⟩ := hz
  obtain rfl := Vals.ref1 r1
  obtain ⟨its, rv, hl, hz⟩ := I1.list hyl
  have eP : s1.heap.get? P = some { cls := .none, data := .fields #[] } := I1.hok P _ hP
  show wpAny _ _ (evalAll ((do let v ← eval (.Lambda params (.Subscript (.Name x p1) (.Constant (.int 1) j p2) p3) scope lpos) X.env; standAt pos; pure v) :: [])) _ _ s1
  have h4 := hsc
  unfold oneB at h4
  simp only [Bool.and_eq_true, Bool.not_eq_true', decide_eq_true_eq] at h4
  obtain ⟨⟨⟨k1, k2⟩, k3⟩, k4⟩ := h4
  have hcl : closureFor scope X.env = pure [] := by
    rw [closure_ok (fun y hy e => by rw [k4, List.mem_singleton] at hy; subst hy; cases e), k4]
    rfl
  refine wpAny_evalAll_cons (wpAny_bind (PySem.W.kla_eval hdef (PySem.W.kla_makeFunction (mg := X.mg) (c := c) (P := P) (ps := #[]) hcl I1.ok.glob (I1.mod.glob.keeps I1.bk) hcode (TB.code.keeps I1.bk) eP trivial rfl TB.gP (TB.bm.keeps I1.bk) fun c' ctv h' tk hx hge hlt hrec htb => ?_)))
  refine wpAny_bind (wpAny_standAt (wpAny_pure (wpAny_evalAll_nil ?_)))
  generalize ef : h'.push (PySem.W.kla_obj "<lambda>" (X.env.qual ++ "<lambda>") params (.Subscript (.Name x p1) (.Constant (.int 1) j p2) p3) scope [] ((X.mg "__name__").getD .none) c' ctv) = h2
  have up : Stands h' h2 := fun b o q => by rw [← ef]; exact Heap.get?_push_of_some _ q
  have old : ∀ b o, b ≠ P → s1.heap.get? b = some o → h2.get? b = some o := fun b o n q => up b o (hx b o n q)
  have eF : h2.get? h'.objs.size = some (PySem.W.kla_obj "<lambda>" (X.env.qual ++ "<lambda>") params (.Subscript (.Name x p1) (.Constant (.int 1) j p2) p3) scope [] ((X.mg "__name__").getD .none) c' ctv) := by rw [← ef]; exact Heap.get?_push_size _ rfl
  have off : ∀ b o, s1.heap.get? b = some o → (∀ us, o.data ≠ .fields us) → b ≠ P := fun b o q n z => by
    rw [z, eP] at q
    cases q
    exact n _ rfl
  have ls : h2.IsList yl its.toArray := by
    obtain ⟨o, q, r1, r2, d⟩ := hl.isList
    exact ⟨o, old _ _ (off _ _ q fun us z => by rw [d] at z; cases z) q, r1, r2, d⟩
  have nl : h2.NoLimit := by
    obtain ⟨mc, ⟨ob, es, ep, q, d, r⟩, z⟩ := I1.nolimit
    exact ⟨mc, ⟨ob, es, ep, old _ _ (off _ _ q fun us z => by rw [d] at z; cases z) q, d, r⟩, z⟩
  have rec2 : h2.CodeRec (.ref c') (X.env.qual ++ "<lambda>") := by
    obtain ⟨c0, oc, us, tq, q1, q2, q3⟩ := hrec
    exact ⟨c0, oc, us, tq, q1, up _ _ q2, q3⟩
  have ln : its.toArray.size = xs.length := by rw [List.size_toArray, rv.length]
  have lv : its.length = xs.length := rv.length.symm
  refine min_run (s := { s1 with heap := h2, toks := tk }) (vs := its) (kf := kf) hr.hd ls (by rw [lv]; exact hne) (key_at (h2 := h2) hsc hd eF rec2 (fun v => hb _ _ _ _ v) (by have := hr.dp; show X.A.depth < _; omega) nl (fun i v hv => ?_) hs hgo) fun i v h3 tk3 hv fl st => ?_
  · have hi : i < its.length := (List.getElem?_eq_some_iff.mp hv).1
    obtain ⟨w, hw⟩ : ∃ w, xs[i]? = some w := ⟨_, List.getElem?_eq_getElem (show i < xs.length by omega)⟩
    obtain ⟨a, us, rfl, ha', hu⟩ := hks i w hw
    obtain ⟨u, hu', ra⟩ := rv.get hw
    rw [hv] at hu'
    obtain rfl : v = u := Option.some.inj hu'
    obtain rfl : v = Value.ref a := ra
    obtain ⟨tt, rt, lt, tz⟩ := I1.tuple ha'
    obtain ⟨w1, ew1, rw1⟩ := rt.get hu
    obtain ⟨t1, rfl⟩ := (show ∃ t, w1 = Value.int (kf i) t from rw1)
    refine ⟨a, tt.toArray, t1, rfl, ?_, by simpa using ew1⟩
    obtain ⟨o, q, c1, n1, d⟩ := lt
    exact ⟨o, old _ _ (off _ _ q fun us z => by rw [d] at z; cases z) q, c1, n1, d⟩
  · have hi : i < its.length := (List.getElem?_eq_some_iff.mp hv).1
    obtain ⟨w, hw⟩ : ∃ w, xs[i]? = some w := ⟨_, List.getElem?_eq_getElem (show i < xs.length by omega)⟩
    obtain ⟨u, hu', ra⟩ := rv.get hw
    rw [hv] at hu'
    obtain rfl : v = u := Option.some.inj hu'
    have J := GxR.inv_tab (more := #[rawInt lpos.line, rawInt lpos.col, .ref c']) (h' := h3) (g' := s1.gens) (d' := s1.drawn) (t' := tk3) I1 hP (fun b o n q => st _ _ (old b o n q)) (by rw [show (#[] ++ #[rawInt lpos.line, rawInt lpos.col, Value.ref c'] : Array Value) = #[rawInt lpos.line, rawInt lpos.col, .ref c'] by simp]; exact st _ _ (up _ _ (by simpa using htb))) I1.bare
    refine ⟨w, _, J, ra, hQ i w _ hw (by rw [← lv]; exact fl) (Qg.ExT.tabbed ⟨_, hP, trivial⟩ ⟨⟨_, upd_same, ?_⟩, fun b n => upd_ne n⟩)⟩
    exact PySem.TriplesOk_snoc _ _ _ [] trivial
end
theorem rd_minL {K : PySem.W.Frag} {P : Addr} {te : TE} {σ : L2.St} {H : Hp} {Q : VK} (q : te σ H fun v H1 => ∃ (yl : Addr) (xs : List V) (kf : Nat → Int), v = .ref yl ∧ SqL K H1 yl xs ∧ H1 P = some (.tbl #[]) ∧ 0 < xs.length ∧
  (∀ i v, xs[i]? = some v → ∃ a us, v = .ref a ∧ SqT K H1 a us ∧ us[1]? = some (.int (kf i))) ∧ ∀ i v H2, xs[i]? = some v → FirstLeast kf xs.length i → Qg.ExT H1 H2 → Q v H2) : tMinL K P te σ H Q := q
end Qy
/-! list comprehensions of two clauses -/
namespace Qy
open PySem PySem.Spec PyProof.Rows L2 Qa
/-- the second clause's loop, from H to what is wanted behind it -/
def In1 (J : It) (g : TG) (tt : TT) (te : TE) (vs : List Nat) (σ : L2.St) (D : Addr) (H : Hp) (Nx : Hp → Prop) : Prop := ∃ W : Nat → Nat → Hp → Prop, (∃ m, W 0 m H) ∧ ∀ j k H, W j k H →
  (J.stop j H ∧ Nx H) ∨ (J.go j H ∧ ∃ Nx1 : Hp → Prop, (∀ H', Nx1 H' → ∃ k', k' < k ∧ W (j + 1) k' H') ∧ ∀ x H', J.yld j H x H' → g x (wipe σ vs) H' fun σ3 H5 => wipe σ3 vs = wipe σ vs ∧ tt σ3 H5 fun b H6 =>
    if b = true then te σ3 H6 fun y H7 => ∃ acc, H7 D = some (.lst acc) ∧ acc.length < sizeLine ∧ Nx1 (upd H7 D (.lst (acc ++ [y]))) else Nx1 H6)
def Lc2W (J : It) (g : TG) (tt : TT) (wi1 : TI) (g1 : TG) (tt1 : TT) (te : TE) (vs vs1 : List Nat) (σ : L2.St) (H1 : Hp) (Q : VK) : Prop := ∀ D, H1 D = none → ∃ W : Nat → Nat → Hp → Prop, (∃ m, W 0 m (upd H1 D (.lst []))) ∧ ∀ i m H, W i m H →
  (J.stop i H ∧ Q (.ref D) H) ∨ (J.go i H ∧ ∃ Nx : Hp → Prop, (∀ H', Nx H' → ∃ m', m' < m ∧ W (i + 1) m' H') ∧ ∀ x H', J.yld i H x H' → g x (wipe σ vs) H' fun σ2 H2 => wipe σ2 vs = wipe σ vs ∧ tt σ2 H2 fun b H3 =>
    if b = true then wi1 σ2 H3 fun J1 H4 => In1 J1 g1 tt1 te vs1 σ2 D H4 Nx else Nx H3)
section
variable {K : PySem.W.Frag} {σ : L2.St} {H : Hp} {Q : VK} {g g1 : TG} {tt tt1 : TT} {wi1 : TI} {te tl : TE} {vs vs1 : List Nat} {D : Addr} {Nx : Hp → Prop}
theorem rd_lc2S (q : tl σ H fun x H1 => ((∃ a, x = .ref a ∧ (∃ xs, SqL K H1 a xs) ∧ Lc2W (Itl K a) g tt wi1 g1 tt1 te vs vs1 σ H1 Q) ∨ (∃ a, x = .ref a ∧ (∃ xs, SqT K H1 a xs) ∧ Lc2W (Itt K a) g tt wi1 g1 tt1 te vs vs1 σ H1 Q)) ∨ ∃ z, x = .str z ∧ Lc2W (Its z) g tt wi1 g1 tt1 te vs vs1 σ H1 Q) :
    tLc2 (iSeq K tl) g tt wi1 g1 tt1 te vs vs1 σ H Q := q
theorem lc2W_L {a : Addr} (xs : List V) (Pv : Addr → Nat → Hp → Prop) (h0 : ∀ D H', H D = none → Ex H H' → H' D = some (.lst []) → Pv D 0 H') (hl : ∀ D i H', H D = none → i ≤ xs.length → Pv D i H' → SqL K H' a xs)
    (hs : ∀ D i x H', H D = none → xs[i]? = some x → Pv D i H' → g x (wipe σ vs) H' fun σ2 H2 => wipe σ2 vs = wipe σ vs ∧ tt σ2 H2 fun b H3 => if b = true then wi1 σ2 H3 fun J1 H4 => In1 J1 g1 tt1 te vs1 σ2 D H4 (Pv D (i + 1)) else Pv D (i + 1) H3)
    (hd : ∀ D H', H D = none → Pv D xs.length H' → Q (.ref D) H') : Lc2W (Itl K a) g tt wi1 g1 tt1 te vs vs1 σ H Q := fun D hD => by
  refine ⟨fun i m H' => m = xs.length - i ∧ i ≤ xs.length ∧ Pv D i H', ⟨xs.length, by simp, Nat.zero_le _, h0 D _ hD (Evl.Ex.new hD) upd_same⟩, ?_⟩
  rintro i m H' ⟨rfl, hi, p⟩
  have q := hl D i H' hD hi p
  by_cases lt : i < xs.length
  · refine .inr ⟨⟨xs, xs[i], q, by simp [lt]⟩, Pv D (i + 1), fun H2 p2 => ⟨xs.length - (i + 1), by omega, rfl, lt, p2⟩, fun x H2 y => ?_⟩
    obtain ⟨rfl, y⟩ := y
    exact hs D i x _ hD (y xs q) p
  · obtain rfl : i = xs.length := by omega
    exact .inl ⟨⟨xs, q, Nat.le_refl _⟩, hd D H' hD p⟩
theorem in1_T {a : Addr} (ys : List V) (Pw : Nat → Hp → Prop) (h0 : Pw 0 H) (hl : ∀ j H', j ≤ ys.length → Pw j H' → SqT K H' a ys)
    (hs : ∀ j y H', ys[j]? = some y → Pw j H' → g1 y (wipe σ vs1) H' fun σ3 H5 => wipe σ3 vs1 = wipe σ vs1 ∧ tt1 σ3 H5 fun b H6 =>
      if b = true then te σ3 H6 fun z H7 => ∃ acc, H7 D = some (.lst acc) ∧ acc.length < sizeLine ∧ Pw (j + 1) (upd H7 D (.lst (acc ++ [z]))) else Pw (j + 1) H6)
    (hd : ∀ H', Pw ys.length H' → Nx H') : In1 (Itt K a) g1 tt1 te vs1 σ D H Nx := by
  refine ⟨fun j k H' => k = ys.length - j ∧ j ≤ ys.length ∧ Pw j H', ⟨ys.length, by simp, Nat.zero_le _, h0⟩, ?_⟩
  rintro j k H' ⟨rfl, hj, p⟩
  have q := hl j H' hj p
  by_cases lt : j < ys.length
  · refine .inr ⟨⟨ys, ys[j], q, by simp [lt]⟩, Pw (j + 1), fun H2 p2 => ⟨ys.length - (j + 1), by omega, rfl, lt, p2⟩, fun x H2 y => ?_⟩
    obtain ⟨rfl, y⟩ := y
    exact hs j x _ (y ys q) p
  · obtain rfl : j = ys.length := by omega
    exact .inl ⟨⟨ys, q, Nat.le_refl _⟩, hd H' p⟩
theorem rd_iseq {R : It → Hp → Prop} (q : tl σ H fun x H1 => ((∃ a, x = .ref a ∧ (∃ xs, SqL K H1 a xs) ∧ R (Itl K a) H1) ∨ (∃ a, x = .ref a ∧ (∃ xs, SqT K H1 a xs) ∧ R (Itt K a) H1)) ∨ ∃ z, x = .str z ∧ R (Its z) H1) : iSeq K tl σ H R := q
end
end Qy
/-! a def that may raise and whose code object is known; a call that may raise within a comprehension -/
namespace Qy
open PySem PySem.Spec PyProof.Rows L2 Qa Qe
section
variable {P : Program} {w : World} {K : PySem.W.Frag} {mg : Str → Option Value} {base : Heap} {x : Str} {st : Stmt} {N ps : List Str} {k : Nat} {c : Addr}
theorem calX_mkC {sp : Sp} (F : FunAt K mg x st) (C : Qg.CodeIs K mg x c) (S : FnScope N ps (defScope st)) (hb : BindOk x st ps) (len : ∀ vs H Q E, sp vs H Q E → vs.length = ps.length)
    (hbody : ∀ (f : Addr) (A : Around) (outer : List Env) (s : Shared) (H : Hp) (vs : List V) (Q : VK) (E : XK), Room k (A.deeper (envOfC x (defScope st) s.heap.objs.size f (.ref c))) → sp vs H Q E →
      ∃ t, PSs (cxOf (L2.CX P w) P w K mg base N x (defScope st) f (.ref c) A outer s H E) (defBody st) t ∧ t { nx := fun _ H' => Q .non H', rt := Q } (start N vs) H) : CalX P w K mg base x (k + 1) ps sp := by
  obtain ⟨f, fd, F, hm⟩ := F
  have hbs := F.binds hb
  have hkp := F.kp
  obtain ⟨oc, od, kV, doc, pm, an, cdv, ct, osl, rfl, lk, hcd⟩ := F.ex
  have e : cdv = .ref c := C f oc od _ osl hm lk
  subst e
  exact ⟨f, _, fn_of lk hcd S len fun A outer s H vs Q E hr hsp => hbody f A outer s H vs Q E hr hsp, hm, hkp, hbs⟩
theorem calX2C {f : V → V → Hp → VK → XK → Prop} (F : FunAt K mg x st) (C : Qg.CodeIs K mg x c) (S : FnScope N ps (defScope st)) (hb : BindOk x st ps) (hn : ps.length = 2)
    (hbody : ∀ (g : Addr) (A : Around) (outer : List Env) (s : Shared) (H : Hp) (a b : V) (Q : VK) (E : XK), Room k (A.deeper (envOfC x (defScope st) s.heap.objs.size g (.ref c))) → f a b H Q E →
      ∃ t, PSs (cxOf (L2.CX P w) P w K mg base N x (defScope st) g (.ref c) A outer s H E) (defBody st) t ∧ t { nx := fun _ H' => Q .non H', rt := Q } (start N [a, b]) H) : CalX P w K mg base x (k + 1) ps (spX2 f) :=
  calX_mkC F C S hb (fun vs H Q E h => by obtain ⟨a, b, rfl, _⟩ := h; exact hn.symm) fun g A outer s H vs Q E hr h => by obtain ⟨a, b, rfl, h⟩ := h; exact hbody g A outer s H a b Q E hr h
end
theorem pe_calP {X : Cx} {E : XK} {x : Str} {k : Nat} {ps : List Str} {sp : Sp} {e : Expr} {es : List Expr} {t : TA} {p pos : Pos} (c : CalX X.prog X.w X.K X.mg X.base x k ps sp) (hr : Room k X.A) (pa : ∀ σ, PassesAt (L2.CX X.prog X.w) X σ E) (ha : PA X (e :: es) t) (hg : Gl X x := by rfl)
    (hdb : (x == ("__debug__" : Str)) = false := by decide) (he : starEach (e :: es) X.env = (false, eval e X.env) :: starEach es X.env := by rfl) (hpl : (backTo pos (starEach es X.env)).any (·.1) = false := by rfl) :
    PE X (.Call (.Name x p) (e :: es) [] pos) (tCallS sp (fun _ => E) t) := by
  obtain ⟨f, fd, F, hm, hk, hb⟩ := c
  exact pe_callS F hr hg hm hk hb pa ha hdb he hpl
end Qy
set_option maxHeartbeats 1000000
/-! all choices, counted -/
namespace Qy
open Qw Qa
def rowsB : Nat → List (List Bool)
  | 0 => [[]]
  | c + 1 => (rowsB c).flatMap fun r => [r ++ [false], r ++ [true]]
def chs (ch : Nat) : Nat → List (List (List Bool))
  | 0 => [[]]
  | n + 1 => (chs ch n).flatMap fun c => (rowsB ch).map fun r => c ++ [r]
def bits : Nat → Nat → List Bool
  | 0, _ => []
  | m + 1, k => bits m (k / 2) ++ [decide (k % 2 = 1)]
theorem bits_len (m : Nat) : ∀ k, (bits m k).length = m := by
  induction m with
  | zero => intro k; rfl
  | succ m ih => intro k; show (bits m (k / 2) ++ [_]).length = _; rw [List.length_append, ih]; rfl
theorem bits_front (m : Nat) : ∀ k, bits (m + 1) k = decide (k / 2 ^ m % 2 = 1) :: bits m k := by
  induction m with
  | zero => intro k; simp [bits]
  | succ m ih =>
    intro k
    show bits (m + 1) (k / 2) ++ [_] = _ :: (bits m (k / 2) ++ [_])
    rw [ih, List.cons_append, Nat.div_div_eq_div_mul, Nat.pow_succ, Nat.mul_comm 2]
theorem bits_app (m c : Nat) : ∀ i j, j < 2 ^ c → bits (m + c) (i * 2 ^ c + j) = bits m i ++ bits c j := by
  induction c with
  | zero => intro i j hj; have : j = 0 := by simpa using hj
            subst this; simp [bits]
  | succ c ih =>
    intro i j hj
    show bits (m + c) ((i * 2 ^ (c + 1) + j) / 2) ++ [_] = bits m i ++ (bits c (j / 2) ++ [_])
    have e0 : i * 2 ^ (c + 1) = 2 * (i * 2 ^ c) := by rw [Nat.pow_succ, ← Nat.mul_assoc, Nat.mul_comm]
    have e1 : (i * 2 ^ (c + 1) + j) / 2 = i * 2 ^ c + j / 2 := by omega
    have e2 : (i * 2 ^ (c + 1) + j) % 2 = j % 2 := by omega
    rw [e1, e2, ih i (j / 2) (by rw [Nat.pow_succ] at hj; omega), List.append_assoc]
theorem range_mul (a b : Nat) : List.range (a * b) = (List.range a).flatMap fun i => (List.range b).map fun j => i * b + j := by
  induction a with
  | zero => simp
  | succ a ih => rw [Nat.succ_mul, List.range_add, ih, List.range_succ, List.flatMap_append]; simp
theorem flat_congr {α β : Type} {f g : α → List β} {l : List α} (h : ∀ x ∈ l, f x = g x) : l.flatMap f = l.flatMap g := by
  induction l with
  | nil => rfl
  | cons x l ih => rw [List.flatMap_cons, List.flatMap_cons, h x List.mem_cons_self, ih fun y hy => h y (List.mem_cons_of_mem _ hy)]
theorem rowsB_eq (c : Nat) : rowsB c = (List.range (2 ^ c)).map (bits c) := by
  induction c with
  | zero => simp [rowsB, bits]
  | succ c ih =>
    show (rowsB c).flatMap _ = _
    rw [ih, Nat.pow_succ, range_mul, List.map_flatMap, List.flatMap_map]
    refine flat_congr fun i _ => ?_
    have h0 := bits_app c 1 i 0 (by decide)
    have h1 := bits_app c 1 i 1 (by decide)
    simp only [show List.range 2 = [0, 1] from rfl, List.map_cons, List.map_nil]
    rw [show (2 : Nat) = 2 ^ 1 from rfl, h0, h1]
    rfl
def chunk (c n : Nat) (bs : List Bool) : List (List Bool) := (List.range n).map fun j => (bs.drop (j * c)).take c
theorem chunk_snoc {c n : Nat} {xs ys : List Bool} (hx : xs.length = n * c) (hy : ys.length = c) : chunk c (n + 1) (xs ++ ys) = chunk c n xs ++ [ys] := by
  unfold chunk
  rw [List.range_succ, List.map_append]
  congr 1
  · refine List.map_congr_left fun j hj => ?_
    have hj := List.mem_range.mp hj
    have : j * c + c ≤ n * c := by rw [← Nat.succ_mul]; exact Nat.mul_le_mul_right c hj
    rw [List.drop_append_of_le_length (by omega), List.take_append_of_le_length (by rw [List.length_drop]; omega)]
  · rw [List.map_singleton, ← hx, List.drop_left, List.take_of_length_le (by omega)]
theorem chs_eq (ch n : Nat) : chs ch n = (List.range (2 ^ (n * ch))).map fun k => chunk ch n (bits (n * ch) k) := by
  induction n with
  | zero => simp [chs, chunk, bits]
  | succ n ih =>
    show (chs ch n).flatMap _ = _
    rw [ih, rowsB_eq, Nat.succ_mul, Nat.pow_add, range_mul, List.map_flatMap, List.flatMap_map]
    refine flat_congr fun i _ => ?_
    rw [List.map_map, List.map_map]
    refine List.map_congr_left fun j hj => ?_
    show _ ++ [bits ch j] = chunk ch (n + 1) (bits (n * ch + ch) (i * 2 ^ ch + j))
    rw [bits_app _ _ _ _ (List.mem_range.mp hj), chunk_snoc (bits_len _ _) (bits_len _ _)]
theorem rowsB_len (c : Nat) : (rowsB c).length = 2 ^ c := by rw [rowsB_eq, List.length_map, List.length_range]
theorem rowsB_each {c : Nat} {r : List Bool} (h : r ∈ rowsB c) : r.length = c := by
  rw [rowsB_eq] at h
  obtain ⟨k, _, rfl⟩ := List.mem_map.mp h
  exact bits_len _ _
theorem chs_len (ch n : Nat) : (chs ch n).length = 2 ^ (n * ch) := by rw [chs_eq, List.length_map, List.length_range]
theorem chunk_len (c n : Nat) (bs : List Bool) : (chunk c n bs).length = n := by unfold chunk; rw [List.length_map, List.length_range]
theorem chs_each {ch n : Nat} {c : List (List Bool)} (h : c ∈ chs ch n) : c.length = n ∧ ∀ r ∈ c, r.length = ch := by
  rw [chs_eq] at h
  obtain ⟨k, _, rfl⟩ := List.mem_map.mp h
  refine ⟨chunk_len _ _ _, fun r hr => ?_⟩
  obtain ⟨j, hj, rfl⟩ := List.mem_map.mp hr
  have hj := List.mem_range.mp hj
  rw [List.length_take, List.length_drop, bits_len]
  have : j * ch + ch ≤ n * ch := by rw [← Nat.succ_mul]; exact Nat.mul_le_mul_right ch hj
  omega
/-- what is owed in some years -/
def sumO (ow : Nat) (Ls : List (List Int)) : Int := (Ls.map fun L => L.getD ow 0).sum
theorem sumO_snoc (ow : Nat) (Ls : List (List Int)) (L : List Int) : sumO ow (Ls ++ [L]) = sumO ow Ls + L.getD ow 0 := by
  unfold sumO
  rw [List.map_append, List.sum_append]
  simp
end Qy
/-! zip of a list and a tuple -/
namespace Qz
open PySem PySem.Spec PyProof.Rows L2
section
variable {prog : Program} {w : World} {A : Around} {E : Value → Shared → Prop} {s : Shared}
/-- an iterator of zip's: at the k-th turn it stands so, and its next item is found -/
structure Draws (prog : Program) (w : World) (A : Around) (it l : Addr) (St : Heap → Nat → Prop) (items : Array Value) : Prop where
  off : ∀ (h g : Heap) (k : Nat) (c : Addr), c ≠ it → c ≠ l → Heap.SameBut c h g → St h k → St g k
  next : ∀ (s : Shared) (E : Value → Shared → Prop) (k : Nat) (x : Value) (Q : Value → Shared → Prop), St s.heap k → items[k]? = some x → (∀ g, St g (k + 1) → Heap.SameBut it s.heap g → Q x { s with heap := g }) → wpAny (model prog w) A (Builtin.SmallTypes.nextOf (.ref it)) Q E s
theorem draws_list {it l : Addr} (n : l ≠ it) (items : Array Value) : Draws prog w A it l (fun h k => h.IsListIter it l k ∧ h.IsList l items) items where
  off := fun h g k c n1 n2 sb st => ⟨st.1.extBut sb.extBut (Ne.symm n1), st.2.extBut sb.extBut (Ne.symm n2)⟩
  next := fun s E k x Q st hx hQ => wpAny_nextOf_list_item st.1 st.2 hx fun g hg sb => hQ g ⟨hg, st.2.extBut sb.extBut n⟩ sb
theorem draws_tup {it l : Addr} (n : l ≠ it) (items : Array Value) : Draws prog w A it l (fun h k => h.IsTupleIter it l k ∧ h.IsTuple l items) items where
  off := fun h g k c n1 n2 sb st => ⟨st.1.extBut sb.extBut (Ne.symm n1), st.2.extBut sb.extBut (Ne.symm n2)⟩
  next := fun s E k x Q st hx hQ => RZ.nextOf_tuple_item st.1 st.2 hx fun g hg sb => hQ g ⟨hg, st.2.extBut sb.extBut n⟩ sb
/-- the zip's frame: its own record, the iterators' pair, the pair handed out last -/
structure ZipSt (h : Heap) (z TI TO i1 i2 : Addr) (a b : Value) : Prop where
  z : IsZip h z TI TO .none
  ti : IsPair h TI (.ref i1) (.ref i2)
  to : IsPair h TO a b
theorem both_next {z TI TO i1 i2 l1 l2 : Addr} {k : Nat} {xs ys : Array Value} {x y a b : Value} {S1 S2 : Heap → Nat → Prop} {Q : Value → Shared → Prop} (D : ZipApart z TI TO i1 i2 l1 l2) (d1 : Draws prog w A i1 l1 S1 xs) (d2 : Draws prog w A i2 l2 S2 ys)
    (Z : ZipSt s.heap z TI TO i1 i2 a b) (s1 : S1 s.heap k) (s2 : S2 s.heap k) (hx : xs[k]? = some x) (hy : ys[k]? = some y)
    (hQ : ∀ g, IsZip g z TI TO (rawInt s.heap.objs.size) → IsPair g TO x y → S1 g (k + 1) → S2 g (k + 1) → IsPair g s.heap.objs.size x y → g.objs.size = s.heap.objs.size + 1 →
      (∀ c o, c ≠ z → c ≠ TO → c ≠ i1 → c ≠ i2 → s.heap.get? c = some o → g.get? c = some o) → Q (.ref s.heap.objs.size) { s with heap := g })
    (up1 : ∀ (h g : Heap) (k : Nat), (∀ c o, c ≠ z → h.get? c = some o → g.get? c = some o) → S1 h k → S1 g k) (up2 : ∀ (h g : Heap) (k : Nat), (∀ c o, c ≠ z → h.get? c = some o → g.get? c = some o) → S2 h k → S2 g k) :
    wpAny (model prog w) A (Builtin.«zip.__next__» ⟨[.ref z], []⟩) (fun fin t => ∃ v, fin = .done (.ret v) ∧ Q v t) E s := by
  obtain ⟨pz, pI, pO⟩ := Z
  refine (?_ : wpAny _ _ (field (.ref z) 2 >>= _) _ _ _)
  refine wpAny_bind (wpAny_field pz rfl (x := .bool false) rfl (?_ : wpAny _ _ (field (.ref z) 3 >>= _) _ _ _))
  refine wpAny_bind (wpAny_field pz rfl (x := .ref TI) rfl (wpAny_bind (wpAny_seqItems pI rfl ?_)))
  refine (?_ : wpAny _ _ (Builtin.SmallTypes.ownedTupleIsFree (.ref z) >>= _) _ _ _)
  refine wpAny_bind (?_)
  unfold Builtin.SmallTypes.ownedTupleIsFree
  refine wpAny_bind (wpAny_field pz rfl (x := .none) rfl (wpAny_pure (?_)))
  simp only [if_true]
  refine wpAny_bind (wpAny_rule (wpAny_bind (wpAny_field pz rfl (x := .ref TO) rfl ?_)))
  refine wpAny_bind (wpAny_setField_rec pz (by simp) fun g1 z1 b1 => ?_)
  have z1 : IsZip g1 z TI TO .ellipsis := z1
  refine wpAny_bind (?_)
  simp only [List.zipIdx_cons, List.zipIdx_nil, List.forIn_cons, List.forIn_nil]
  -- the first of the two
  refine wpAny_bind (wpAny_bind (wpAny_onRaise (?_ : wpAny _ _ (Builtin.SmallTypes.nextOf (.ref i1) >>= _) _ _ _)))
  have t1 := d1.off _ _ _ _ D.i1z.symm D.l1z.symm b1 s1
  have t2 := d2.off _ _ _ _ D.i2z.symm D.l2z.symm b1 s2
  refine wpAny_bind (d1.next _ _ k x _ t1 hx fun g2 n1 b2 => wpAny_pure (?_))
  have o2 : IsPair g2 TO a b := b2.extBut _ _ D.TOi1 (b1.extBut _ _ D.TOz pO)
  refine wpAny_bind (wpAny_seqItems o2 rfl (wpAny_bind (wpAny_updateSeq_pair o2 fun g3 o3 b3 => wpAny_bind (wpAny_letGo (wpAny_pure ?_)))))
  have o3 : IsPair g3 TO x b := o3
  -- the second
  refine wpAny_bind (wpAny_bind (wpAny_onRaise (?_ : wpAny _ _ (Builtin.SmallTypes.nextOf (.ref i2) >>= _) _ _ _)))
  have t2 := d2.off _ _ _ _ D.TOi2 D.l2TO.symm b3 (d2.off _ _ _ _ D.i12 D.l2i1.symm b2 t2)
  have n1 := d1.off _ _ _ _ D.TOi1 D.l1TO.symm b3 n1
  refine wpAny_bind (d2.next _ _ k y _ t2 hy fun g4 n2 b4 => wpAny_pure (?_))
  have n1 := d1.off _ _ _ _ D.i12.symm D.l1i2.symm b4 n1
  have o4 : IsPair g4 TO x b := b4.extBut _ _ D.TOi2 o3
  refine wpAny_bind (wpAny_seqItems o4 rfl (wpAny_bind (wpAny_updateSeq_pair o4 fun g5 o5 b5 => wpAny_bind (wpAny_letGo (wpAny_pure (wpAny_pure ?_))))))
  have o5 : IsPair g5 TO x y := o5
  have n1 := d1.off _ _ _ _ D.TOi1 D.l1TO.symm b5 n1
  have n2 := d2.off _ _ _ _ D.TOi2 D.l2TO.symm b5 n2
  -- the pair is handed out
  refine wpAny_bind (wpAny_seqItems o5 rfl (wpAny_bind (wpAny_newTuple ?_)))
  have size : g5.objs.size = s.heap.objs.size := by rw [b5.1, b4.1, b3.1, b2.1, b1.1]
  have z5 : IsZip g5 z TI TO .ellipsis := b5.extBut _ _ D.TOz.symm (b4.extBut _ _ D.i2z.symm (b3.extBut _ _ D.TOz.symm (b2.extBut _ _ D.i1z.symm z1)))
  have k5 : ∀ c o, c ≠ z → c ≠ TO → c ≠ i1 → c ≠ i2 → s.heap.get? c = some o → g5.get? c = some o := fun c o c1 c2 c3 c4 e => b5.extBut _ _ c2 (b4.extBut _ _ c4 (b3.extBut _ _ c2 (b2.extBut _ _ c3 (b1.extBut _ _ c1 e))))
  have zlt : z < g5.objs.size := Heap.lt_size z5
  refine (?_ : wpAny _ _ (Builtin.SmallTypes.ownedTupleHandOut (.ref z) (.ref g5.objs.size) >>= _) _ _ _)
  refine wpAny_bind (?_)
  · unfold Builtin.SmallTypes.ownedTupleHandOut
    have z6 : IsZip (g5.push { cls := .type "tuple", data := .seq #[x, y] }) z TI TO .ellipsis := Heap.get?_push_of_some _ z5
    refine wpAny_bind (wpAny_setField_rec z6 (by simp) fun g7 z7 b7 => ?_)
    have z7 : IsZip g7 z TI TO (rawInt g5.objs.size) := z7
    refine wpAny_setField_rec z7 (by simp) fun g8 z8 b8 => ?_
    have z8 : IsZip g8 z TI TO (rawInt g5.objs.size) := z8
    have old : ∀ c o, c ≠ z → g5.get? c = some o → g8.get? c = some o := fun c o c1 e => b8.extBut _ _ c1 (b7.extBut _ _ c1 (Heap.get?_push_of_some _ e))
    have p8 : IsPair g8 g5.objs.size x y := b8.extBut _ _ (Nat.ne_of_gt zlt) (b7.extBut _ _ (Nat.ne_of_gt zlt) (Heap.get?_push_size _ rfl))
    have e8 : g8.objs.size = g5.objs.size + 1 := by rw [b8.1, b7.1, Heap.size_push]
    rw [size] at z8 p8 e8
    refine wpAny_pure ⟨_, rfl, ?_⟩
    show Q (.ref g5.objs.size) _
    rw [size]
    exact hQ g8 z8 (old _ _ D.TOz o5) (up1 _ _ _ old n1) (up2 _ _ _ old n2) p8 e8 fun c o c1 c2 c3 c4 e => old c o c1 (k5 c o c1 c2 c3 c4 e)
/-- the list's iterator has no more -/
theorem first_ends {z TI TO i1 i2 l1 l2 : Addr} {k : Nat} {xs : Array Value} {a b : Value} {Q : PySem.Fin → Shared → Prop} (hh : A.handled = none) (D : ZipApart z TI TO i1 i2 l1 l2) (Z : ZipSt s.heap z TI TO i1 i2 a b)
    (s1 : s.heap.IsListIter i1 l1 k) (q1 : s.heap.IsList l1 xs) (hx : xs[k]? = none)
    (hE : ∀ g e, (∀ c o, c ≠ z → c ≠ i1 → s.heap.get? c = some o → g.get? c = some o) → (∃ o, g.get? e = some o ∧ o.cls = .type "StopIteration") → E (.ref e) { s with heap := g }) :
    wpAny (model prog w) A (Builtin.«zip.__next__» ⟨[.ref z], []⟩) Q E s := by
  obtain ⟨pz, pI, pO⟩ := Z
  refine (?_ : wpAny _ _ (field (.ref z) 2 >>= _) _ _ _)
  refine wpAny_bind (wpAny_field pz rfl (x := .bool false) rfl (?_ : wpAny _ _ (field (.ref z) 3 >>= _) _ _ _))
  refine wpAny_bind (wpAny_field pz rfl (x := .ref TI) rfl (wpAny_bind (wpAny_seqItems pI rfl ?_)))
  refine (?_ : wpAny _ _ (Builtin.SmallTypes.ownedTupleIsFree (.ref z) >>= _) _ _ _)
  refine wpAny_bind (?_)
  unfold Builtin.SmallTypes.ownedTupleIsFree
  refine wpAny_bind (wpAny_field pz rfl (x := .none) rfl (wpAny_pure (?_)))
  simp only [if_true]
  refine wpAny_bind (wpAny_rule (wpAny_bind (wpAny_field pz rfl (x := .ref TO) rfl ?_)))
  refine wpAny_bind (wpAny_setField_rec pz (by simp) fun g1 z1 b1 => ?_)
  have z1 : IsZip g1 z TI TO .ellipsis := z1
  refine wpAny_bind (?_)
  simp only [List.zipIdx_cons, List.zipIdx_nil, List.forIn_cons, List.forIn_nil]
  refine wpAny_bind (wpAny_bind (wpAny_onRaise (?_ : wpAny _ _ (Builtin.SmallTypes.nextOf (.ref i1) >>= _) _ _ _)))
  refine wpAny_bind (wpAny_nextOf_list_end hh (s1.extBut b1.extBut D.i1z) (q1.extBut b1.extBut D.l1z) hx fun g2 e b2 he => ?_)
  obtain ⟨oe, ge, ce⟩ := he
  have z2 : IsZip g2 z TI TO .ellipsis := b2 _ _ D.i1z.symm z1
  have ez : e ≠ z := fun q => by subst q; rw [z2] at ge; cases ge; simp at ce
  exact wpAny_setField_rec z2 (by simp) fun g3 _ b3 => hE g3 e (fun c o c1 c3 q => b3.extBut _ _ c1 (b2 _ _ c3 (b1.extBut _ _ c1 q))) ⟨oe, b3.extBut _ _ ez ge, ce⟩
/-- what is laid by zip(a list, a tuple) -/
abbrev zl1 (h : Heap) (l1 : Addr) : Heap := h.push { cls := .type "list_iterator", data := .fields #[.ref l1, .int 0 0] }
abbrev zl2 (h : Heap) (l1 l2 : Addr) : Heap := (zl1 h l1).push { cls := .type "tuple_iterator", data := .fields #[.ref l2, .int 0 0] }
abbrev zl3 (h : Heap) (l1 l2 : Addr) : Heap := (zl2 h l1 l2).push { cls := .type "tuple", data := .seq #[.ref h.objs.size, .ref (zl1 h l1).objs.size] }
abbrev zl4 (h : Heap) (l1 l2 : Addr) : Heap := (zl3 h l1 l2).push { cls := .type "tuple", data := .seq #[.none, .none] }
abbrev zl5 (h : Heap) (l1 l2 : Addr) : Heap := (zl4 h l1 l2).push { cls := .type "zip", data := .fields #[.none, .bool false, .bool false, .ref (zl2 h l1 l2).objs.size, .ref (zl3 h l1 l2).objs.size] }
theorem laid_new (l1 l2 : Addr) (xs ys : Array Value) : Meets (Builtin.«zip.__new__» ⟨[.type "zip", .ref l1, .ref l2], []⟩) (fun _ R s => s.heap.IsList l1 xs ∧ s.heap.IsTuple l2 ys ∧
    R (.ok (.ret (.ref (zl4 s.heap l1 l2).objs.size))) { s with heap := zl5 s.heap l1 l2 }) :=
  .of_wp fun prog w A R s h => by
    obtain ⟨h0, g, d, tk, os⟩ := s
    obtain ⟨q1, q2, h⟩ := h
    have isz := sub_zip
    have L1 : Heap.IsList (Shared.heap ⟨h0, g, d, tk, os⟩) l1 xs := q1
    have L2 : Heap.IsTuple (Shared.heap ⟨h0.push { cls := .type "list_iterator", data := .fields #[.ref l1, .int 0 0] }, g, d, tk, os⟩) l2 ys := Heap.IsTuple.push q2 _
    wp_walk using wpAny_pyIter_list L1, wpAny_pyIter_tuple L2
    exact ⟨_, rfl, h⟩
theorem call_zipLT {l1 l2 : Addr} {xs ys : Array Value} {Q : Value → Shared → Prop} (q1 : s.heap.IsList l1 xs) (q2 : s.heap.IsTuple l2 ys)
    (h : ∀ g, ZipSt g (s.heap.objs.size + 4) (s.heap.objs.size + 2) (s.heap.objs.size + 3) s.heap.objs.size (s.heap.objs.size + 1) .none .none → g.IsListIter s.heap.objs.size l1 0 → g.IsTupleIter (s.heap.objs.size + 1) l2 0 →
      (∀ c o, s.heap.get? c = some o → g.get? c = some o) → Q (.ref (s.heap.objs.size + 4)) { s with heap := g }) : wpAny (model prog w) A (call (.type "zip") [.ref l1, .ref l2]) Q E s := by
  refine callType_new F.called_zip (by decide) (F.typeCall_zip_2 _ _) (F.newCall_zip_2 _ _) (fun obj => F.args_object_init_3 obj _ _) F.entry_zip_new (laid_new l1 l2 xs ys) ⟨q1, q2, ?_⟩
  have e1 : (zl1 s.heap l1).objs.size = s.heap.objs.size + 1 := Heap.size_push ..
  have e2 : (zl2 s.heap l1 l2).objs.size = s.heap.objs.size + 2 := by rw [Heap.size_push, e1]
  have e3 : (zl3 s.heap l1 l2).objs.size = s.heap.objs.size + 3 := by rw [Heap.size_push, e2]
  have e4 : (zl4 s.heap l1 l2).objs.size = s.heap.objs.size + 4 := by rw [Heap.size_push, e3]
  have p1 : ∀ c o, (zl1 s.heap l1).get? c = some o → (zl5 s.heap l1 l2).get? c = some o := fun c o q => Heap.get?_push_of_some _ (Heap.get?_push_of_some _ (Heap.get?_push_of_some _ (Heap.get?_push_of_some _ q)))
  have p2 : ∀ c o, (zl2 s.heap l1 l2).get? c = some o → (zl5 s.heap l1 l2).get? c = some o := fun c o q => Heap.get?_push_of_some _ (Heap.get?_push_of_some _ (Heap.get?_push_of_some _ q))
  have g5 : (zl5 s.heap l1 l2).get? (zl4 s.heap l1 l2).objs.size = some _ := Heap.get?_push_size _ rfl
  have g4 : (zl5 s.heap l1 l2).get? (zl3 s.heap l1 l2).objs.size = some _ := Heap.get?_push_of_some _ (Heap.get?_push_size _ rfl)
  have g3 : (zl5 s.heap l1 l2).get? (zl2 s.heap l1 l2).objs.size = some _ := Heap.get?_push_of_some _ (Heap.get?_push_of_some _ (Heap.get?_push_size _ rfl))
  have g2 : (zl5 s.heap l1 l2).get? (zl1 s.heap l1).objs.size = some _ := p2 _ _ (Heap.get?_push_size _ rfl)
  have g1 : (zl5 s.heap l1 l2).get? s.heap.objs.size = some _ := p1 _ _ (Heap.get?_push_size _ rfl)
  refine (?_ : _ ∧ _)
  rw [e2, e3, e4] at g5
  rw [e1, e2] at g3
  rw [e3] at g4
  rw [e1] at g2
  rw [e4]
  exact ⟨⟨_, g5, rfl⟩, h _ ⟨g5, g3, g4⟩ ⟨_, g1, rfl, rfl⟩ ⟨_, g2, rfl, rfl⟩ fun c o q => p1 _ _ (Heap.get?_push_of_some _ q)⟩
end
/-- the list at a, the tuple at b, in new pairs, to the list's end -/
def ItLT (K : PySem.W.Frag) (a b : Addr) : It :=
  ⟨fun i H => ∃ (xs ys : List V) (x y : V), SqL K H a xs ∧ SqT K H b ys ∧ xs[i]? = some x ∧ ys[i]? = some y,
    fun i H v H' => ∃ T x y, v = .ref T ∧ H T = none ∧ H' = upd H T (.tup [x, y]) ∧ (∀ xs, SqL K H a xs → xs[i]? = some x) ∧ ∀ ys, SqT K H b ys → ys[i]? = some y,
    fun i H => ∃ xs : List V, SqL K H a xs ∧ xs.length ≤ i⟩
theorem turn_LT {P : Program} {w : World} {K : PySem.W.Frag} {elts : List Expr} {kk : Nat} {tpos : Pos} {a b z TI TO i1 i2 : Addr} (D : ZipApart z TI TO i1 i2 a b) :
    Turn P w K (.Tuple elts kk tpos) (ItLT K a b) [z, TI, TO, i1, i2] z (fun i h => ∃ x y, ZipSt h z TI TO i1 i2 x y ∧ h.IsListIter i1 a i ∧ h.IsTupleIter i2 b i) where
  mem := by simp
  obj := fun i h st c hc => by
    obtain ⟨x, y, Z, ⟨o1, e1, _, d1⟩, ⟨o2, e2, _, d2⟩⟩ := st
    simp only [List.mem_cons, List.not_mem_nil, or_false] at hc
    rcases hc with q | q | q | q | q <;> rw [q]
    · exact ⟨_, Z.z, fun _ q => nomatch q⟩
    · exact ⟨_, Z.ti, fun _ q => nomatch q⟩
    · exact ⟨_, Z.to, fun _ q => nomatch q⟩
    · exact ⟨o1, e1, fun _ q => by rw [d1] at q; cases q⟩
    · exact ⟨o2, e2, fun _ q => by rw [d2] at q; cases q⟩
  keep := fun i h g st k => by
    obtain ⟨x, y, Z, h1, h2⟩ := st
    exact ⟨x, y, ⟨k z (by simp) _ Z.z, k TI (by simp) _ Z.ti, k TO (by simp) _ Z.to⟩, h1.at fun o q => k i1 (by simp) o q, h2.at fun o q => k i2 (by simp) o q⟩
  item := by
    intro X hP hw hK hc i pins s σ H E I hf st hg
    subst hP hw hK
    obtain ⟨x0, y0, Z, h1, h2⟩ := st
    obtain ⟨xs, ys, x, y, hqx, hqy, hx, hy⟩ := hg
    obtain ⟨its, rv, p, _⟩ := I.list hqx
    obtain ⟨its2, rv2, p2, _⟩ := I.tuple hqy
    obtain ⟨u, hu, ru⟩ := rv.get hx
    obtain ⟨u2, hu2, ru2⟩ := rv2.get hy
    have zlt : z < s.heap.objs.size := Heap.lt_size Z.z
    have hT : s.TypeIs (.ref z) "zip" := ⟨_, Z.z, rfl⟩
    unfold pyNext
    refine wpAny_bind (wpAny_attempt (wpAny_callSpecial?_slot (name := Str.ofString "__next__") hT F.slot_zip_next (wpAny_call_entry F.slot_zip_next hT F.entry_zip_next
      (both_next D (draws_list D.l1i1 its.toArray) (draws_tup D.l2i2 its2.toArray) Z ⟨h1, p.isList⟩ ⟨h2, p2⟩ (x := u) (y := u2) (by simpa using hu) (by simpa using hu2) (fun g z' to' n1 n2 hT' sz k => wpAny_pure ?_)
        (fun h g k q st => ?_) fun h g k q st => ?_) (F.args_zip_next_1 _))))
    · refine ⟨_, rfl, wpAny_letOwnedTupleGo_zip (s := { s with heap := g }) z' fun g' z2 sb => ?_⟩
      have hT2 : g'.get? s.heap.objs.size = some { cls := .type "tuple", data := .seq #[u, u2] } := (sb.2 _ (Nat.ne_of_gt zlt)).trans hT'
      have fresh : ObjOk X.prog X.w (upd H s.heap.objs.size (.tup [x, y])) g' s.heap.objs.size (.tup [x, y]) := ⟨by show 2 ≤ sizeLine; decide, [u, u2], .cons ru (.cons ru2 .nil), ⟨_, hT2, rfl, _, rfl⟩⟩
      have J : Inv X pins σ (upd H s.heap.objs.size (.tup [x, y])) { s with heap := g' } :=
        I.turnedNew (t' := s.toks) (ch := [z, TI, TO, i1, i2]) (fun c o hb q => (sb.2 c (fun e => hb (by simp [e]))).trans (k c o (fun e => hb (by simp [e])) (fun e => hb (by simp [e])) (fun e => hb (by simp [e])) (fun e => hb (by simp [e])) q)) hf (Nat.le_refl _) fresh
      refine ⟨.ref s.heap.objs.size, _, J, rfl, ⟨_, x, y, rfl, I.hok.fresh (Nat.le_refl _), rfl, fun l hl => by rw [I.list_inj hl hqx]; exact hx, fun l hl => by rw [I.tuple_inj hl hqy]; exact hy⟩, ⟨u, u2, ⟨z2, ?_, ?_⟩, ?_, ?_⟩, fun c hcm => ?_⟩
      · exact (sb.2 _ D.TIz).trans (k _ _ D.TIz D.TITO D.TIi1 D.TIi2 Z.ti)
      · exact (sb.2 _ D.TOz).trans to'
      · exact n1.1.at fun o q => (sb.2 _ D.i1z).trans q
      · exact n2.1.at fun o q => (sb.2 _ D.i2z).trans q
      · have lt : c < s.heap.objs.size := by
          simp only [List.mem_cons, List.not_mem_nil, or_false] at hcm
          rcases hcm with q | q | q | q | q <;> rw [q]
          · exact zlt
          · exact Heap.lt_size Z.ti
          · exact Heap.lt_size Z.to
          · obtain ⟨_, e, _⟩ := h1; exact Heap.lt_size e
          · obtain ⟨_, e, _⟩ := h2; exact Heap.lt_size e
        rw [upd_ne (Nat.ne_of_lt lt)]
        exact (hf c hcm).1
    · refine ⟨st.1.at fun o e => q _ o D.i1z e, ?_⟩
      obtain ⟨o, e, r⟩ := st.2
      exact ⟨o, q _ o D.l1z e, r⟩
    · refine ⟨st.1.at fun o e => q _ o D.i2z e, ?_⟩
      obtain ⟨o, e, r⟩ := st.2
      exact ⟨o, q _ o D.l2z e, r⟩
  done := by
    intro X hP hw hK hc i pins s σ H E I hf st hg
    subst hP hw hK
    obtain ⟨x0, y0, Z, h1, h2⟩ := st
    obtain ⟨xs, hqx, hend⟩ := hg
    obtain ⟨its, rv, p, _⟩ := I.list hqx
    have len := rv.length
    have hT : s.TypeIs (.ref z) "zip" := ⟨_, Z.z, rfl⟩
    unfold pyNext
    refine wpAny_bind (wpAny_attempt (wpAny_callSpecial?_slot (name := Str.ofString "__next__") hT F.slot_zip_next (wpAny_call_entry F.slot_zip_next hT F.entry_zip_next
      (first_ends (I.ok.hd hc) D Z h1 p.isList (xs := its.toArray) (by simp; omega) fun g e k he => ?_) (F.args_zip_next_1 _))))
    obtain ⟨o, ho, hcl⟩ := he
    refine wpAny_bind (wpAny_isInstance (T := "StopIteration") (b := true) ⟨o, ho, hcl⟩ isSubtype_stop (wpAny_pure ⟨rfl, ?_⟩))
    exact I.turnedL (t' := s.toks) (ch := [z, TI, TO, i1, i2]) (fun c o hb q => k c o (fun e => hb (by simp [e])) (fun e => hb (by simp [e])) q) hf
  self := fun A i s Q E st h => by
    obtain ⟨x, y, Z, _⟩ := st
    exact wpAny_pyIter_zip Z.z h
def iZipLT (K : PySem.W.Frag) (ta : TA) : TI := fun σ H R => ta σ H fun vs H1 => ∃ a b xs ys, vs = [.ref a, .ref b] ∧ SqL K H1 a xs ∧ SqT K H1 b ys ∧ R (ItLT K a b) H1
theorem pi_zipLT {X : Cx} {e e2 : Expr} {ta : TA} {p pos tpos : Pos} {elts : List Expr} {kk : Nat} (hg : Gl X "zip") (hm : X.mg "zip" = none) (ha : PA X [e, e2] ta)
    (hs : starEach [e, e2] X.env = (false, eval e X.env) :: starEach [e2] X.env := by rfl) (hpl : (backTo pos (starEach [e2] X.env)).any (·.1) = false := by rfl) : PI X (.Tuple elts kk tpos) (.Call (.Name "zip" p) [e, e2] [] pos) (iZipLT X.K ta) := by
  refine ⟨fun pins s σ H R I h => ?_⟩
  refine Call_ (ld_blt I hg hm PyProof.Rows.boot_zip (PyProof.Rows.callWith_type1 (thn (ha.run pos pins s σ H _ I h) fun us s1 ⟨vs, H1, I1, r1, q1⟩ => ?_) hs hpl))
  obtain ⟨a, b, xs, ys, rfl, hqx, hqy, q⟩ := q1
  obtain ⟨u1, u2, rfl, c1, c2⟩ := vals2 r1
  obtain rfl : u1 = Value.ref a := c1
  obtain rfl : u2 = Value.ref b := c2
  obtain ⟨its, rv, p1, _⟩ := I1.list hqx
  obtain ⟨its2, rv2, p2, _⟩ := I1.tuple hqy
  obtain ⟨o2, ho2, _⟩ := id p2
  refine call_zipLT p1.isList (show s1.heap.IsTuple b its2.toArray from p2) fun g Z h1 h2 k => wpAny_pyIter_zip Z.z ?_
  have I2 : Inv X pins σ H1 { s1 with heap := g } := I1.kept (t' := s1.toks) k
  have D := PySem.W.ktu_apart s1.heap.objs.size a b p1.lt (Heap.lt_size ho2)
  have fr : ∀ c, s1.heap.objs.size ≤ c → FpOk X pins H1 c := fun c le => I1.fpOk le (I1.hok.fresh le)
  have n1 := Nat.le_add_right s1.heap.objs.size 4
  have n2 := Nat.le_add_right s1.heap.objs.size 2
  have n3 := Nat.le_add_right s1.heap.objs.size 3
  have n4 := Nat.le_add_right s1.heap.objs.size 1
  generalize s1.heap.objs.size + 4 = z at *
  generalize s1.heap.objs.size + 2 = z2 at *
  generalize s1.heap.objs.size + 3 = z3 at *
  generalize s1.heap.objs.size + 1 = z1 at *
  refine ⟨z, [z, z2, z3, s1.heap.objs.size, z1], _, _, H1, rfl, I2, turn_LT D, ⟨_, _, Z, h1, h2⟩, fun c hcm => fr c ?_, q⟩
  simp only [List.mem_cons, List.not_mem_nil, or_false] at hcm
  rcases hcm with q | q | q | q | q <;> rw [q]
  · exact n1
  · exact n2
  · exact n3
  · exact Nat.le_refl _
  · exact n4
section
variable {K : PySem.W.Frag} {σ : L2.St} {H : Hp} {g : TG} {tb : TS} {D : Ends} {ta : TA}
theorem rd_forLT (q : ta σ H fun vs H1 => ∃ a b xs ys, vs = [.ref a, .ref b] ∧ SqL K H1 a xs ∧ SqT K H1 b ys ∧ Qa.ForW (ItLT K a b) g tb D σ H1) : tFor (iZipLT K ta) g tb D σ H := q
theorem forW_LT {a b : Addr} (xs ys : List V) (hl : xs.length = ys.length) (Pv : Nat → L2.St → Hp → Prop) (h0 : Pv 0 σ H) (hq : ∀ i σ H, Pv i σ H → SqL K H a xs ∧ SqT K H b ys)
    (hs : ∀ (i : Nat) (x y : V) (T : Addr) (σ : L2.St) (H : Hp), xs[i]? = some x → ys[i]? = some y → Pv i σ H → H T = none → g (.ref T) σ (upd H T (.tup [x, y])) fun σ2 H2 => tb { D with nx := Pv (i + 1), ct := Pv (i + 1), bk := D.nx } σ2 H2) (hd : ∀ σ H, Pv xs.length σ H → D.nx σ H) : Qa.ForW (ItLT K a b) g tb D σ H := by
  refine ⟨fun i m σ H => m = xs.length - i ∧ i ≤ xs.length ∧ Pv i σ H, ⟨xs.length, rfl, Nat.zero_le _, h0⟩, ?_⟩
  rintro i m σ H ⟨rfl, hi, p⟩
  obtain ⟨qx, qy⟩ := hq i σ H p
  by_cases lt : i < xs.length
  · have hx : xs[i]? = some xs[i] := List.getElem?_eq_getElem lt
    have lt2 : i < ys.length := by omega
    have hy : ys[i]? = some ys[i] := List.getElem?_eq_getElem lt2
    refine .inr ⟨⟨xs, ys, _, _, qx, qy, hx, hy⟩, Pv (i + 1), fun σ' H' p' => ⟨xs.length - (i + 1), by omega, rfl, lt, p'⟩, fun v H' hv => ?_⟩
    obtain ⟨T, x, y, rfl, hT, rfl, ex, ey⟩ := hv
    exact hs i x y T σ H (ex xs qx) (ey ys qy) p hT
  · obtain rfl : i = xs.length := by omega
    exact .inl ⟨⟨xs, qx, Nat.le_refl _⟩, hd σ H p⟩
end
end Qz
open PySem PySem.Spec PyProof.Rows L2 Qa Qr
namespace KF
def topS (i : Nat) : Stmt := PySem.Challenge.pw_formlines_k09_whole_choices.main.body.getD i (.Pass ⟨0, 0, 0, 0⟩)
abbrev sis_whole : Stmt := topS 15
abbrev nis_whole : List Str := ["thing"]
abbrev pis_whole : List Str := ["thing"]
theorem scis_whole : FnScope nis_whole pis_whole (defScope sis_whole) := ⟨rfl, rfl, rfl, by decide +kernel, rfl, by decide +kernel, by decide +kernel⟩
theorem bis_whole : BindOk "is_whole" sis_whole pis_whole := fun _ _ _ _ _ _ us hl => match us, hl with | [_], _ => rfl
theorem tis_whole {v0 : V} : start nis_whole [v0] = [some v0] := rfl

abbrev sis_within : Stmt := topS 16
abbrev nis_within : List Str := ["thing", "low", "high"]
abbrev pis_within : List Str := ["thing", "low", "high"]
theorem scis_within : FnScope nis_within pis_within (defScope sis_within) := ⟨rfl, rfl, rfl, by decide +kernel, rfl, by decide +kernel, by decide +kernel⟩
theorem bis_within : BindOk "is_within" sis_within pis_within := fun _ _ _ _ _ _ us hl => match us, hl with | [_, _, _], _ => rfl
theorem tis_within {v0 v1 v2 : V} : start nis_within [v0, v1, v2] = [some v0, some v1, some v2] := rfl

abbrev sis_number : Stmt := topS 17
abbrev nis_number : List Str := ["thing"]
abbrev pis_number : List Str := ["thing"]
theorem scis_number : FnScope nis_number pis_number (defScope sis_number) := ⟨rfl, rfl, rfl, by decide +kernel, rfl, by decide +kernel, by decide +kernel⟩
theorem bis_number : BindOk "is_number" sis_number pis_number := fun _ _ _ _ _ _ us hl => match us, hl with | [_], _ => rfl
theorem tis_number {v0 : V} : start nis_number [v0] = [some v0] := rfl

abbrev sis_percent : Stmt := topS 18
abbrev nis_percent : List Str := ["thing"]
abbrev pis_percent : List Str := ["thing"]
theorem scis_percent : FnScope nis_percent pis_percent (defScope sis_percent) := ⟨rfl, rfl, rfl, by decide +kernel, rfl, by decide +kernel, by decide +kernel⟩
theorem bis_percent : BindOk "is_percent" sis_percent pis_percent := fun _ _ _ _ _ _ us hl => match us, hl with | [_], _ => rfl
theorem tis_percent {v0 : V} : start nis_percent [v0] = [some v0] := rfl

abbrev sis_place : Stmt := topS 19
abbrev nis_place : List Str := ["thing", "count"]
abbrev pis_place : List Str := ["thing", "count"]
theorem scis_place : FnScope nis_place pis_place (defScope sis_place) := ⟨rfl, rfl, rfl, by decide +kernel, rfl, by decide +kernel, by decide +kernel⟩
theorem bis_place : BindOk "is_place" sis_place pis_place := fun _ _ _ _ _ _ us hl => match us, hl with | [_, _], _ => rfl
theorem tis_place {v0 v1 : V} : start nis_place [v0, v1] = [some v0, some v1] := rfl

abbrev shundredths : Stmt := topS 20
abbrev nhundredths : List Str := ["number", "percent"]
abbrev phundredths : List Str := ["number", "percent"]
theorem schundredths : FnScope nhundredths phundredths (defScope shundredths) := ⟨rfl, rfl, rfl, by decide +kernel, rfl, by decide +kernel, by decide +kernel⟩
theorem bhundredths : BindOk "hundredths" shundredths phundredths := fun _ _ _ _ _ _ us hl => match us, hl with | [_, _], _ => rfl
theorem thundredths {v0 v1 : V} : start nhundredths [v0, v1] = [some v0, some v1] := rfl

abbrev sis_rule : Stmt := topS 26
abbrev nis_rule : List Str := ["thing", "lines", "tables", "choices", "counts"]
abbrev pis_rule : List Str := ["thing", "lines", "tables", "choices"]
theorem scis_rule : FnScope nis_rule pis_rule (defScope sis_rule) := ⟨rfl, rfl, rfl, by decide +kernel, rfl, by decide +kernel, by decide +kernel⟩
theorem bis_rule : BindOk "is_rule" sis_rule pis_rule := fun _ _ _ _ _ _ us hl => match us, hl with | [_, _, _, _], _ => rfl
theorem tis_rule {v0 v1 v2 v3 : V} : start nis_rule [v0, v1, v2, v3] = [some v0, some v1, some v2, some v3, none] := rfl

abbrev sis_word : Stmt := topS 27
abbrev nis_word : List Str := ["thing", "sign"]
abbrev pis_word : List Str := ["thing"]
theorem scis_word : FnScope nis_word pis_word (defScope sis_word) := ⟨rfl, rfl, rfl, by decide +kernel, rfl, by decide +kernel, by decide +kernel⟩
theorem bis_word : BindOk "is_word" sis_word pis_word := fun _ _ _ _ _ _ us hl => match us, hl with | [_], _ => rfl
theorem tis_word {v0 : V} : start nis_word [v0] = [some v0, none] := rfl

abbrev snamed : Stmt := topS 28
abbrev nnamed : List Str := ["rule", "word"]
abbrev pnamed : List Str := ["rule", "word"]
theorem scnamed : FnScope nnamed pnamed (defScope snamed) := ⟨rfl, rfl, rfl, by decide +kernel, rfl, by decide +kernel, by decide +kernel⟩
theorem bnamed : BindOk "named" snamed pnamed := fun _ _ _ _ _ _ us hl => match us, hl with | [_, _], _ => rfl
theorem tnamed {v0 v1 : V} : start nnamed [v0, v1] = [some v0, some v1] := rfl

abbrev s_is_rule_within : Stmt := topS 29
abbrev n_is_rule_within : List Str := ["thing", "counts", "levels", "part", "kind"]
abbrev p_is_rule_within : List Str := ["thing", "counts", "levels"]
theorem sc_is_rule_within : FnScope n_is_rule_within p_is_rule_within (defScope s_is_rule_within) := ⟨rfl, rfl, rfl, by decide +kernel, rfl, by decide +kernel, by decide +kernel⟩
theorem b_is_rule_within : BindOk "_is_rule_within" s_is_rule_within p_is_rule_within := fun _ _ _ _ _ _ us hl => match us, hl with | [_, _, _], _ => rfl
theorem t_is_rule_within {v0 v1 v2 : V} : start n_is_rule_within [v0, v1, v2] = [some v0, some v1, some v2, none, none] := rfl

abbrev s_has_form : Stmt := topS 30
abbrev n_has_form : List Str := ["thing", "word"]
abbrev p_has_form : List Str := ["thing"]
theorem sc_has_form : FnScope n_has_form p_has_form (defScope s_has_form) := ⟨rfl, rfl, rfl, by decide +kernel, rfl, by decide +kernel, by decide +kernel⟩
theorem b_has_form : BindOk "_has_form" s_has_form p_has_form := fun _ _ _ _ _ _ us hl => match us, hl with | [_], _ => rfl
theorem t_has_form {v0 : V} : start n_has_form [v0] = [some v0, none] := rfl

abbrev s_is_part : Stmt := topS 31
abbrev n_is_part : List Str := ["part", "kind", "counts", "levels"]
abbrev p_is_part : List Str := ["part", "kind", "counts", "levels"]
theorem sc_is_part : FnScope n_is_part p_is_part (defScope s_is_part) := ⟨rfl, rfl, rfl, by decide +kernel, rfl, by decide +kernel, by decide +kernel⟩
theorem b_is_part : BindOk "_is_part" s_is_part p_is_part := fun _ _ _ _ _ _ us hl => match us, hl with | [_, _, _, _], _ => rfl
theorem t_is_part {v0 v1 v2 v3 : V} : start n_is_part [v0, v1, v2, v3] = [some v0, some v1, some v2, some v3] := rfl

abbrev s_behind : Stmt := topS 32
abbrev n_behind : List Str := ["rule", "word", "found", "part", "kind"]
abbrev p_behind : List Str := ["rule", "word"]
theorem sc_behind : FnScope n_behind p_behind (defScope s_behind) := ⟨rfl, rfl, rfl, by decide +kernel, rfl, by decide +kernel, by decide +kernel⟩
theorem b_behind : BindOk "_behind" s_behind p_behind := fun _ _ _ _ _ _ us hl => match us, hl with | [_, _], _ => rfl
theorem t_behind {v0 v1 : V} : start n_behind [v0, v1] = [some v0, some v1, none, none, none] := rfl

abbrev sis_table : Stmt := topS 36
abbrev nis_table : List Str := ["thing", "row"]
abbrev pis_table : List Str := ["thing"]
theorem scis_table : FnScope nis_table pis_table (defScope sis_table) := ⟨rfl, rfl, rfl, by decide +kernel, rfl, by decide +kernel, by decide +kernel⟩
theorem bis_table : BindOk "is_table" sis_table pis_table := fun _ _ _ _ _ _ us hl => match us, hl with | [_], _ => rfl
theorem tis_table {v0 : V} : start nis_table [v0] = [some v0, none] := rfl

abbrev sat_number : Stmt := topS 37
abbrev nat_number : List Str := ["table", "number", "told", "start", "plus", "percent"]
abbrev pat_number : List Str := ["table", "number"]
theorem scat_number : FnScope nat_number pat_number (defScope sat_number) := ⟨rfl, rfl, rfl, by decide +kernel, rfl, by decide +kernel, by decide +kernel⟩
theorem bat_number : BindOk "at_number" sat_number pat_number := fun _ _ _ _ _ _ us hl => match us, hl with | [_, _], _ => rfl
theorem tat_number {v0 v1 : V} : start nat_number [v0, v1] = [some v0, some v1, none, none, none, none] := rfl

abbrev s_is_row : Stmt := topS 38
abbrev n_is_row : List Str := ["thing", "start", "plus", "percent"]
abbrev p_is_row : List Str := ["thing"]
theorem sc_is_row : FnScope n_is_row p_is_row (defScope s_is_row) := ⟨rfl, rfl, rfl, by decide +kernel, rfl, by decide +kernel, by decide +kernel⟩
theorem b_is_row : BindOk "_is_row" s_is_row p_is_row := fun _ _ _ _ _ _ us hl => match us, hl with | [_], _ => rfl
theorem t_is_row {v0 : V} : start n_is_row [v0] = [some v0, none, none, none] := rfl

abbrev s_starts_rise : Stmt := topS 39
abbrev n_starts_rise : List Str := ["rows", "row", "following"]
abbrev p_starts_rise : List Str := ["rows"]
theorem sc_starts_rise : FnScope n_starts_rise p_starts_rise (defScope s_starts_rise) := ⟨rfl, rfl, rfl, by decide +kernel, rfl, by decide +kernel, by decide +kernel⟩
theorem b_starts_rise : BindOk "_starts_rise" s_starts_rise p_starts_rise := fun _ _ _ _ _ _ us hl => match us, hl with | [_], _ => rfl
theorem t_starts_rise {v0 : V} : start n_starts_rise [v0] = [some v0, none, none] := rfl

abbrev sform_of : Stmt := topS 48
abbrev nform_of : List Str := ["lines", "tables", "choices", "owed"]
abbrev pform_of : List Str := ["lines", "tables", "choices", "owed"]
theorem scform_of : FnScope nform_of pform_of (defScope sform_of) := ⟨rfl, rfl, rfl, by decide +kernel, rfl, by decide +kernel, by decide +kernel⟩
theorem bform_of : BindOk "form_of" sform_of pform_of := fun _ _ _ _ _ _ us hl => match us, hl with | [_, _, _, _], _ => rfl
theorem tform_of {v0 v1 v2 v3 : V} : start nform_of [v0, v1, v2, v3] = [some v0, some v1, some v2, some v3] := rfl

abbrev sring_of : Stmt := topS 49
abbrev nring_of : List Str := ["lines", "names", "shortest", "first", "ring"]
abbrev pring_of : List Str := ["lines"]
theorem scring_of : FnScope nring_of pring_of (defScope sring_of) := ⟨rfl, rfl, rfl, by decide +kernel, rfl, by decide +kernel, by decide +kernel⟩
theorem bring_of : BindOk "ring_of" sring_of pring_of := fun _ _ _ _ _ _ us hl => match us, hl with | [_], _ => rfl
theorem tring_of {v0 : V} : start nring_of [v0] = [some v0, none, none, none, none] := rfl

abbrev sorder_of : Stmt := topS 50
abbrev norder_of : List Str := ["form", "names", "waits", "row", "ready", "line", "many", "order", "other"]
abbrev porder_of : List Str := ["form"]
theorem scorder_of : FnScope norder_of porder_of (defScope sorder_of) := ⟨rfl, rfl, rfl, by decide +kernel, rfl, by decide +kernel, by decide +kernel⟩
theorem border_of : BindOk "order_of" sorder_of porder_of := fun _ _ _ _ _ _ us hl => match us, hl with | [_], _ => rfl
theorem torder_of {v0 : V} : start norder_of [v0] = [some v0, none, none, none, none, none, none, none, none] := rfl

abbrev s_need_tables : Stmt := topS 51
abbrev n_need_tables : List Str := ["tables", "table"]
abbrev p_need_tables : List Str := ["tables"]
theorem sc_need_tables : FnScope n_need_tables p_need_tables (defScope s_need_tables) := ⟨rfl, rfl, rfl, by decide +kernel, rfl, by decide +kernel, by decide +kernel⟩
theorem b_need_tables : BindOk "_need_tables" s_need_tables p_need_tables := fun _ _ _ _ _ _ us hl => match us, hl with | [_], _ => rfl
theorem t_need_tables {v0 : V} : start n_need_tables [v0] = [some v0, none] := rfl

abbrev s_need_sizes : Stmt := topS 52
abbrev n_need_sizes : List Str := ["lines", "choices", "owed"]
abbrev p_need_sizes : List Str := ["lines", "choices", "owed"]
theorem sc_need_sizes : FnScope n_need_sizes p_need_sizes (defScope s_need_sizes) := ⟨rfl, rfl, rfl, by decide +kernel, rfl, by decide +kernel, by decide +kernel⟩
theorem b_need_sizes : BindOk "_need_sizes" s_need_sizes p_need_sizes := fun _ _ _ _ _ _ us hl => match us, hl with | [_, _, _], _ => rfl
theorem t_need_sizes {v0 v1 v2 : V} : start n_need_sizes [v0, v1, v2] = [some v0, some v1, some v2] := rfl

abbrev s_need_rules : Stmt := topS 53
abbrev n_need_rules : List Str := ["lines", "tables", "choices", "rule"]
abbrev p_need_rules : List Str := ["lines", "tables", "choices"]
theorem sc_need_rules : FnScope n_need_rules p_need_rules (defScope s_need_rules) := ⟨rfl, rfl, rfl, by decide +kernel, rfl, by decide +kernel, by decide +kernel⟩
theorem b_need_rules : BindOk "_need_rules" s_need_rules p_need_rules := fun _ _ _ _ _ _ us hl => match us, hl with | [_, _, _], _ => rfl
theorem t_need_rules {v0 v1 v2 : V} : start n_need_rules [v0, v1, v2] = [some v0, some v1, some v2, none] := rfl

abbrev s_lines_named : Stmt := topS 54
abbrev n_lines_named : List Str := ["lines", "line", "rule"]
abbrev p_lines_named : List Str := ["lines"]
theorem sc_lines_named : FnScope n_lines_named p_lines_named (defScope s_lines_named) := ⟨rfl, rfl, rfl, by decide +kernel, rfl, by decide +kernel, by decide +kernel⟩
theorem b_lines_named : BindOk "_lines_named" s_lines_named p_lines_named := fun _ _ _ _ _ _ us hl => match us, hl with | [_], _ => rfl
theorem t_lines_named {v0 : V} : start n_lines_named [v0] = [some v0, none, none] := rfl

abbrev s_ring_from : Stmt := topS 55
abbrev n_ring_from : List Str := ["names", "first", "paths", "reached", "path", "line"]
abbrev p_ring_from : List Str := ["names", "first"]
theorem sc_ring_from : FnScope n_ring_from p_ring_from (defScope s_ring_from) := ⟨rfl, rfl, rfl, by decide +kernel, rfl, by decide +kernel, by decide +kernel⟩
theorem b_ring_from : BindOk "_ring_from" s_ring_from p_ring_from := fun _ _ _ _ _ _ us hl => match us, hl with | [_, _], _ => rfl
theorem t_ring_from {v0 v1 : V} : start n_ring_from [v0, v1] = [some v0, some v1, none, none, none, none] := rfl

abbrev sis_paper : Stmt := topS 58
abbrev nis_paper : List Str := ["word", "number"]
abbrev pis_paper : List Str := ["word", "number"]
theorem scis_paper : FnScope nis_paper pis_paper (defScope sis_paper) := ⟨rfl, rfl, rfl, by decide +kernel, rfl, by decide +kernel, by decide +kernel⟩
theorem bis_paper : BindOk "is_paper" sis_paper pis_paper := fun _ _ _ _ _ _ us hl => match us, hl with | [_, _], _ => rfl
theorem tis_paper {v0 v1 : V} : start nis_paper [v0, v1] = [some v0, some v1] := rfl

abbrev spapers_of : Stmt := topS 59
abbrev npapers_of : List Str := ["pairs", "papers", "word", "number"]
abbrev ppapers_of : List Str := ["pairs"]
theorem scpapers_of : FnScope npapers_of ppapers_of (defScope spapers_of) := ⟨rfl, rfl, rfl, by decide +kernel, rfl, by decide +kernel, by decide +kernel⟩
theorem bpapers_of : BindOk "papers_of" spapers_of ppapers_of := fun _ _ _ _ _ _ us hl => match us, hl with | [_], _ => rfl
theorem tpapers_of {v0 : V} : start npapers_of [v0] = [some v0, none, none, none] := rfl

abbrev slines_of : Stmt := topS 60
abbrev nlines_of : List Str := ["form", "order", "papers", "earlier", "taken", "sheet", "line"]
abbrev plines_of : List Str := ["form", "order", "papers", "earlier", "taken"]
theorem sclines_of : FnScope nlines_of plines_of (defScope slines_of) := ⟨rfl, rfl, rfl, by decide +kernel, rfl, by decide +kernel, by decide +kernel⟩
theorem blines_of : BindOk "lines_of" slines_of plines_of := fun _ _ _ _ _ _ us hl => match us, hl with | [_, _, _, _, _], _ => rfl
theorem tlines_of {v0 v1 v2 v3 v4 : V} : start nlines_of [v0, v1, v2, v3, v4] = [some v0, some v1, some v2, some v3, some v4, none, none] := rfl

abbrev s_worth : Stmt := topS 61
abbrev n_worth : List Str := ["rule", "sheet", "number", "word", "line", "one", "percent", "table", "other", "third", "choice"]
abbrev p_worth : List Str := ["rule", "sheet"]
theorem sc_worth : FnScope n_worth p_worth (defScope s_worth) := ⟨rfl, rfl, rfl, by decide +kernel, rfl, by decide +kernel, by decide +kernel⟩
theorem b_worth : BindOk "_worth" s_worth p_worth := fun _ _ _ _ _ _ us hl => match us, hl with | [_, _], _ => rfl
theorem t_worth {v0 v1 : V} : start n_worth [v0, v1] = [some v0, some v1, none, none, none, none, none, none, none, none, none] := rfl

abbrev s_of_both : Stmt := topS 62
abbrev n_of_both : List Str := ["word", "one", "other"]
abbrev p_of_both : List Str := ["word", "one", "other"]
theorem sc_of_both : FnScope n_of_both p_of_both (defScope s_of_both) := ⟨rfl, rfl, rfl, by decide +kernel, rfl, by decide +kernel, by decide +kernel⟩
theorem b_of_both : BindOk "_of_both" s_of_both p_of_both := fun _ _ _ _ _ _ us hl => match us, hl with | [_, _, _], _ => rfl
theorem t_of_both {v0 v1 v2 : V} : start n_of_both [v0, v1, v2] = [some v0, some v1, some v2] := rfl

abbrev ssums : Stmt := topS 65
abbrev nsums : List Str := ["form", "years", "order", "found", "papers", "pairs", "choices", "total", "_"]
abbrev psums : List Str := ["form", "years"]
theorem scsums : FnScope nsums psums (defScope ssums) := ⟨rfl, rfl, rfl, by decide +kernel, rfl, by decide +kernel, by decide +kernel⟩
theorem bsums : BindOk "sums" ssums psums := fun _ _ _ _ _ _ us hl => match us, hl with | [_, _], _ => rfl
theorem tsums {v0 v1 : V} : start nsums [v0, v1] = [some v0, some v1, none, none, none, none, none, none, none] := rfl

abbrev sleast : Stmt := topS 66
abbrev nleast : List Str := ["form", "years"]
abbrev pleast : List Str := ["form", "years"]
theorem scleast : FnScope nleast pleast (defScope sleast) := ⟨rfl, rfl, rfl, by decide +kernel, rfl, by decide +kernel, by decide +kernel⟩
theorem bleast : BindOk "least" sleast pleast := fun _ _ _ _ _ _ us hl => match us, hl with | [_, _], _ => rfl
theorem tleast {v0 v1 : V} : start nleast [v0, v1] = [some v0, some v1] := rfl

abbrev s_with_a_year_more : Stmt := topS 67
abbrev n_with_a_year_more : List Str := ["form", "order", "papers", "found", "longer", "choices", "total", "earlier", "row", "lines"]
abbrev p_with_a_year_more : List Str := ["form", "order", "papers", "found"]
theorem sc_with_a_year_more : FnScope n_with_a_year_more p_with_a_year_more (defScope s_with_a_year_more) := ⟨rfl, rfl, rfl, by decide +kernel, rfl, by decide +kernel, by decide +kernel⟩
theorem b_with_a_year_more : BindOk "_with_a_year_more" s_with_a_year_more p_with_a_year_more := fun _ _ _ _ _ _ us hl => match us, hl with | [_, _, _, _], _ => rfl
theorem t_with_a_year_more {v0 v1 v2 v3 : V} : start n_with_a_year_more [v0, v1, v2, v3] = [some v0, some v1, some v2, some v3, none, none, none, none, none, none] := rfl

abbrev s_rows : Stmt := topS 68
abbrev n_rows : List Str := ["count", "rows", "_", "row", "truth"]
abbrev p_rows : List Str := ["count"]
theorem sc_rows : FnScope n_rows p_rows (defScope s_rows) := ⟨rfl, rfl, rfl, by decide +kernel, rfl, by decide +kernel, by decide +kernel⟩
theorem b_rows : BindOk "_rows" s_rows p_rows := fun _ _ _ _ _ _ us hl => match us, hl with | [_], _ => rfl
theorem t_rows {v0 : V} : start n_rows [v0] = [some v0, none, none, none, none] := rfl

abbrev s_law_cell_at : Stmt := topS 70
abbrev n_law_cell_at : List Str := ["_law_script", "_law_k"]
abbrev p_law_cell_at : List Str := ["_law_script", "_law_k"]
theorem sc_law_cell_at : FnScope n_law_cell_at p_law_cell_at (defScope s_law_cell_at) := ⟨rfl, rfl, rfl, by decide +kernel, rfl, by decide +kernel, by decide +kernel⟩
theorem b_law_cell_at : BindOk "_law_cell_at" s_law_cell_at p_law_cell_at := fun _ _ _ _ _ _ us hl => match us, hl with | [_, _], _ => rfl
theorem t_law_cell_at {v0 v1 : V} : start n_law_cell_at [v0, v1] = [some v0, some v1] := rfl

abbrev s_law_mixed : Stmt := topS 71
abbrev n_law_mixed : List Str := ["_law_cell", "_law_k"]
abbrev p_law_mixed : List Str := ["_law_cell", "_law_k"]
theorem sc_law_mixed : FnScope n_law_mixed p_law_mixed (defScope s_law_mixed) := ⟨rfl, rfl, rfl, by decide +kernel, rfl, by decide +kernel, by decide +kernel⟩
theorem b_law_mixed : BindOk "_law_mixed" s_law_mixed p_law_mixed := fun _ _ _ _ _ _ us hl => match us, hl with | [_, _], _ => rfl
theorem t_law_mixed {v0 v1 : V} : start n_law_mixed [v0, v1] = [some v0, some v1] := rfl

abbrev s_law_next : Stmt := topS 72
abbrev n_law_next : List Str := ["_law_state", "_law_size"]
abbrev p_law_next : List Str := ["_law_state", "_law_size"]
theorem sc_law_next : FnScope n_law_next p_law_next (defScope s_law_next) := ⟨rfl, rfl, rfl, by decide +kernel, rfl, by decide +kernel, by decide +kernel⟩
theorem b_law_next : BindOk "_law_next" s_law_next p_law_next := fun _ _ _ _ _ _ us hl => match us, hl with | [_, _], _ => rfl
theorem t_law_next {v0 v1 : V} : start n_law_next [v0, v1] = [some v0, some v1] := rfl

abbrev s_law_whole : Stmt := topS 73
abbrev n_law_whole : List Str := ["_law_found"]
abbrev p_law_whole : List Str := ["_law_found"]
theorem sc_law_whole : FnScope n_law_whole p_law_whole (defScope s_law_whole) := ⟨rfl, rfl, rfl, by decide +kernel, rfl, by decide +kernel, by decide +kernel⟩
theorem b_law_whole : BindOk "_law_whole" s_law_whole p_law_whole := fun _ _ _ _ _ _ us hl => match us, hl with | [_], _ => rfl
theorem t_law_whole {v0 : V} : start n_law_whole [v0] = [some v0] := rfl

abbrev s_law_number : Stmt := topS 74
abbrev n_law_number : List Str := ["_law_state", "_law_kind"]
abbrev p_law_number : List Str := ["_law_state"]
theorem sc_law_number : FnScope n_law_number p_law_number (defScope s_law_number) := ⟨rfl, rfl, rfl, by decide +kernel, rfl, by decide +kernel, by decide +kernel⟩
theorem b_law_number : BindOk "_law_number" s_law_number p_law_number := fun _ _ _ _ _ _ us hl => match us, hl with | [_], _ => rfl
theorem t_law_number {v0 : V} : start n_law_number [v0] = [some v0, none] := rfl

abbrev s_law_table : Stmt := topS 75
abbrev n_law_table : List Str := ["_law_state", "_law_many", "_law_start", "_law_rows", "_law_k", "_law_percent"]
abbrev p_law_table : List Str := ["_law_state"]
theorem sc_law_table : FnScope n_law_table p_law_table (defScope s_law_table) := ⟨rfl, rfl, rfl, by decide +kernel, rfl, by decide +kernel, by decide +kernel⟩
theorem b_law_table : BindOk "_law_table" s_law_table p_law_table := fun _ _ _ _ _ _ us hl => match us, hl with | [_], _ => rfl
theorem t_law_table {v0 : V} : start n_law_table [v0] = [some v0, none, none, none, none, none] := rfl

abbrev s_law_words : Stmt := topS 76
abbrev n_law_words : List Str := ["_law_state", "_law_letters", "_law_base", "_law_k", "_law_words_here", "_law_at_here"]
abbrev p_law_words : List Str := ["_law_state"]
theorem sc_law_words : FnScope n_law_words p_law_words (defScope s_law_words) := ⟨rfl, rfl, rfl, by decide +kernel, rfl, by decide +kernel, by decide +kernel⟩
theorem b_law_words : BindOk "_law_words" s_law_words p_law_words := fun _ _ _ _ _ _ us hl => match us, hl with | [_], _ => rfl
theorem t_law_words {v0 : V} : start n_law_words [v0] = [some v0, none, none, none, none, none] := rfl

abbrev s_law_plain : Stmt := topS 77
abbrev n_law_plain : List Str := ["_law_state", "_law_seen", "_law_sizes_here", "_law_words_here", "_law_kind"]
abbrev p_law_plain : List Str := ["_law_state", "_law_seen", "_law_sizes_here", "_law_words_here"]
theorem sc_law_plain : FnScope n_law_plain p_law_plain (defScope s_law_plain) := ⟨rfl, rfl, rfl, by decide +kernel, rfl, by decide +kernel, by decide +kernel⟩
theorem b_law_plain : BindOk "_law_plain" s_law_plain p_law_plain := fun _ _ _ _ _ _ us hl => match us, hl with | [_, _, _, _], _ => rfl
theorem t_law_plain {v0 v1 v2 v3 : V} : start n_law_plain [v0, v1, v2, v3] = [some v0, some v1, some v2, some v3, none] := rfl

abbrev s_law_rule : Stmt := topS 78
abbrev n_law_rule : List Str := ["_law_state", "_law_deep", "_law_seen", "_law_sizes_here", "_law_words_here", "_law_kind", "_law_one", "_law_other"]
abbrev p_law_rule : List Str := ["_law_state", "_law_deep", "_law_seen", "_law_sizes_here", "_law_words_here"]
theorem sc_law_rule : FnScope n_law_rule p_law_rule (defScope s_law_rule) := ⟨rfl, rfl, rfl, by decide +kernel, rfl, by decide +kernel, by decide +kernel⟩
theorem b_law_rule : BindOk "_law_rule" s_law_rule p_law_rule := fun _ _ _ _ _ _ us hl => match us, hl with | [_, _, _, _, _], _ => rfl
theorem t_law_rule {v0 v1 v2 v3 v4 : V} : start n_law_rule [v0, v1, v2, v3, v4] = [some v0, some v1, some v2, some v3, some v4, none, none, none] := rfl

abbrev s_law_sizes : Stmt := topS 79
abbrev n_law_sizes : List Str := ["_law_cell", "_law_most", "_law_many", "_law_tables", "_law_choices_here"]
abbrev p_law_sizes : List Str := ["_law_cell", "_law_most"]
theorem sc_law_sizes : FnScope n_law_sizes p_law_sizes (defScope s_law_sizes) := ⟨rfl, rfl, rfl, by decide +kernel, rfl, by decide +kernel, by decide +kernel⟩
theorem b_law_sizes : BindOk "_law_sizes" s_law_sizes p_law_sizes := fun _ _ _ _ _ _ us hl => match us, hl with | [_, _], _ => rfl
theorem t_law_sizes {v0 v1 : V} : start n_law_sizes [v0, v1] = [some v0, some v1, none, none, none] := rfl

abbrev s_law_order : Stmt := topS 80
abbrev n_law_order : List Str := ["_law_state", "_law_many", "_law_left", "_law_found"]
abbrev p_law_order : List Str := ["_law_state", "_law_many"]
theorem sc_law_order : FnScope n_law_order p_law_order (defScope s_law_order) := ⟨rfl, rfl, rfl, by decide +kernel, rfl, by decide +kernel, by decide +kernel⟩
theorem b_law_order : BindOk "_law_order" s_law_order p_law_order := fun _ _ _ _ _ _ us hl => match us, hl with | [_, _], _ => rfl
theorem t_law_order {v0 v1 : V} : start n_law_order [v0, v1] = [some v0, some v1, none, none] := rfl

abbrev s_law_form : Stmt := topS 81
abbrev n_law_form : List Str := ["_law_script", "_law_most", "_law_state", "_law_sizes_here", "_law_words_here", "_law_lines", "_law_seen", "_law_line", "_law_deep", "_law_tables", "_law_k"]
abbrev p_law_form : List Str := ["_law_script", "_law_most"]
theorem sc_law_form : FnScope n_law_form p_law_form (defScope s_law_form) := ⟨rfl, rfl, rfl, by decide +kernel, rfl, by decide +kernel, by decide +kernel⟩
theorem b_law_form : BindOk "_law_form" s_law_form p_law_form := fun _ _ _ _ _ _ us hl => match us, hl with | [_, _], _ => rfl
theorem t_law_form {v0 v1 : V} : start n_law_form [v0, v1] = [some v0, some v1, none, none, none, none, none, none, none, none, none] := rfl

abbrev s_law_named : Stmt := topS 82
abbrev n_law_named : List Str := ["_law_rule_here", "_law_word", "_law_found", "_law_one", "_law_more"]
abbrev p_law_named : List Str := ["_law_rule_here", "_law_word"]
theorem sc_law_named : FnScope n_law_named p_law_named (defScope s_law_named) := ⟨rfl, rfl, rfl, by decide +kernel, rfl, by decide +kernel, by decide +kernel⟩
theorem b_law_named : BindOk "_law_named" s_law_named p_law_named := fun _ _ _ _ _ _ us hl => match us, hl with | [_, _], _ => rfl
theorem t_law_named {v0 v1 : V} : start n_law_named [v0, v1] = [some v0, some v1, none, none, none] := rfl

abbrev s_law_at : Stmt := topS 83
abbrev n_law_at : List Str := ["_law_table_here", "_law_number_here", "_law_found", "_law_row_here"]
abbrev p_law_at : List Str := ["_law_table_here", "_law_number_here"]
theorem sc_law_at : FnScope n_law_at p_law_at (defScope s_law_at) := ⟨rfl, rfl, rfl, by decide +kernel, rfl, by decide +kernel, by decide +kernel⟩
theorem b_law_at : BindOk "_law_at" s_law_at p_law_at := fun _ _ _ _ _ _ us hl => match us, hl with | [_, _], _ => rfl
theorem t_law_at {v0 v1 : V} : start n_law_at [v0, v1] = [some v0, some v1, none, none] := rfl

abbrev s_law_value : Stmt := topS 84
abbrev n_law_value : List Str := ["_law_rule_here", "_law_sight", "_law_word", "_law_values", "_law_one", "_law_other"]
abbrev p_law_value : List Str := ["_law_rule_here", "_law_sight"]
theorem sc_law_value : FnScope n_law_value p_law_value (defScope s_law_value) := ⟨rfl, rfl, rfl, by decide +kernel, rfl, by decide +kernel, by decide +kernel⟩
theorem b_law_value : BindOk "_law_value" s_law_value p_law_value := fun _ _ _ _ _ _ us hl => match us, hl with | [_, _], _ => rfl
theorem t_law_value {v0 v1 : V} : start n_law_value [v0, v1] = [some v0, some v1, none, none, none, none] := rfl

abbrev s_law_papers : Stmt := topS 85
abbrev n_law_papers : List Str := ["_law_state", "_law_words_here", "_law_found", "_law_word", "_law_pair"]
abbrev p_law_papers : List Str := ["_law_state", "_law_words_here"]
theorem sc_law_papers : FnScope n_law_papers p_law_papers (defScope s_law_papers) := ⟨rfl, rfl, rfl, by decide +kernel, rfl, by decide +kernel, by decide +kernel⟩
theorem b_law_papers : BindOk "_law_papers" s_law_papers p_law_papers := fun _ _ _ _ _ _ us hl => match us, hl with | [_, _], _ => rfl
theorem t_law_papers {v0 v1 : V} : start n_law_papers [v0, v1] = [some v0, some v1, none, none, none] := rfl

abbrev s_law_alone : Stmt := topS 87
abbrev n_law_alone : List Str := ["_law_e", "_law_many"]
abbrev p_law_alone : List Str := ["_law_e"]
theorem sc_law_alone : FnScope n_law_alone p_law_alone (defScope s_law_alone) := ⟨rfl, rfl, rfl, by decide +kernel, rfl, by decide +kernel, by decide +kernel⟩
theorem b_law_alone : BindOk "_law_alone" s_law_alone p_law_alone := fun _ _ _ _ _ _ us hl => match us, hl with | [_], _ => rfl
theorem t_law_alone {v0 : V} : start n_law_alone [v0] = [some v0, none] := rfl

abbrev s_law_reckoned : Stmt := topS 88
abbrev n_law_reckoned : List Str := ["_law_form_here", "_law_row_here", "_law_pairs", "_law_earlier", "_law_taken_here", "_law_lines", "_law_sight", "_law_line"]
abbrev p_law_reckoned : List Str := ["_law_form_here", "_law_row_here", "_law_pairs", "_law_earlier", "_law_taken_here"]
theorem sc_law_reckoned : FnScope n_law_reckoned p_law_reckoned (defScope s_law_reckoned) := ⟨rfl, rfl, rfl, by decide +kernel, rfl, by decide +kernel, by decide +kernel⟩
theorem b_law_reckoned : BindOk "_law_reckoned" s_law_reckoned p_law_reckoned := fun _ _ _ _ _ _ us hl => match us, hl with | [_, _, _, _, _], _ => rfl
theorem t_law_reckoned {v0 v1 v2 v3 v4 : V} : start n_law_reckoned [v0, v1, v2, v3, v4] = [some v0, some v1, some v2, some v3, some v4, none, none, none] := rfl

abbrev s_law_row : Stmt := topS 89
abbrev n_law_row : List Str := ["_law_lines", "_law_row_here", "_law_line", "_law_waits", "_law_one"]
abbrev p_law_row : List Str := ["_law_lines"]
theorem sc_law_row : FnScope n_law_row p_law_row (defScope s_law_row) := ⟨rfl, rfl, rfl, by decide +kernel, rfl, by decide +kernel, by decide +kernel⟩
theorem b_law_row : BindOk "_law_row" s_law_row p_law_row := fun _ _ _ _ _ _ us hl => match us, hl with | [_], _ => rfl
theorem t_law_row {v0 : V} : start n_law_row [v0] = [some v0, none, none, none, none] := rfl

abbrev s_law_sum : Stmt := topS 90
abbrev n_law_sum : List Str := ["_law_form_here", "_law_row_here", "_law_years", "_law_taken_here", "_law_total", "_law_earlier", "_law_pairs", "_law_choices_here"]
abbrev p_law_sum : List Str := ["_law_form_here", "_law_row_here", "_law_years", "_law_taken_here"]
theorem sc_law_sum : FnScope n_law_sum p_law_sum (defScope s_law_sum) := ⟨rfl, rfl, rfl, by decide +kernel, rfl, by decide +kernel, by decide +kernel⟩
theorem b_law_sum : BindOk "_law_sum" s_law_sum p_law_sum := fun _ _ _ _ _ _ us hl => match us, hl with | [_, _, _, _], _ => rfl
theorem t_law_sum {v0 v1 v2 v3 : V} : start n_law_sum [v0, v1, v2, v3] = [some v0, some v1, some v2, some v3, none, none, none, none] := rfl

abbrev s_law_choices : Stmt := topS 91
abbrev n_law_choices : List Str := ["_law_number_here", "_law_choices_here", "_law_count", "_law_truths", "_law_k"]
abbrev p_law_choices : List Str := ["_law_number_here", "_law_choices_here", "_law_count"]
theorem sc_law_choices : FnScope n_law_choices p_law_choices (defScope s_law_choices) := ⟨rfl, rfl, rfl, by decide +kernel, rfl, by decide +kernel, by decide +kernel⟩
theorem b_law_choices : BindOk "_law_choices" s_law_choices p_law_choices := fun _ _ _ _ _ _ us hl => match us, hl with | [_, _, _], _ => rfl
theorem t_law_choices {v0 v1 v2 : V} : start n_law_choices [v0, v1, v2] = [some v0, some v1, some v2, none, none] := rfl

abbrev s_law_all : Stmt := topS 92
abbrev n_law_all : List Str := ["_law_form_here", "_law_years", "_law_row_here", "_law_found", "_law_many", "_law_k", "_law_number_here", "_law_taken_here"]
abbrev p_law_all : List Str := ["_law_form_here", "_law_years"]
theorem sc_law_all : FnScope n_law_all p_law_all (defScope s_law_all) := ⟨rfl, rfl, rfl, by decide +kernel, rfl, by decide +kernel, by decide +kernel⟩
theorem b_law_all : BindOk "_law_all" s_law_all p_law_all := fun _ _ _ _ _ _ us hl => match us, hl with | [_, _], _ => rfl
theorem t_law_all {v0 v1 : V} : start n_law_all [v0, v1] = [some v0, some v1, none, none, none, none, none, none] := rfl

abbrev s_law_tried : Stmt := topS 93
abbrev n_law_tried : List Str := ["_law_form_here", "_law_years", "_law_way"]
abbrev p_law_tried : List Str := ["_law_form_here", "_law_years", "_law_way"]
theorem sc_law_tried : FnScope n_law_tried p_law_tried (defScope s_law_tried) := ⟨rfl, rfl, rfl, by decide +kernel, rfl, by decide +kernel, by decide +kernel⟩
theorem b_law_tried : BindOk "_law_tried" s_law_tried p_law_tried := fun _ _ _ _ _ _ us hl => match us, hl with | [_, _, _], _ => rfl
theorem t_law_tried {v0 v1 v2 : V} : start n_law_tried [v0, v1, v2] = [some v0, some v1, some v2] := rfl

abbrev s_law_any : Stmt := topS 94
abbrev n_law_any : List Str := ["_law_form_here", "_law_years", "_law_e"]
abbrev p_law_any : List Str := ["_law_form_here", "_law_years"]
theorem sc_law_any : FnScope n_law_any p_law_any (defScope s_law_any) := ⟨rfl, rfl, rfl, by decide +kernel, rfl, by decide +kernel, by decide +kernel⟩
theorem b_law_any : BindOk "_law_any" s_law_any p_law_any := fun _ _ _ _ _ _ us hl => match us, hl with | [_, _], _ => rfl
theorem t_law_any {v0 v1 : V} : start n_law_any [v0, v1] = [some v0, some v1, none] := rfl

abbrev s_law_refused : Stmt := topS 95
abbrev n_law_refused : List Str := ["_law_form_here", "_law_years", "_law_word"]
abbrev p_law_refused : List Str := ["_law_form_here", "_law_years", "_law_word"]
theorem sc_law_refused : FnScope n_law_refused p_law_refused (defScope s_law_refused) := ⟨rfl, rfl, rfl, by decide +kernel, rfl, by decide +kernel, by decide +kernel⟩
theorem b_law_refused : BindOk "_law_refused" s_law_refused p_law_refused := fun _ _ _ _ _ _ us hl => match us, hl with | [_, _, _], _ => rfl
theorem t_law_refused {v0 v1 v2 : V} : start n_law_refused [v0, v1, v2] = [some v0, some v1, some v2] := rfl

abbrev s_law_kinds : Stmt := topS 96
abbrev n_law_kinds : List Str := ["_law_found", "_law_pair", "_law_row_here", "_law_one"]
abbrev p_law_kinds : List Str := ["_law_found"]
theorem sc_law_kinds : FnScope n_law_kinds p_law_kinds (defScope s_law_kinds) := ⟨rfl, rfl, rfl, by decide +kernel, rfl, by decide +kernel, by decide +kernel⟩
theorem b_law_kinds : BindOk "_law_kinds" s_law_kinds p_law_kinds := fun _ _ _ _ _ _ us hl => match us, hl with | [_], _ => rfl
theorem t_law_kinds {v0 : V} : start n_law_kinds [v0] = [some v0, none, none, none] := rfl

abbrev slaw : Stmt := topS 97
abbrev nlaw : List Str := ["_law_script", "_law_parts", "_law_state", "_law_count", "_law_choices_here", "_law_lines", "_law_form_here", "_law_years", "_law_year", "_law_due", "_law_found", "_law_best", "_law_pair", "_law_told"]
abbrev plaw : List Str := ["_law_script"]
theorem sclaw : FnScope nlaw plaw (defScope slaw) := ⟨rfl, rfl, rfl, by decide +kernel, rfl, by decide +kernel, by decide +kernel⟩
theorem blaw : BindOk "law" slaw plaw := fun _ _ _ _ _ _ us hl => match us, hl with | [_], _ => rfl
theorem tlaw {v0 : V} : start nlaw [v0] = [some v0, none, none, none, none, none, none, none, none, none, none, none, none, none] := rfl

abbrev sSheet___init__ : Stmt := inClass (topS 57) 0
abbrev nSheet___init__ : List Str := ["self", "form", "papers", "earlier", "taken"]
abbrev pSheet___init__ : List Str := ["self", "form", "papers", "earlier", "taken"]
theorem scSheet___init__ : FnScope nSheet___init__ pSheet___init__ (defScope sSheet___init__) := ⟨rfl, rfl, rfl, by decide +kernel, rfl, by decide +kernel, by decide +kernel⟩
theorem bSheet___init__ : Qi.BindOkQ "__init__" "Sheet.__init__" sSheet___init__ pSheet___init__ := fun _ _ _ _ _ _ us hl => match us, hl with | [_, _, _, _, _], _ => rfl
theorem tSheet___init__ {v0 v1 v2 v3 v4 : V} : start nSheet___init__ [v0, v1, v2, v3, v4] = [some v0, some v1, some v2, some v3, some v4] := rfl

structure Tx (K : PySem.W.Frag) (w : World) (mg : Str → Option Value) : Prop where
  m_ValueError : mg "ValueError" = none
  m_sorted : mg "sorted" = none
  m_zip : mg "zip" = none
  m_range : mg "range" = none
  m_max : mg "max" = none
  m_min : mg "min" = none
  m_tuple : mg "tuple" = none
  m_list : mg "list" = none
  m_isinstance : mg "isinstance" = none
  m_int : mg "int" = none
  m_set : mg "set" = none
  m_len : mg "len" = none
  m_enumerate : mg "enumerate" = none
  m_sum : mg "sum" = none
  m_bool : mg "bool" = none
  m_str : mg "str" = none
  m_dict : mg "dict" = none
  g_FARTHEST : ∃ t, mg "FARTHEST" = some (.int 1000000000 t)
  g_FULL_PERCENT : ∃ t, mg "FULL_PERCENT" = some (.int 100 t)
  g_DEEPEST : ∃ t, mg "DEEPEST" = some (.int 8 t)
  g_LONGEST_WORD : ∃ t, mg "LONGEST_WORD" = some (.int 8 t)
  g_LETTERS : ∃ t, mg "LETTERS" = some (.str "abcdefghijklmnopqrstuvwxyz" t)
  g_MOST_ROWS : ∃ t, mg "MOST_ROWS" = some (.int 20 t)
  g_ROW_PARTS : ∃ t, mg "ROW_PARTS" = some (.int 3 t)
  g_MOST_LINES : ∃ t, mg "MOST_LINES" = some (.int 40 t)
  g_MOST_TABLES : ∃ t, mg "MOST_TABLES" = some (.int 5 t)
  g_MOST_CHOICES : ∃ t, mg "MOST_CHOICES" = some (.int 8 t)
  g_LINES : ∃ t, mg "LINES" = some (.int 0 t)
  g_TABLES : ∃ t, mg "TABLES" = some (.int 1 t)
  g_CHOICES : ∃ t, mg "CHOICES" = some (.int 2 t)
  g_OWED : ∃ t, mg "OWED" = some (.int 3 t)
  g_MOST_IN_ALL : ∃ t, mg "MOST_IN_ALL" = some (.int 8 t)
  g_PARTS : ∃ d, mg "PARTS" = some (.ref d) ∧ TabAt K w d tPARTS
  g_heappop : mg "heappop" = some (.builtin "_heapq.heappop")
  g_heappush : mg "heappush" = some (.builtin "_heapq.heappush")
  err_FormError : Qe.ErrC K mg "FormError"
  err_NoTable : Qe.ErrC K mg "NoTable"
  err_NoForm : Qe.ErrC K mg "NoForm"
  err_NoRule : Qe.ErrC K mg "NoRule"
  err_Ring : Qe.ErrC K mg "Ring"
  err_NoPaper : Qe.ErrC K mg "NoPaper"
  err_NoYear : Qe.ErrC K mg "NoYear"
  err_NoLine : Qe.ErrC K mg "NoLine"
  err_NoChoice : Qe.ErrC K mg "NoChoice"
  err_TooMany : Qe.ErrC K mg "TooMany"
  sub_Ring_TooMany : Qe.Catch K mg "Ring" "TooMany" false
  sub_Ring_NoPaper : Qe.Catch K mg "Ring" "NoPaper" false
  sub_Ring_FormError : Qe.Catch K mg "Ring" "FormError" true
  sub_NoTable_TooMany : Qe.Catch K mg "NoTable" "TooMany" false
  sub_NoTable_NoPaper : Qe.Catch K mg "NoTable" "NoPaper" false
  sub_NoTable_FormError : Qe.Catch K mg "NoTable" "FormError" true
  sub_NoForm_TooMany : Qe.Catch K mg "NoForm" "TooMany" false
  sub_NoForm_NoPaper : Qe.Catch K mg "NoForm" "NoPaper" false
  sub_NoForm_FormError : Qe.Catch K mg "NoForm" "FormError" true
  sub_TooMany_TooMany : Qe.Catch K mg "TooMany" "TooMany" true
  sub_TooMany_NoPaper : Qe.Catch K mg "TooMany" "NoPaper" false
  sub_TooMany_FormError : Qe.Catch K mg "TooMany" "FormError" true
  sub_NoRule_TooMany : Qe.Catch K mg "NoRule" "TooMany" false
  sub_NoRule_NoPaper : Qe.Catch K mg "NoRule" "NoPaper" false
  sub_NoRule_FormError : Qe.Catch K mg "NoRule" "FormError" true
  sub_NoPaper_TooMany : Qe.Catch K mg "NoPaper" "TooMany" false
  sub_NoPaper_NoPaper : Qe.Catch K mg "NoPaper" "NoPaper" true
  sub_NoPaper_FormError : Qe.Catch K mg "NoPaper" "FormError" true
  exc_Ring : ExcC K (Qe.clsA mg "Ring")
  exc_NoTable : ExcC K (Qe.clsA mg "NoTable")
  exc_NoForm : ExcC K (Qe.clsA mg "NoForm")
  exc_TooMany : ExcC K (Qe.clsA mg "TooMany")
  exc_NoRule : ExcC K (Qe.clsA mg "NoRule")
  exc_NoPaper : ExcC K (Qe.clsA mg "NoPaper")
  kit_Ring_NoRule : PySem.W.kitOne K (.ref (Qe.clsA mg "Ring")) (.ref (Qe.clsA mg "NoRule")) = some false
  kit_Ring_NoYear : PySem.W.kitOne K (.ref (Qe.clsA mg "Ring")) (.ref (Qe.clsA mg "NoYear")) = some false
  kit_Ring_TooMany : PySem.W.kitOne K (.ref (Qe.clsA mg "Ring")) (.ref (Qe.clsA mg "TooMany")) = some false
  kit_Ring_NoTable : PySem.W.kitOne K (.ref (Qe.clsA mg "Ring")) (.ref (Qe.clsA mg "NoTable")) = some false
  kit_Ring_NoForm : PySem.W.kitOne K (.ref (Qe.clsA mg "Ring")) (.ref (Qe.clsA mg "NoForm")) = some false
  kit_Ring_NoPaper : PySem.W.kitOne K (.ref (Qe.clsA mg "Ring")) (.ref (Qe.clsA mg "NoPaper")) = some false
  kit_Ring_NoChoice : PySem.W.kitOne K (.ref (Qe.clsA mg "Ring")) (.ref (Qe.clsA mg "NoChoice")) = some false
  kit_Ring_Ring : PySem.W.kitOne K (.ref (Qe.clsA mg "Ring")) (.ref (Qe.clsA mg "Ring")) = some true
  kit_Ring_NoLine : PySem.W.kitOne K (.ref (Qe.clsA mg "Ring")) (.ref (Qe.clsA mg "NoLine")) = some false
  kit_Ring_ValueError : PySem.W.kitOne K (.ref (Qe.clsA mg "Ring")) (.type "ValueError") = some true
  kit_NoTable_NoRule : PySem.W.kitOne K (.ref (Qe.clsA mg "NoTable")) (.ref (Qe.clsA mg "NoRule")) = some false
  kit_NoTable_NoYear : PySem.W.kitOne K (.ref (Qe.clsA mg "NoTable")) (.ref (Qe.clsA mg "NoYear")) = some false
  kit_NoTable_TooMany : PySem.W.kitOne K (.ref (Qe.clsA mg "NoTable")) (.ref (Qe.clsA mg "TooMany")) = some false
  kit_NoTable_NoTable : PySem.W.kitOne K (.ref (Qe.clsA mg "NoTable")) (.ref (Qe.clsA mg "NoTable")) = some true
  kit_NoTable_NoForm : PySem.W.kitOne K (.ref (Qe.clsA mg "NoTable")) (.ref (Qe.clsA mg "NoForm")) = some false
  kit_NoTable_NoPaper : PySem.W.kitOne K (.ref (Qe.clsA mg "NoTable")) (.ref (Qe.clsA mg "NoPaper")) = some false
  kit_NoTable_NoChoice : PySem.W.kitOne K (.ref (Qe.clsA mg "NoTable")) (.ref (Qe.clsA mg "NoChoice")) = some false
  kit_NoTable_Ring : PySem.W.kitOne K (.ref (Qe.clsA mg "NoTable")) (.ref (Qe.clsA mg "Ring")) = some false
  kit_NoTable_NoLine : PySem.W.kitOne K (.ref (Qe.clsA mg "NoTable")) (.ref (Qe.clsA mg "NoLine")) = some false
  kit_NoTable_ValueError : PySem.W.kitOne K (.ref (Qe.clsA mg "NoTable")) (.type "ValueError") = some true
  kit_NoForm_NoRule : PySem.W.kitOne K (.ref (Qe.clsA mg "NoForm")) (.ref (Qe.clsA mg "NoRule")) = some false
  kit_NoForm_NoYear : PySem.W.kitOne K (.ref (Qe.clsA mg "NoForm")) (.ref (Qe.clsA mg "NoYear")) = some false
  kit_NoForm_TooMany : PySem.W.kitOne K (.ref (Qe.clsA mg "NoForm")) (.ref (Qe.clsA mg "TooMany")) = some false
  kit_NoForm_NoTable : PySem.W.kitOne K (.ref (Qe.clsA mg "NoForm")) (.ref (Qe.clsA mg "NoTable")) = some false
  kit_NoForm_NoForm : PySem.W.kitOne K (.ref (Qe.clsA mg "NoForm")) (.ref (Qe.clsA mg "NoForm")) = some true
  kit_NoForm_NoPaper : PySem.W.kitOne K (.ref (Qe.clsA mg "NoForm")) (.ref (Qe.clsA mg "NoPaper")) = some false
  kit_NoForm_NoChoice : PySem.W.kitOne K (.ref (Qe.clsA mg "NoForm")) (.ref (Qe.clsA mg "NoChoice")) = some false
  kit_NoForm_Ring : PySem.W.kitOne K (.ref (Qe.clsA mg "NoForm")) (.ref (Qe.clsA mg "Ring")) = some false
  kit_NoForm_NoLine : PySem.W.kitOne K (.ref (Qe.clsA mg "NoForm")) (.ref (Qe.clsA mg "NoLine")) = some false
  kit_NoForm_ValueError : PySem.W.kitOne K (.ref (Qe.clsA mg "NoForm")) (.type "ValueError") = some true
  kit_TooMany_NoRule : PySem.W.kitOne K (.ref (Qe.clsA mg "TooMany")) (.ref (Qe.clsA mg "NoRule")) = some false
  kit_TooMany_NoYear : PySem.W.kitOne K (.ref (Qe.clsA mg "TooMany")) (.ref (Qe.clsA mg "NoYear")) = some false
  kit_TooMany_TooMany : PySem.W.kitOne K (.ref (Qe.clsA mg "TooMany")) (.ref (Qe.clsA mg "TooMany")) = some true
  kit_TooMany_NoTable : PySem.W.kitOne K (.ref (Qe.clsA mg "TooMany")) (.ref (Qe.clsA mg "NoTable")) = some false
  kit_TooMany_NoForm : PySem.W.kitOne K (.ref (Qe.clsA mg "TooMany")) (.ref (Qe.clsA mg "NoForm")) = some false
  kit_TooMany_NoPaper : PySem.W.kitOne K (.ref (Qe.clsA mg "TooMany")) (.ref (Qe.clsA mg "NoPaper")) = some false
  kit_TooMany_NoChoice : PySem.W.kitOne K (.ref (Qe.clsA mg "TooMany")) (.ref (Qe.clsA mg "NoChoice")) = some false
  kit_TooMany_Ring : PySem.W.kitOne K (.ref (Qe.clsA mg "TooMany")) (.ref (Qe.clsA mg "Ring")) = some false
  kit_TooMany_NoLine : PySem.W.kitOne K (.ref (Qe.clsA mg "TooMany")) (.ref (Qe.clsA mg "NoLine")) = some false
  kit_TooMany_ValueError : PySem.W.kitOne K (.ref (Qe.clsA mg "TooMany")) (.type "ValueError") = some true
  kit_NoRule_NoRule : PySem.W.kitOne K (.ref (Qe.clsA mg "NoRule")) (.ref (Qe.clsA mg "NoRule")) = some true
  kit_NoRule_NoYear : PySem.W.kitOne K (.ref (Qe.clsA mg "NoRule")) (.ref (Qe.clsA mg "NoYear")) = some false
  kit_NoRule_TooMany : PySem.W.kitOne K (.ref (Qe.clsA mg "NoRule")) (.ref (Qe.clsA mg "TooMany")) = some false
  kit_NoRule_NoTable : PySem.W.kitOne K (.ref (Qe.clsA mg "NoRule")) (.ref (Qe.clsA mg "NoTable")) = some false
  kit_NoRule_NoForm : PySem.W.kitOne K (.ref (Qe.clsA mg "NoRule")) (.ref (Qe.clsA mg "NoForm")) = some false
  kit_NoRule_NoPaper : PySem.W.kitOne K (.ref (Qe.clsA mg "NoRule")) (.ref (Qe.clsA mg "NoPaper")) = some false
  kit_NoRule_NoChoice : PySem.W.kitOne K (.ref (Qe.clsA mg "NoRule")) (.ref (Qe.clsA mg "NoChoice")) = some false
  kit_NoRule_Ring : PySem.W.kitOne K (.ref (Qe.clsA mg "NoRule")) (.ref (Qe.clsA mg "Ring")) = some false
  kit_NoRule_NoLine : PySem.W.kitOne K (.ref (Qe.clsA mg "NoRule")) (.ref (Qe.clsA mg "NoLine")) = some false
  kit_NoRule_ValueError : PySem.W.kitOne K (.ref (Qe.clsA mg "NoRule")) (.type "ValueError") = some true
  kit_NoPaper_NoRule : PySem.W.kitOne K (.ref (Qe.clsA mg "NoPaper")) (.ref (Qe.clsA mg "NoRule")) = some false
  kit_NoPaper_NoYear : PySem.W.kitOne K (.ref (Qe.clsA mg "NoPaper")) (.ref (Qe.clsA mg "NoYear")) = some false
  kit_NoPaper_TooMany : PySem.W.kitOne K (.ref (Qe.clsA mg "NoPaper")) (.ref (Qe.clsA mg "TooMany")) = some false
  kit_NoPaper_NoTable : PySem.W.kitOne K (.ref (Qe.clsA mg "NoPaper")) (.ref (Qe.clsA mg "NoTable")) = some false
  kit_NoPaper_NoForm : PySem.W.kitOne K (.ref (Qe.clsA mg "NoPaper")) (.ref (Qe.clsA mg "NoForm")) = some false
  kit_NoPaper_NoPaper : PySem.W.kitOne K (.ref (Qe.clsA mg "NoPaper")) (.ref (Qe.clsA mg "NoPaper")) = some true
  kit_NoPaper_NoChoice : PySem.W.kitOne K (.ref (Qe.clsA mg "NoPaper")) (.ref (Qe.clsA mg "NoChoice")) = some false
  kit_NoPaper_Ring : PySem.W.kitOne K (.ref (Qe.clsA mg "NoPaper")) (.ref (Qe.clsA mg "Ring")) = some false
  kit_NoPaper_NoLine : PySem.W.kitOne K (.ref (Qe.clsA mg "NoPaper")) (.ref (Qe.clsA mg "NoLine")) = some false
  kit_NoPaper_ValueError : PySem.W.kitOne K (.ref (Qe.clsA mg "NoPaper")) (.type "ValueError") = some true
  c_Sheet : Cls K (Qe.clsA mg "Sheet")
  na_Sheet_tables : NoAttr K (Qe.clsA mg "Sheet") "tables"
  na_Sheet_papers : NoAttr K (Qe.clsA mg "Sheet") "papers"
  na_Sheet_earlier : NoAttr K (Qe.clsA mg "Sheet") "earlier"
  na_Sheet_taken : NoAttr K (Qe.clsA mg "Sheet") "taken"
  na_Sheet_lines : NoAttr K (Qe.clsA mg "Sheet") "lines"
  F_Sheet___init__ : Qi.InitAt K mg "Sheet" "Sheet.__init__" sSheet___init__
  F_is_whole : FunAt K mg "is_whole" sis_whole
  F_is_within : FunAt K mg "is_within" sis_within
  F_is_number : FunAt K mg "is_number" sis_number
  F_is_percent : FunAt K mg "is_percent" sis_percent
  F_is_place : FunAt K mg "is_place" sis_place
  F_hundredths : FunAt K mg "hundredths" shundredths
  F_is_rule : FunAt K mg "is_rule" sis_rule
  F_is_word : FunAt K mg "is_word" sis_word
  F_named : FunAt K mg "named" snamed
  F__is_rule_within : FunAt K mg "_is_rule_within" s_is_rule_within
  F__has_form : FunAt K mg "_has_form" s_has_form
  F__is_part : FunAt K mg "_is_part" s_is_part
  F__behind : FunAt K mg "_behind" s_behind
  F_is_table : FunAt K mg "is_table" sis_table
  F_at_number : FunAt K mg "at_number" sat_number
  F__is_row : FunAt K mg "_is_row" s_is_row
  F__starts_rise : FunAt K mg "_starts_rise" s_starts_rise
  F_form_of : FunAt K mg "form_of" sform_of
  F_ring_of : FunAt K mg "ring_of" sring_of
  F_order_of : FunAt K mg "order_of" sorder_of
  F__need_tables : FunAt K mg "_need_tables" s_need_tables
  F__need_sizes : FunAt K mg "_need_sizes" s_need_sizes
  F__need_rules : FunAt K mg "_need_rules" s_need_rules
  F__lines_named : FunAt K mg "_lines_named" s_lines_named
  F__ring_from : FunAt K mg "_ring_from" s_ring_from
  F_is_paper : FunAt K mg "is_paper" sis_paper
  F_papers_of : FunAt K mg "papers_of" spapers_of
  F_lines_of : FunAt K mg "lines_of" slines_of
  F__worth : FunAt K mg "_worth" s_worth
  F__of_both : FunAt K mg "_of_both" s_of_both
  F_sums : FunAt K mg "sums" ssums
  F_least : FunAt K mg "least" sleast
  F__with_a_year_more : FunAt K mg "_with_a_year_more" s_with_a_year_more
  F__rows : FunAt K mg "_rows" s_rows
  F__law_cell_at : FunAt K mg "_law_cell_at" s_law_cell_at
  F__law_mixed : FunAt K mg "_law_mixed" s_law_mixed
  F__law_next : FunAt K mg "_law_next" s_law_next
  F__law_whole : FunAt K mg "_law_whole" s_law_whole
  F__law_number : FunAt K mg "_law_number" s_law_number
  F__law_table : FunAt K mg "_law_table" s_law_table
  F__law_words : FunAt K mg "_law_words" s_law_words
  F__law_plain : FunAt K mg "_law_plain" s_law_plain
  F__law_rule : FunAt K mg "_law_rule" s_law_rule
  F__law_sizes : FunAt K mg "_law_sizes" s_law_sizes
  F__law_order : FunAt K mg "_law_order" s_law_order
  F__law_form : FunAt K mg "_law_form" s_law_form
  F__law_named : FunAt K mg "_law_named" s_law_named
  F__law_at : FunAt K mg "_law_at" s_law_at
  F__law_value : FunAt K mg "_law_value" s_law_value
  F__law_papers : FunAt K mg "_law_papers" s_law_papers
  F__law_alone : FunAt K mg "_law_alone" s_law_alone
  F__law_reckoned : FunAt K mg "_law_reckoned" s_law_reckoned
  F__law_row : FunAt K mg "_law_row" s_law_row
  F__law_sum : FunAt K mg "_law_sum" s_law_sum
  F__law_choices : FunAt K mg "_law_choices" s_law_choices
  F__law_all : FunAt K mg "_law_all" s_law_all
  F__law_tried : FunAt K mg "_law_tried" s_law_tried
  F__law_any : FunAt K mg "_law_any" s_law_any
  F__law_refused : FunAt K mg "_law_refused" s_law_refused
  F__law_kinds : FunAt K mg "_law_kinds" s_law_kinds
  F_law : FunAt K mg "law" slaw

end KF
open PySem PySem.Spec PyProof.Rows L2 Qa Qr
local macro_rules | `(tactic| walk_at "tv") => `(tactic| first
  | assumption
  | exact Tv.int _
  | exact Tv.bl _
  | exact Tv.str _ (by first | assumption | decide | decide +kernel)
  | exact Tv.non
  | ((refine' tv_st ?h ?e); (case e => assumption); (case h => walk_at "tv"))
  | ((refine' tv_ex ?h ?e); (case e => assumption); (case h => walk_at "tv")))
local macro_rules | `(tactic| walk_at "tva") => `(tactic| first
  | assumption
  | ((refine' tva_st ?h ?e); (case e => assumption); (case h => walk_at "tva"))
  | ((refine' tva_ex ?h ?e); (case e => assumption); (case h => walk_at "tva")))
local macro_rules | `(tactic| walk_at "sqt") => `(tactic| first
  | assumption
  | exact SqT.of (by assumption)
  | ((refine' sqt_st ?h ?e); (case e => assumption); (case h => walk_at "sqt"))
  | ((refine' sqt_ex ?h ?e); (case e => assumption); (case h => walk_at "sqt")))
local macro_rules | `(tactic| walk_at "lst") => `(tactic| first
  | assumption
  | ((refine' lst_st ?h ?e ?n); (case e => assumption); (case n => assumption); (case h => walk_at "lst"))
  | ((refine' lst_ex ?h ?e); (case e => assumption); (case h => walk_at "lst")))
local macro_rules | `(tactic| walk_at "sql") => `(tactic| first
  | assumption
  | exact SqL.of (by walk_at "lst")
  | ((refine' sql_ex ?h ?e); (case e => assumption); (case h => walk_at "sql")))
local macro_rules | `(tactic| walk_at "sta") => `(tactic| first
  | assumption
  | ((refine' sta_st ?e); (case e => assumption))
  | ((refine' sta_ex ?h ?e); (case e => assumption); (case h => walk_at "sta")))
local macro_rules | `(tactic| walk_at "sd") => `(tactic| first
  | assumption
  | omega
  | (simp only [CMul, CDiv, CDivN, CPow]; omega)
  | decide)
local macro_rules | `(tactic| walk_at "rd1") => `(tactic| first
  | with_reducible refine rd_seq ?_
  | with_reducible refine Qe.rd_raiseC ?_
  | with_reducible refine Qe.rd_calX ?_
  | with_reducible refine Qe.rd_calE ?_
  | with_reducible refine rd_cons ?_
  | with_reducible refine rd_nil ?_
  | ((with_reducible refine' rd_var ?h ?_); (case h => exact rfl))
  | with_reducible refine rd_c ?_
  | with_reducible refine rd_op ?_
  | with_reducible refine rd_asg ?_
  | ((with_reducible refine' rd_name ?h ?_); (case h => (first | (dsimp only [List.set]; done) | (dsimp only [List.set]; exact rfl))))
  | with_reducible refine rd_cal ?_
  | with_reducible refine rd_ret ?_
  | with_reducible refine rd_ifS ?_
  | with_reducible refine rd_cb ?_
  | with_reducible refine rd_addI ?_
  | with_reducible refine rd_I0 ?_
  | with_reducible refine rd_pow9 ?_
  | with_reducible refine rd_pow12 ?_
  | ((with_reducible refine' rd_I ?h ?_); (case h => walk_at "sd"))
  | with_reducible refine rd_U ?_
  | with_reducible refine rd_eqI ?_
  | with_reducible refine rd_eqS ?_
  | with_reducible refine rd_eqB ?_
  | with_reducible refine rd_neI ?_
  | with_reducible refine rd_neS ?_
  | with_reducible refine rd_neB ?_
  | with_reducible refine rd_signIn ?_
  | with_reducible refine rd_signOut ?_
  | with_reducible refine rd_tup ?_
  | with_reducible refine rd_lst ?_
  | with_reducible refine rd_test ?_
  | with_reducible refine rd_tB ?_
  | with_reducible refine rd_bl ?_
  | with_reducible refine rd_blP ?_
  | with_reducible refine rd_tru ?_
  | with_reducible refine rd_trub ?_
  | with_reducible refine rd_trun ?_
  | with_reducible refine rd_not ?_
  | with_reducible refine rd_and ?_
  | with_reducible refine rd_or ?_
  | with_reducible refine rd_andV ?_
  | with_reducible refine rd_orV ?_
  | with_reducible refine rd_notV ?_
  | with_reducible refine rd_ifE ?_
  | with_reducible refine rd_chain ?_
  | with_reducible refine rd_retN ?_
  | with_reducible refine rd_drop ?_
  | with_reducible refine rd_next ?_
  | with_reducible refine rd_brk ?_
  | with_reducible refine rd_cont ?_
  | with_reducible refine rd_un ?_
  | with_reducible refine rd_bm ?_
  | with_reducible refine rd_sl ?_
  | with_reducible refine rd_part ?_
  | with_reducible refine rd_partI ?_
  | with_reducible refine rd_nopart ?_
  | with_reducible refine rd_gcons ?_
  | with_reducible refine rd_gnil ?_
  | with_reducible refine rd_gsub ?_
  | with_reducible refine rd_intB ?_
  | with_reducible refine rd_intI ?_
  | with_reducible refine rd_min2 ?_
  | with_reducible refine rd_max2 ?_
  | with_reducible refine rd_par ?_
  | ((with_reducible refine' rd_isInt ?h ?_); (case h => walk_at "tv"))
  | ((with_reducible refine' rd_isBool ?h ?_); (case h => walk_at "tv"))
  | ((with_reducible refine' rd_isStr ?h ?_); (case h => walk_at "tv"))
  | ((with_reducible refine' rd_isTup ?h ?_); (case h => walk_at "tv"))
  | ((with_reducible refine' rd_isLst ?h ?_); (case h => walk_at "tv"))
  | ((with_reducible refine' rd_inTab ?h ?_); (case h => assumption))
  | ((with_reducible refine' rd_outTab ?h ?_); (case h => assumption))
  | with_reducible refine rd_dgetT ?_
  | ((with_reducible refine' rd_lenS ?h ?_); (case h => first | assumption | decide))
  | ((with_reducible refine' rd_tyL ?h ?_); (case h => walk_at "sql"))
  | with_reducible refine rd_forS ?_
  | with_reducible refine rd_lcS ?_
  | with_reducible refine rd_lcR1 ?_
  | with_reducible refine rd_lcR2 ?_
  | with_reducible refine rd_forR1 ?_
  | with_reducible refine rd_forR2 ?_
  | with_reducible refine rd_forZ ?_
  | with_reducible refine rd_forR3 ?_
  | with_reducible refine rd_din ?_
  | with_reducible refine rd_dnotin ?_
  | with_reducible refine rd_dput ?_
  | with_reducible refine rd_dget2 ?_
  | with_reducible refine rd_forE ?_
  | with_reducible refine rd_lcE ?_
  | with_reducible refine Qt.rd_lcET ?_
  | with_reducible refine rd_augS ?_
  | with_reducible refine rd_ipI ?_
  | ((with_reducible refine' rd_fsT ?h ?_); (case h => walk_at "sqt"))
  | ((with_reducible refine' rd_fsL ?h ?_); (case h => walk_at "sql"))
  | with_reducible refine rd_fsS ?_
  | ((with_reducible refine' rd_fr1 ?h1 ?h2 ?_); (case h1 => omega); (case h2 => omega))
  | with_reducible refine Qm.rd_match ?_
  | with_reducible refine Qi.rd_fld ?_
  | with_reducible refine Qi.rd_sfld ?_
  | with_reducible refine Qi.rd_make ?_
  | with_reducible refine Qi.rd_makeX ?_
  | with_reducible refine Qi.rd_me ?_
  | with_reducible refine Qi.rd_meX ?_
  | ((with_reducible show ite _ _ _); first | refine iteT ?_ | refine iteF ?_))
local macro_rules | `(tactic| walk_at "lcn") => `(tactic| ((refine' rd_name ?h ?_); (case h => (first | (dsimp only [wipe, List.map, List.set]; done) | (dsimp only [wipe, List.map, List.set]; exact rfl))); refine ⟨rfl, ?_⟩; (try (refine rd_yes ?_; refine iteT ?_))))
local macro_rules | `(tactic| walk_at "exx") => `(tactic| first
  | assumption
  | exact Evl.Ex.refl _
  | ((refine' Evl.Ex.trans ?h ?e); (case e => assumption); (case h => walk_at "exx")))
local macro_rules | `(tactic| walk_at "ati") => `(tactic| first
  | exact atI_nat (j := 0) rfl
  | exact atI_nat (j := 1) rfl
  | exact atI_nat (j := 2) rfl
  | exact atI_nat (j := 3) rfl)
local macro_rules | `(tactic| walk_at "len") => `(tactic| first
  | decide
  | assumption
  | (simp; done)
  | (simp; omega)
  | omega)
local macro_rules | `(tactic| walk_at "rda1") => `(tactic| first
  | walk_at "rd1"
  | ((with_reducible refine' rd_ixT ?h ?e ?_); (case h => walk_at "sqt"); (case e => walk_at "ati"))
  | ((with_reducible refine' rd_ixL ?h ?e ?_); (case h => walk_at "sql"); (case e => walk_at "ati"))
  | ((with_reducible refine' new_tup ?q ?l); (case l => walk_at "len"); intro _ _ _ _ _)
  | ((with_reducible refine' new_lst ?q ?l); (case l => walk_at "len"); intro _ _ _ _ _)
  | ((with_reducible refine' rd_addL ?a ?b ?l ?q); (case a => walk_at "lst"); (case b => walk_at "lst"); (case l => walk_at "len"); intro _ _ _ _ _)
  | ((with_reducible refine' rd_addT ?a ?b ?l ?q); (case a => walk_at "sqt"); (case b => walk_at "sqt"); (case l => walk_at "len"); intro _ _ _ _)
  | ((with_reducible refine' rd_lstOfT ?a ?q); (case a => walk_at "sqt"); intro _ _ _ _ _)
  | ((with_reducible refine' rd_tupOfL ?a ?q); (case a => walk_at "sql"); intro _ _ _ _ _)
  | ((with_reducible refine' rd_slT ?a ?q); (case a => walk_at "sqt"); intro _ _ _ _)
  | ((with_reducible refine' rd_lenT ?a ?_); (case a => walk_at "sqt"))
  | ((with_reducible refine' rd_lenL ?a ?_); (case a => walk_at "sql")))
local macro_rules | `(tactic| walk_at "rda") => `(tactic| (repeat (walk_at "rda1")))
local macro_rules | `(tactic| walk_at "tvm") => `(tactic| first
  | exact TvA.nil
  | exact Tv.int _
  | exact Tv.bl _
  | exact Tv.str _ (by first | assumption | decide | decide +kernel)
  | exact Tv.non
  | walk_at "tv"
  | ((refine' Tv.tup ?h ?a); (case h => walk_at "sqt"); (case a => walk_at "tvm"))
  | ((refine' Tv.lst ?h); (case h => walk_at "sql"))
  | ((refine' TvA.cons ?h ?a); (case h => walk_at "tvm"); (case a => walk_at "tvm")))
local macro_rules | `(tactic| walk_at "rd") => `(tactic| (repeat (walk_at "rd1")))
local macro_rules | `(tactic| walk_at "vals") => `(tactic| first
  | exact Paired.nil
  | ((refine' Paired.cons ?a ?b); (case a => exact ⟨_, rfl⟩); (case b => walk_at "vals")))
local macro_rules | `(tactic| walk_at "tab") => `(tactic| first
  | exact Paired.nil
  | ((refine' ent_cons ?k ?s ?v ?b); (case k => k_is); (case s => decide); (case v => walk_at "vals"); (case b => walk_at "tab")))

namespace KF
section
variable {P : Program} {w : World} {K : PySem.W.Frag} {mg : Str → Option Value} {base : Heap} {H : Hp} {Q : VK} {E : XK}
def spWhole (K : PySem.W.Frag) : Sp := sp1 fun a H Q => ∃ t, Tv K H a t ∧ Q (.bl (isWhole t)) H
theorem k_is_whole (T : Tx K w mg) : Cal P w K mg base "is_whole" 1 pis_whole (spWhole K) := by
  refine cal1 T.F_is_whole scis_whole bis_whole rfl fun g cdv A outer s H a Q E hr h => ?_
  obtain ⟨t, ht, q⟩ := h
  refine ⟨_, (pss_one (ps_ret (pe_and (pe_callB call_isi (by rfl) T.m_isinstance (by decide +kernel) (pa_cons (pv 0) (pa_cons (pe_ty (n := "int") T.m_int (by decide +kernel)) pa_nil))) (pe_one (pe_not (pe_callB call_isi (by rfl) T.m_isinstance (by decide +kernel) (pa_cons (pv 0) (pa_cons (pe_ty (n := "bool") T.m_bool (by decide +kernel)) pa_nil)))))))), ?_⟩
  rw [tis_whole]
  try dsimp only [cxOf, Cx.nox, Cx.wish]
  cases t <;> (walk_at "rd"; exact q)
def spWithin (K : PySem.W.Frag) : Sp := sp3 fun a b c H Q => ∃ t lo hi, Tv K H a t ∧ b = .int lo ∧ c = .int hi ∧ Q (.bl (within t lo hi)) H
theorem k_is_within (T : Tx K w mg) (c_is_whole : Cal P w K mg base "is_whole" 1 pis_whole (spWhole K)) : Cal P w K mg base "is_within" 2 pis_within (spWithin K) := by
  refine cal3 T.F_is_within scis_within bis_within rfl fun g cdv A outer s H a b c Q E hr h => ?_
  obtain ⟨t, lo, hi, ht, rfl, rfl, q⟩ := h
  refine ⟨_, (pss_one (ps_ret (pe_and (pe_cal c_is_whole (hr.mono (by omega)) (pa_cons (pv 0) pa_nil)) (pe_one (pe_chain op_le op_le (pv 1) (pv 0) (pv 2)))))), ?_⟩
  rw [tis_within]
  try dsimp only [cxOf, Cx.nox, Cx.wish]
  walk_at "rd"
  refine rd_sp1 ⟨t, ht, ?_⟩
  walk_at "rd"
  cases t with
  | int i =>
    cases ht
    walk_at "rd"
    refine rd_ite (fun h1 => ?_) (fun h1 => ?_)
    · walk_at "rd"
      simpa [within, h1] using q
    · simpa [within, h1] using q
  | _ => walk_at "rd"; exact q
def spNum (K : PySem.W.Frag) : Sp := sp1 fun a H Q => ∃ t, Tv K H a t ∧ Q (.bl (isNum t)) H
def spPct (K : PySem.W.Frag) : Sp := sp1 fun a H Q => ∃ t, Tv K H a t ∧ Q (.bl (isPct t)) H
def spPlace (K : PySem.W.Frag) : Sp := sp2 fun a b H Q => ∃ t n, Tv K H a t ∧ b = .int n ∧ Q (.bl (isPlace t n)) H
def spWord (K : PySem.W.Frag) : Sp := sp1 fun a H Q => ∃ t, Tv K H a t ∧ Q (.bl (isWord t)) H
theorem k_is_number (T : Tx K w mg) (c_is_within : Cal P w K mg base "is_within" 2 pis_within (spWithin K)) : Cal P w K mg base "is_number" 3 pis_number (spNum K) := by
  refine cal1 T.F_is_number scis_number bis_number rfl fun g cdv A outer s H a Q E hr h => ?_
  obtain ⟨t, ht, q⟩ := h
  refine ⟨_, (pss_one (ps_ret (pe_cal c_is_within (hr.mono (by omega)) (pa_cons (pv 0) (pa_cons (pe_un un_neg (pe_gint T.g_FARTHEST)) (pa_cons (pe_gint T.g_FARTHEST) pa_nil)))))), ?_⟩
  rw [tis_number]
  try dsimp only [cxOf, Cx.nox, Cx.wish]
  walk_at "rd"
  exact rd_sp3 ⟨t, _, _, ht, rfl, rfl, q⟩
theorem k_is_percent (T : Tx K w mg) (c_is_within : Cal P w K mg base "is_within" 2 pis_within (spWithin K)) : Cal P w K mg base "is_percent" 3 pis_percent (spPct K) := by
  refine cal1 T.F_is_percent scis_percent bis_percent rfl fun g cdv A outer s H a Q E hr h => ?_
  obtain ⟨t, ht, q⟩ := h
  refine ⟨_, (pss_one (ps_ret (pe_cal c_is_within (hr.mono (by omega)) (pa_cons (pv 0) (pa_cons pe_int (pa_cons (pe_gint T.g_FULL_PERCENT) pa_nil)))))), ?_⟩
  rw [tis_percent]
  try dsimp only [cxOf, Cx.nox, Cx.wish]
  walk_at "rd"
  exact rd_sp3 ⟨t, _, _, ht, rfl, rfl, q⟩
theorem k_is_place (T : Tx K w mg) (c_is_whole : Cal P w K mg base "is_whole" 1 pis_whole (spWhole K)) (c_is_within : Cal P w K mg base "is_within" 2 pis_within (spWithin K)) : Cal P w K mg base "is_place" 3 pis_place (spPlace K) := by
  refine cal2 T.F_is_place scis_place bis_place rfl fun g cdv A outer s H a b Q E hr h => ?_
  obtain ⟨t, n, ht, rfl, q⟩ := h
  refine ⟨_, (pss_one (ps_ret (pe_and (pe_cal c_is_whole (hr.mono (by omega)) (pa_cons (pv 1) pa_nil)) (pe_one (pe_cal c_is_within (hr.mono (by omega)) (pa_cons (pv 0) (pa_cons pe_int (pa_cons (pe_op op_sub (pv 1) pe_int) pa_nil)))))))), ?_⟩
  rw [tis_place]
  try dsimp only [cxOf, Cx.nox, Cx.wish]
  walk_at "rd"
  refine rd_sp1 ⟨_, .int n, ?_⟩
  walk_at "rd"
  exact rd_sp3 ⟨t, _, _, ht, rfl, rfl, q⟩
theorem k_is_word (T : Tx K w mg) : Cal P w K mg base "is_word" 1 pis_word (spWord K) := by
  refine cal1 T.F_is_word scis_word bis_word rfl fun g cdv A outer s H a Q E hr h => ?_
  obtain ⟨t, ht, q⟩ := h
  refine ⟨_, (pss_cons (ps_if (PW.pt (pw_or (pt_not (pt_tru (pe_callB call_isi (by rfl) T.m_isinstance (by decide +kernel) (pa_cons (pv 0) (pa_cons (pe_ty (n := "str") T.m_str (by decide +kernel)) pa_nil))))) (pw_or1 (pt_not (pt_chain op_le op_le pe_int (pe_callB cr_lenA (by rfl) T.m_len (by decide +kernel) (pa_cons (pv 0) pa_nil)) (pe_gint T.g_LONGEST_WORD)))))) (pss_one (ps_ret pe_bl)) pss_nil) (pss_cons (ps_for PassesOwn.never rfl (pi_seq (pv 0)) (pg_name (i := 1) (scis_word).nd rfl (by first | exact Or.inl rfl | exact Or.inr rfl)) (pss_one (ps_if (pt_cmpR op_signOut (pv 1) (pe_gstr T.g_LETTERS) (by rfl)) (pss_one (ps_ret pe_bl)) pss_nil))) (pss_one (ps_ret pe_bl)))), ?_⟩
  rw [tis_word]
  try dsimp only [cxOf, Cx.nox, Cx.wish]
  cases t with
  | str x =>
    cases ht
    walk_at "rd"
    have ln : x.length = x.cps.toList.length := rfl
    refine rd_ite (fun h1 => ?_) (fun h1 => ?_)
    · walk_at "rd"
      refine rd_iteN (fun h2 => ?_) (fun h2 => ?_)
      · walk_at "rd"
        rw [isWord_str, decide_eq_false (show ¬ x.length ≤ 8 by omega), Bool.and_false, Bool.false_and] at q
        exact q
      · walk_at "rd"
        refine forW_S (fun i σ H2 => (∃ y, σ = [some (.str x), y]) ∧ H2 = H ∧ (x.cps.toList.take i).all inLet = true) ?_ ?_ ?_
        · exact ⟨⟨_, rfl⟩, rfl, rfl⟩
        · rintro i c σ H2 hc ⟨⟨y, rfl⟩, rfl, hall⟩
          walk_at "rd"
          refine rd_iteN (fun h3 => ?_) (fun h3 => ?_)
          · walk_at "rd"
            have e2 : x.cps.toList.all inLet = false := by
              rw [Bool.eq_false_iff]
              intro z
              exact h3 (of_decide_eq_true (List.all_eq_true.mp z c (List.mem_of_getElem? hc)))
            rw [isWord_str, e2, Bool.and_false] at q
            exact q
          · walk_at "rd"
            refine ⟨⟨_, rfl⟩, rfl, ?_⟩
            rw [List.take_add_one, hc, List.all_append, hall]
            show (true && (inLet c && true)) = true
            rw [show inLet c = true from decide_eq_true h3]
            rfl
        · rintro σ H2 ⟨⟨y, rfl⟩, rfl, hall⟩
          walk_at "rd"
          rw [ln, List.take_length] at hall
          rw [isWord_str, hall, decide_eq_true (show 1 ≤ x.length by omega), decide_eq_true (show x.length ≤ 8 by omega)] at q
          exact q
    · walk_at "rd"
      rw [isWord_str, decide_eq_false (show ¬ 1 ≤ x.length by omega), Bool.false_and, Bool.false_and] at q
      exact q
  | _ => walk_at "rd"; exact q
def spCell (K : PySem.W.Frag) : Sp := sp2 fun a b H Q => ∃ (l : Addr) (ns : List Int) (k : Nat), a = .ref l ∧ b = .int ((k : Nat) : Int) ∧ SqL K H l (ns.map V.int) ∧ ∀ r, Q (.int r) H
theorem k__law_cell_at (T : Tx K w mg) : Cal P w K mg base "_law_cell_at" 1 p_law_cell_at (spCell K) := by
  refine cal2 T.F__law_cell_at sc_law_cell_at b_law_cell_at rfl fun g cdv A outer s H a b Q E hr h => ?_
  obtain ⟨l, ns, k, rfl, rfl, hl, q⟩ := h
  refine ⟨_, (pss_cons (ps_if (pt_cmpR op_lt (pv 1) (pe_callB cr_lenA (by rfl) T.m_len (by decide +kernel) (pa_cons (pv 0) pa_nil)) (nomark _)) (pss_one (ps_ret (pe_ix ix_seq (pv 0) (pv 1) (fun _ _ => rfl)))) pss_nil) (pss_one (ps_ret pe_int))), ?_⟩
  rw [t_law_cell_at]
  try dsimp only [cxOf, Cx.nox, Cx.wish]
  walk_at "rd"
  refine rd_lenL hl ?_
  walk_at "rd"
  refine rd_ite (fun h1 => ?_) (fun h1 => ?_)
  · walk_at "rd"
    rw [List.length_map] at h1
    have hk : k < ns.length := by omega
    refine rd_ixL hl (atI_nat (j := k) (v := .int ns[k]) ?_) ?_
    · rw [List.getElem?_map, List.getElem?_eq_getElem hk]
      rfl
    · exact q _
  · walk_at "rd"
    exact q _
def spMixed (K : PySem.W.Frag) : Sp := sp2 fun a b H Q => ∃ c k, a = .int c ∧ b = .int k ∧ ∀ r, 0 ≤ r → r < 2147483647 → Q (.int r) H
theorem k__law_mixed (T : Tx K w mg) : Cal P w K mg base "_law_mixed" 1 p_law_mixed (spMixed K) := by
  refine cal2 T.F__law_mixed sc_law_mixed b_law_mixed rfl fun g cdv A outer s H a b Q E hr h => ?_
  obtain ⟨c, k, rfl, rfl, q⟩ := h
  refine ⟨_, (pss_one (ps_ret (pe_op op_mod (pe_op op_mul (pe_op op_addA (pv 0) (pe_op op_mul pe_int (pv 1))) pe_int) pe_int))), ?_⟩
  rw [t_law_mixed]
  try dsimp only [cxOf, Cx.nox, Cx.wish]
  walk_at "rd"
  exact q _ (by omega) (by omega)
def spNext (K : PySem.W.Frag) : Sp := sp2 fun a b H Q => ∃ l n, a = .ref l ∧ b = .int n ∧ (∃ s, H l = some (.lst [.int s])) ∧ 0 < n ∧ ∀ r H', 0 ≤ r → r < n → St1 l H H' → Q (.int r) H'
theorem k__law_next (T : Tx K w mg) : Cal P w K mg base "_law_next" 1 p_law_next (spNext K) := by
  refine cal2 T.F__law_next sc_law_next b_law_next rfl fun g cdv A outer s H a b Q E hr h => ?_
  obtain ⟨l, n, rfl, rfl, ⟨s0, hl⟩, hn, q⟩ := h
  refine ⟨_, (pss_cons (ps_asg (pe_op op_mod (pe_op op_addA (pe_op op_mul (pe_ix ix_seq (pv 0) pe_int (fun _ _ => rfl)) pe_int) pe_int) pe_int) (pg_sub (pv 0) pe_int set_list)) (pss_one (ps_ret (pe_op op_mod (pe_op op_fdiv (pe_ix ix_seq (pv 0) pe_int (fun _ _ => rfl)) pe_int) (pv 1))))), ?_⟩
  rw [t_law_next]
  try dsimp only [cxOf, Cx.nox, Cx.wish]
  walk_at "rd"
  refine rd_ixL (.of hl) (atI_nat (j := 0) rfl) ?_
  walk_at "rd"
  refine rd_setL hl (j := 0) rfl ?_
  walk_at "rd"
  refine rd_ixL (.of upd_same) (atI_nat (j := 0) rfl) ?_
  walk_at "rd"
  refine q _ _ (Int.emod_nonneg _ (by omega)) (Int.emod_lt_of_pos _ hn) ⟨fun b o hb e => by rw [upd_ne hb]; exact e, ⟨_, upd_same⟩, Tame.upd hl⟩
theorem nx {l : Addr} {n : Int} {E : XK} (h : ∃ s, H l = some (.lst [.int s])) (hn : 0 < n) (q : ∀ r H', 0 ≤ r → r < n → St1 l H H' → Q (.int r) H') : spNext K [.ref l, .int n] H Q E := rd_sp2 ⟨l, n, rfl, rfl, h, hn, q⟩
def spNo : Sp := fun _ _ _ _ => False
theorem cal_no {x : Str} {st : Stmt} {N ps : List Str} (F : FunAt K mg x st) (S : FnScope N ps (defScope st)) (hb : BindOk x st ps) : Cal P w K mg base x 1 ps spNo :=
  cal_mk F S hb (fun _ _ _ _ h => h.elim) fun _ _ _ _ _ _ _ _ _ _ h => h.elim
end
end KF
open PySem PySem.Spec PyProof.Rows L2 Qa Qr


namespace KF
section
variable {P : Program} {w : World} {K : PySem.W.Frag} {mg : Str → Option Value} {base : Heap} {H : Hp} {Q : VK} {E : XK}
def spBeh (K : PySem.W.Frag) (n : Nat) : Sp := sp2 fun a b H Q => ∃ t sz x, Tv K H a t ∧ b = .str x ∧ x ∈ five ∧ isRule sz n t = true ∧ n ≤ 8 ∧ ∀ p H', H p = none → Ex H H' → H' p = some (.lst ((beh x n t).map kV)) → Q (.ref p) H'
theorem k_beh {n m : Nat} (T : Tx K w mg) (c__behind : Cal P w K mg base "_behind" m p_behind (spBeh K n)) : Cal P w K mg base "_behind" (m + 1) p_behind (spBeh K (n + 1)) := by
  refine cal2 T.F__behind sc_behind b_behind rfl fun g cdv A outer s H a b Q E hr h => ?_
  obtain ⟨t, sz, wd, ht, rfl, hx, hrule, hn, q⟩ := h
  obtain ⟨dP, h_PARTS, tP⟩ := T.g_PARTS
  refine ⟨_, (pss_cons (ps_set (i := 2) (sc_behind).nd rfl (by first | exact Or.inl rfl | exact Or.inr rfl) (pe_lst pa_nil)) (Evl.pss_cut (ps_if (pt_cmpR (op_eqA hr) (pe_ix ix_seq (pv 0) pe_int (fun _ _ => rfl)) (pv 1) (nomark _)) (pss_one (ps_expr (pe_bm PySem.F.plainAttrs_list PySem.F.slot_list_append PySem.F.type_list_append mt_append (pv 2) (pa_cons (pe_ix ix_seq (pv 0) pe_int (fun _ _ => rfl)) pa_nil)))) pss_nil) (pss_cons (ps_for PassesOwn.never rfl (RZ.pi_zipA (by rfl) T.m_zip (pa_cons (pe_slice sl_any (pv 0) (po_some pe_int) po_none) (pa_cons (pe_ix ix_kdict (pe_gtab h_PARTS) (pe_ix ix_seq (pv 0) pe_int (fun _ _ => rfl)) (fun _ _ => rfl)) pa_nil))) (pg_tup (n := 2) rfl (pgs_cons (pg_name (i := 3) (sc_behind).nd rfl (by first | exact Or.inl rfl | exact Or.inr rfl)) (pgs_cons (pg_name (i := 4) (sc_behind).nd rfl (by first | exact Or.inl rfl | exact Or.inr rfl)) pgs_nil))) (pss_one (ps_if (pt_cmpR (op_eqA hr) (pv 4) pe_str (nomark _)) (pss_one (ps_expr (pe_bm PySem.F.plainAttrs_list PySem.F.slot_list_extend PySem.F.type_list_extend mt_extend (pv 2) (pa_cons (pe_cal c__behind (hr.mono (by omega)) (pa_cons (pv 3) (pa_cons (pv 1) pa_nil))) pa_nil)))) pss_nil))) (pss_one (ps_ret (pv 2)))))), ?_⟩
  rw [t_behind]
  try dsimp only [cxOf, Cx.nox, Cx.wish]
  obtain ⟨x, ts, ks, rfl, e, hl, hz⟩ := rule_of hrule
  have ekd : kindsD x = ks := by unfold kindsD; rw [e]
  have bl : (beh wd (n + 1) (.tup (.str x :: ts))).length ≤ 3280 := Nat.le_trans (beh_len wd (n + 1) _) (Nat.le_trans (B_mono hn) (by decide))
  rw [beh_at, ekd] at q bl
  obtain ⟨p, xs, rfl, hs, ha⟩ := ht.tupE
  walk_at "rd"
  refine new_lst fun f H1 hf E1 h1 => ?_
  walk_at "rd"
  refine rd_cut (fun σ H' => σ = [some (.ref p), some (.str wd), some (.ref f), none, none] ∧ Ex H H' ∧ H' f = some (.lst ((if x = wd then headK ts else []).map kV))) ?_ ?_
  · walk_at "rd"
    refine rd_ixD (n := 0) (tv_ex ht E1) rfl rfl fun v hv => ?_
    cases hv
    walk_at "rd"
    refine rd_ite (fun h2 => ?_) (fun h2 => ?_)
    · subst h2
      obtain ⟨t1, r, k, rfl, ek, _⟩ := head_key hx e hl hz
      walk_at "rd"
      refine rd_ixD (n := 1) (tv_ex ht E1) rfl rfl fun v hv => ?_
      rw [keyT_tv hv ek]
      walk_at "rd"
      refine rd_append h1 (by decide) ?_
      walk_at "rd"
      refine ⟨rfl, ex_new hf E1, ?_⟩
      rw [upd_same, if_pos rfl]
      show _ = some (HO.lst ((keyT t1).map kV))
      rw [ek]
      rfl
    · walk_at "rd"
      refine ⟨rfl, E1, ?_⟩
      rw [if_neg h2]
      exact h1
  rintro σ H2 ⟨rfl, E2, h2⟩
  walk_at "rd"
  refine rd_slT (sqt_ex hs E2) fun r H3 E3 hr3 => ?_
  rw [cutV_tail] at hr3
  walk_at "rd"
  refine rd_ixD (n := 0) (tv_ex (tv_ex ht E2) E3) rfl rfl fun v hv => ?_
  cases hv
  walk_at "rd"
  refine rd_ixTab tP e fun r2 hr2 => ?_
  walk_at "rd"
  refine rd_fzT hr3 hr2 ?_
  have ha' : TvA K H (xs.drop 1) ts := ha.drop 1
  have lx : (xs.drop 1).length = ts.length := ha'.len
  have E03 : Ex H H3 := E2.trans E3
  refine forW_Z (xs.drop 1) (ks.map V.str) (n := ts.length) (by rw [List.length_map, lx]; omega) (fun i σ H' => (∃ y z, σ = [some (.ref p), some (.str wd), some (.ref f), y, z]) ∧ Ex H H' ∧ SqT K H' r (xs.drop 1) ∧ SqT K H' r2 (ks.map V.str) ∧ ∃ acc, H' f = some (.lst (acc.map kV)) ∧ acc ++ behs (beh wd n) (ts.drop i) (ks.drop i) = (if x = wd then headK ts else []) ++ behs (beh wd n) ts ks) ?_ ?_ ?_ ?_
  · exact ⟨⟨_, _, rfl⟩, E03, hr3, hr2, _, lst_ex h2 E3, rfl⟩
  · rintro i σ H' hi ⟨_, _, a, b, _⟩
    exact ⟨a, b⟩
  · rintro i y z c σ H4 H5 hi ⟨⟨y0, z0, rfl⟩, E4, sr, sr2, acc, hacc, eacc⟩ hy hzz hc e5 hcT
    have a5 : TvA K H5 (xs.drop 1) ts := tva_ex (tva_ex ha' E4) e5
    obtain ⟨ty, hty, vy⟩ := a5.getV hy
    rw [List.getElem?_map] at hzz
    cases ek : ks[i]? with
    | none => rw [ek] at hzz; cases hzz
    | some k =>
      rw [ek] at hzz
      cases (Option.some.inj hzz)
      refine rd_gtup (SqT.of hcT) rfl ?_
      walk_at "rd"
      have ed := behs_drop (beh wd n) ts ks i ty k hty ek
      rw [ed] at eacc
      refine rd_ite (fun h6 => ?_) (fun h6 => ?_)
      · subst h6
        rw [if_pos rfl] at eacc
        have hacc5 : H5 f = _ := lst_ex hacc e5
        walk_at "rd"
        have hrt : isRule sz n ty = true := zipOk_at hz hty ek
        refine rd_sp2 ⟨ty, sz, wd, vy, rfl, hx, hrt, by omega, fun p6 H6 hp6 E6 h6 => ?_⟩
        walk_at "rd"
        have la : acc.length + (beh wd n ty).length ≤ 3280 := by
          have := congrArg List.length eacc
          rw [List.length_append, List.length_append] at this
          omega
        refine rd_extend (lst_ex hacc5 E6) h6 (by rw [List.length_map, List.length_map]; omega) ?_
        walk_at "rd"
        refine ⟨⟨_, _, rfl⟩, ex_new hf ((E4.trans e5).trans E6), ?_, ?_, acc ++ beh wd n ty, by rw [upd_same, List.map_append], by rw [List.append_assoc]; exact eacc⟩
        · exact (Tame.upd (lst_ex hacc5 E6)).sqT (sqt_ex (sqt_ex sr e5) E6)
        · exact (Tame.upd (lst_ex hacc5 E6)).sqT (sqt_ex (sqt_ex sr2 e5) E6)
      · rw [if_neg h6, List.nil_append] at eacc
        walk_at "rd"
        exact ⟨⟨_, _, rfl⟩, E4.trans e5, sqt_ex sr e5, sqt_ex sr2 e5, acc, lst_ex hacc e5, eacc⟩
  · rintro σ H' ⟨⟨y, z, rfl⟩, E4, _, _, acc, hacc, eacc⟩
    walk_at "rd"
    rw [behs_end _ _ _ _ (Nat.le_refl _), List.append_nil] at eacc
    rw [← eacc] at q
    exact q f H' hf E4 hacc
theorem k_behn (T : Tx K w mg) : ∀ n : Nat, Cal P w K mg base "_behind" (1 + n) p_behind (spBeh K n)
  | 0 => cal_mk (k := 0) T.F__behind sc_behind b_behind (fun vs H Q E h => by obtain ⟨a, b, rfl, _⟩ := h; rfl) fun _ _ _ _ _ _ vs Q E _ h => by
      obtain ⟨a, b, rfl, t, sz, x, _, _, _, hr, _⟩ := h
      cases hr
  | n + 1 => k_beh T (k_behn T n)
def spNamed (K : PySem.W.Frag) : Sp := sp2 fun a b H Q => ∃ t sz x, Tv K H a t ∧ b = .str x ∧ x ∈ five ∧ isRule sz 8 t = true ∧ ∀ p H' ls, keysOf (beh x 8 t) ls → H p = none → Ex H H' → H' p = some (.lst (ls.map kV)) → Q (.ref p) H'
theorem k_named (T : Tx K w mg) (c__behind : Cal P w K mg base "_behind" 9 p_behind (spBeh K 8)) : Cal P w K mg base "named" 10 pnamed (spNamed K) := by
  refine cal2 T.F_named scnamed bnamed rfl fun g cdv A outer s H a b Q E hr h => ?_
  obtain ⟨t, sz, wd, ht, rfl, hx, hrule, q⟩ := h
  refine ⟨_, (pss_one (ps_ret (pe_callB (cr_sortedA rfl) (by rfl) T.m_sorted (by decide +kernel) (pa_cons (pe_callTy (Qs.cr_setL rfl) (by rfl) T.m_set (by decide +kernel) (pa_cons (pe_cal c__behind (hr.mono (by omega)) (pa_cons (pv 0) (pa_cons (pv 1) pa_nil))) pa_nil)) pa_nil)))), ?_⟩
  rw [tnamed]
  try dsimp only [cxOf, Cx.nox, Cx.wish]
  walk_at "rd"
  refine rd_sp2 ⟨t, sz, wd, ht, rfl, hx, hrule, by omega, fun p H1 hp E1 h1 => ?_⟩
  walk_at "rd"
  have bl : (beh wd 8 t).length ≤ 3280 := Nat.le_trans (beh_len wd 8 t) (by decide)
  refine rd_setK (.of h1) (by omega) fun p2 H2 hp2 E2 h2 => ?_
  walk_at "rd"
  have hk : ∀ k ∈ Qs.foldK (beh wd 8 t), kd wd k := fun k hk => beh_kd hx 8 t hrule k (Qs.mem_foldK.mp hk)
  refine rd_sortSetK h2 (hom_kd hk) fun ks' p3 H3 pm sr hp3 E3 h3 => ?_
  have E13 := (E1.trans E2).trans E3
  refine q p3 H3 ks' ⟨sr, pm.nodup_iff.mpr (foldl_nodup _ [] .nil), fun k => (pm.mem_iff).trans Qs.mem_foldK⟩ ?_ E13 h3
  cases e : H p3 with
  | none => rfl
  | some o =>
    have := (E1.trans E2) p3 o e
    rw [hp3] at this
    cases this
def spLN (K : PySem.W.Frag) (n : Nat) : Sp := sp2 fun a b H Q => ∃ t sz x, Tv K H a t ∧ b = .str x ∧ x ∈ five ∧ isRule sz n t = true ∧ n ≤ 8 ∧ ∀ p H' ls, keysOf (beh x n t) ls → ls.length ≤ (beh x n t).length → H p = none → Ex H H' → H' p = some (.lst (ls.map kV)) → Q (.ref p) H'
theorem k_lnamed {n m : Nat} (T : Tx K w mg) (c__law_named : Cal P w K mg base "_law_named" m p_law_named (spLN K n)) : Cal P w K mg base "_law_named" (m + 1) p_law_named (spLN K (n + 1)) := by
  refine cal2 T.F__law_named sc_law_named b_law_named rfl fun g cdv A outer s H a b Q E hr h => ?_
  obtain ⟨t, sz, wd, ht, rfl, hx, hrule, hn, q⟩ := h
  refine ⟨_, (pss_cons (ps_set (i := 2) (sc_law_named).nd rfl (by first | exact Or.inl rfl | exact Or.inr rfl) (pe_lst pa_nil)) (Evl.pss_cut (ps_if (pt_cmpR (op_eqA hr) (pe_ix ix_seq (pv 0) pe_int (fun _ _ => rfl)) (pv 1) (nomark _)) (pss_one (ps_expr (pe_bm PySem.F.plainAttrs_list PySem.F.slot_list_append PySem.F.type_list_append mt_append (pv 2) (pa_cons (pe_ix ix_seq (pv 0) pe_int (fun _ _ => rfl)) pa_nil)))) pss_nil) (pss_cons (ps_for PassesOwn.never rfl (pi_seq (pe_slice sl_any (pv 0) (po_some pe_int) po_none)) (pg_name (i := 3) (sc_law_named).nd rfl (by first | exact Or.inl rfl | exact Or.inr rfl)) (pss_one (ps_if (pt_tru (pe_callB call_isi (by rfl) T.m_isinstance (by decide +kernel) (pa_cons (pv 3) (pa_cons (pe_ty (n := "tuple") T.m_tuple (by decide +kernel)) pa_nil)))) (pss_one (ps_set (i := 2) (sc_law_named).nd rfl (by first | exact Or.inl rfl | exact Or.inr rfl) (pe_op op_addA (pv 2) (pe_lc (own := [("_law_more", 4)]) rfl (sc_law_named).nd (pi_seq (pe_cal c__law_named (hr.mono (by omega)) (pa_cons (pv 3) (pa_cons (pv 1) pa_nil)))) (blkOk_by (N := n_law_named) (sc := defScope s_law_named) (by decide +kernel)) (fun _ _ _ _ _ => (pg_name (i := 4) (sc_law_named).nd rfl (by first | exact Or.inl rfl | exact Or.inr rfl))) (fun _ _ _ _ _ => (pts_one (pt_cmpR (notInK (K := K) rfl) (pv 4) (pv 2) (by rfl)))) (fun _ _ _ _ _ => (pv 4)))))) pss_nil))) (pss_one (ps_ret (pe_callB (cr_sortedA rfl) (by rfl) T.m_sorted (by decide +kernel) (pa_cons (pv 2) pa_nil))))))), ?_⟩
  rw [t_law_named]
  try dsimp only [cxOf, Cx.nox, Cx.wish]
  have hkd := beh_kd hx (n + 1) t hrule
  obtain ⟨x, ts, ks, rfl, e, hl, hz⟩ := rule_of hrule
  have ekd : kindsD x = ks := by unfold kindsD; rw [e]
  have bl : (beh wd (n + 1) (.tup (.str x :: ts))).length ≤ 3280 := Nat.le_trans (beh_len wd (n + 1) _) (Nat.le_trans (B_mono hn) (by decide))
  rw [beh_at, ekd] at q bl hkd
  obtain ⟨p, xs, rfl, hs, ha⟩ := ht.tupE
  walk_at "rd"
  refine new_lst fun f H1 hf E1 h1 => ?_
  walk_at "rd"
  refine rd_cut (fun σ H' => ∃ acc : List Key, σ = [some (.ref p), some (.str wd), some (.ref f), none, none] ∧ Ex H H' ∧ H' f = some (.lst (acc.map kV)) ∧ acc = (if x = wd then headK ts else [])) ?_ ?_
  · walk_at "rd"
    refine rd_ixD (n := 0) (tv_ex ht E1) rfl rfl fun v hv => ?_
    cases hv
    walk_at "rd"
    refine rd_ite (fun h2 => ?_) (fun h2 => ?_)
    · subst h2
      obtain ⟨t1, r, k, rfl, ek, _⟩ := head_key hx e hl hz
      walk_at "rd"
      refine rd_ixD (n := 1) (tv_ex ht E1) rfl rfl fun v hv => ?_
      rw [keyT_tv hv ek]
      walk_at "rd"
      refine rd_append h1 (by decide) ?_
      walk_at "rd"
      refine ⟨_, rfl, ex_new hf E1, ?_, rfl⟩
      rw [upd_same, if_pos rfl]
      show _ = some (HO.lst ((keyT t1).map kV))
      rw [ek]
      rfl
    · walk_at "rd"
      refine ⟨[], rfl, E1, h1, ?_⟩
      rw [if_neg h2]
  rintro σ H2 ⟨acc0, rfl, E2, h2, eacc0⟩
  have nd0 : acc0.Nodup := by
    have l1 : acc0.length ≤ 1 := by
      rw [eacc0]
      split
      · exact headK_len ts
      · exact Nat.zero_le _
    match acc0, l1 with
    | [], _ => exact .nil
    | [a], _ => simp
  rw [← eacc0] at q bl hkd
  walk_at "rd"
  refine rd_slT (sqt_ex hs E2) fun r H3 E3 hr3 => ?_
  rw [cutV_tail] at hr3
  walk_at "rd"
  have ha' : TvA K H (xs.drop 1) ts := ha.drop 1
  have lx : (xs.drop 1).length = ts.length := ha'.len
  have E03 : Ex H H3 := E2.trans E3
  refine forW_T (xs.drop 1) (fun i σ H' => ∃ (f' : Addr) (y z : Option V) (acc : List Key), σ = [some (.ref p), some (.str wd), some (.ref f'), y, z] ∧ Ex H H' ∧ SqT K H' r (xs.drop 1) ∧ H' f' = some (.lst (acc.map kV)) ∧ acc.Nodup ∧ acc.length + (behs (beh wd n) (ts.drop i) (ks.drop i)).length ≤ (acc0 ++ behs (beh wd n) ts ks).length ∧
    ∀ k, (k ∈ acc ∨ k ∈ behs (beh wd n) (ts.drop i) (ks.drop i)) ↔ k ∈ acc0 ++ behs (beh wd n) ts ks) ?_ ?_ ?_ ?_
  · exact ⟨f, _, _, acc0, rfl, E03, hr3, lst_ex h2 E3, nd0, by rw [List.length_append]; exact Nat.le_refl _, fun k => List.mem_append.symm⟩
  · rintro i σ H' hi ⟨f', y, z, acc, _, _, a, _⟩
    exact a
  · rintro i v σ H4 hv ⟨f', y, z, acc, rfl, E4, sr, hacc, nd, lacc, mem⟩
    obtain ⟨ty, hty, vy⟩ := (tva_ex ha' E4).getV hv
    walk_at "rd"
    obtain ⟨k, ek⟩ : ∃ k, ks[i]? = some k := by
      have : i < ts.length := (List.getElem?_eq_some_iff.mp hty).1
      exact ⟨ks[i]'(by omega), List.getElem?_eq_getElem (by omega)⟩
    have hpk := zipOk_at hz hty ek
    have ed := behs_drop (beh wd n) ts ks i ty k hty ek
    rw [part_tup (kinds_of e k (List.mem_of_getElem? ek)) hpk]
    refine rd_ite (fun h6 => ?_) (fun h6 => ?_)
    · subst h6
      rw [if_pos rfl] at ed
      rw [ed] at mem lacc
      rw [List.length_append] at lacc
      walk_at "rd"
      have hrt : isRule sz n ty = true := hpk
      refine rd_sp2 ⟨ty, sz, wd, vy, rfl, hx, hrt, by omega, fun p5 H5 ls hls lls hp5 E5 h5 => ?_⟩
      walk_at "rd"
      have hacc5 : H5 f' = _ := lst_ex hacc E5
      refine lcW_L (ls.map kV) (fun D j H' => ∃ new : List Key, H' D = some (.lst (new.map kV)) ∧ new.length ≤ j ∧ new.Nodup ∧ (∀ k, k ∈ new ↔ k ∈ ls.take j ∧ k ∉ acc) ∧ Ex H5 H') ?_ ?_ ?_ ?_
      · exact fun D H' hD e h => ⟨[], h, Nat.le_refl _, .nil, by simp, e⟩
      · rintro D j H' hD hj ⟨new, hnew, _, _, _, e⟩
        exact sql_ex (.of h5) e
      · rintro D j u H6 hD hu ⟨new, hnew, lnew, ndn, memn, E6⟩
        rw [List.getElem?_map] at hu
        cases eu : ls[j]? with
        | none => rw [eu] at hu; cases hu
        | some k =>
          rw [eu] at hu
          cases (Option.some.inj hu)
          have hj : j < ls.length := (List.getElem?_eq_some_iff.mp eu).1
          have et : ls.take (j + 1) = ls.take j ++ [k] := by rw [List.take_add_one, eu]; rfl
          have nin : k ∉ ls.take j := by
            intro z
            have nd2 : (ls.take (j + 1)).Nodup := hls.2.1.sublist (List.take_sublist _ _)
            rw [et] at nd2
            exact (List.nodup_append.mp nd2).2.2 k z k (by simp) rfl
          walk_at "lcn"
          walk_at "rd"
          refine rd_outK (.of (lst_ex hacc5 E6)) ?_
          walk_at "rd"
          cases em : memK k acc with
          | true =>
            walk_at "rd"
            refine ⟨new, hnew, by omega, ndn, fun k' => ?_, E6⟩
            rw [memn, et, List.mem_append]
            refine ⟨fun z => ⟨.inl z.1, z.2⟩, fun z => ?_⟩
            rcases z with ⟨z | z, z2⟩
            · exact ⟨z, z2⟩
            · cases List.mem_singleton.mp z
              exact absurd (memK_iff.mp em) z2
          | false =>
            have nacc : k ∉ acc := fun z => by rw [memK_iff.mpr z] at em; cases em
            walk_at "rd"
            refine ⟨_, hnew, by rw [List.length_map, sizeLine_eq]; omega, ?_⟩
            refine ⟨new ++ [k], by rw [upd_same, List.map_append]; rfl, by rw [List.length_append]; simp; omega, ?_, fun k' => ?_, ex_new hD E6⟩
            · rw [List.nodup_append]
              refine ⟨ndn, by simp, fun a ha b hb => ?_⟩
              cases List.mem_singleton.mp hb
              rintro rfl
              exact nin ((memn a).mp ha).1
            · rw [List.mem_append, memn, et, List.mem_append, List.mem_singleton]
              refine ⟨fun z => ?_, fun z => ?_⟩
              · rcases z with z | rfl
                · exact ⟨.inl z.1, z.2⟩
                · exact ⟨.inr rfl, nacc⟩
              · rcases z with ⟨z | z, z2⟩
                · exact .inl ⟨z, z2⟩
                · exact .inr z
      · rintro D H6 hD ⟨new, hnew, lnew, ndn, memn, E6⟩
        walk_at "rd"
        rw [List.length_map] at lnew
        rw [List.length_map, List.take_length] at memn
        refine rd_addLb (lst_ex hacc5 E6) hnew (by rw [List.length_map, List.length_map]; omega) fun p7 H7 hp7 E7 h7 => ?_
        walk_at "rd"
        have E47 := (E5.trans E6).trans E7
        refine ⟨p7, _, _, acc ++ new, rfl, E4.trans E47, sqt_ex sr E47, by rw [h7, List.map_append], ?_, by rw [List.length_append]; omega, fun k => ?_⟩
        · rw [List.nodup_append]
          refine ⟨nd, ndn, fun a ha b hb => ?_⟩
          rintro rfl
          exact ((memn a).mp hb).2 ha
        · rw [← mem k, List.mem_append, List.mem_append, memn, hls.2.2 k]
          by_cases z : k ∈ acc <;> simp [z]
    · rw [if_neg h6, List.nil_append] at ed
      walk_at "rd"
      rw [ed] at mem lacc
      exact ⟨f', _, _, acc, rfl, E4, sr, hacc, nd, lacc, mem⟩
  · rintro σ H4 ⟨f', y, z, acc, rfl, E4, _, hacc, nd, lacc, mem⟩
    walk_at "rd"
    rw [lx, behs_end _ _ _ _ (Nat.le_refl _)] at mem lacc
    have mem' : ∀ k, k ∈ acc ↔ k ∈ acc0 ++ behs (beh wd n) ts ks := fun k => by rw [← mem k]; simp
    have hk : ∀ k ∈ acc, kd wd k := fun k hk => hkd k ((mem' k).mp hk)
    refine rd_sortK (.of hacc) (hom_kd hk) fun ks' p5 H5 pm sr hp5 E5 h5 => ?_
    refine q p5 H5 ks' ⟨sr, pm.nodup_iff.mpr nd, fun k => (pm.mem_iff).trans (mem' k)⟩ (by rw [pm.length_eq]; exact lacc) ?_ (E4.trans E5) h5
    cases e : H p5 with
    | none => rfl
    | some o =>
      have := E4 p5 o e
      rw [hp5] at this
      cases this
theorem k_lnamedn (T : Tx K w mg) : ∀ n : Nat, Cal P w K mg base "_law_named" (1 + n) p_law_named (spLN K n)
  | 0 => cal_mk (k := 0) T.F__law_named sc_law_named b_law_named (fun vs H Q E h => by obtain ⟨a, b, rfl, _⟩ := h; rfl) fun _ _ _ _ _ _ vs Q E _ h => by
      obtain ⟨a, b, rfl, t, sz, x, _, _, _, hr, _⟩ := h
      cases hr
  | n + 1 => k_lnamed T (k_lnamedn T n)
end
end KF
open PySem PySem.Spec PyProof.Rows L2 Qa Qr
open Qg


namespace KF
section
variable {P : Program} {w : World} {K : PySem.W.Frag} {mg : Str → Option Value} {base : Heap} {H : Hp} {Q : VK} {E : XK}
theorem nmOf_get (ts : List T) (i : Nat) : (nmOf ts)[i]? = (ts[i]?).map fun t => rowK ts.length (beh "line" 8 t) := by rw [nmOf, List.getElem?_map]
theorem five_line : ("line" : Str) ∈ five := by decide
theorem line_keys {sz : Sz} {t : T} (h : isRule sz 8 t = true) {ls : List Key} (hl : keysOf (beh "line" 8 t) ls) : ∃ ns : List Int, ls = ns.map Sum.inl := by
  have hk : ∀ k ∈ ls, kd "line" k := fun k hk => beh_kd five_line 8 t h k ((hl.2.2 k).mp hk)
  clear hl
  induction ls with
  | nil => exact ⟨[], rfl⟩
  | cons k ls ih =>
    obtain ⟨ns, rfl⟩ := ih fun k hk' => hk k (List.mem_cons_of_mem _ hk')
    cases k with
    | inl i => exact ⟨i :: ns, rfl⟩
    | inr x => exact absurd (hk _ List.mem_cons_self).1 (by decide)
def spLinesNamed (K : PySem.W.Frag) : Sp := sp1 fun a H Q => ∃ l vs ts sz, a = .ref l ∧ SqL K H l vs ∧ TvA K H vs ts ∧ (∀ t ∈ ts, isRule sz 8 t = true) ∧ ts.length ≤ 40 ∧ ∀ p H', NmAt H' p (nmOf ts) → H p = none → Ex H H' → Q (.ref p) H'
theorem k__lines_named (T : Tx K w mg) (c_named : Cal P w K mg base "named" 10 pnamed (spNamed K)) (c_is_place : Cal P w K mg base "is_place" 3 pis_place (spPlace K)) : Cal P w K mg base "_lines_named" 11 p_lines_named (spLinesNamed K) := by
  refine cal1 T.F__lines_named sc_lines_named b_lines_named rfl fun g cdv A outer s H a Q E hr h => ?_
  obtain ⟨l, vs, ts, sz, rfl, hl, hts, hru, hn, q⟩ := h
  refine ⟨_, (pss_one (ps_ret (pe_lc (own := [("rule", 2)]) rfl (sc_lines_named).nd (pi_seq (pv 0)) (blkOk_by (N := n_lines_named) (sc := defScope s_lines_named) (by decide +kernel)) (fun _ _ _ _ _ => (pg_name (i := 2) (sc_lines_named).nd rfl (by first | exact Or.inl rfl | exact Or.inr rfl))) (fun _ _ _ _ _ => pts_nil) (fun _ _ _ _ _ => (pe_lc (own := [("line", 1)]) rfl (sc_lines_named).nd (pi_seqK (K := K) rfl (pe_cal c_named (hr.mono (by omega)) (pa_cons (pv 2) (pa_cons pe_str pa_nil)))) (blkOk_in (N := n_lines_named) (by decide +kernel)) (fun _ _ _ _ _ => (pg_name (i := 1) (sc_lines_named).nd rfl (by first | exact Or.inl rfl | exact Or.inr rfl))) (fun _ _ _ _ _ => (pts_one (pt_truK (K := K) rfl (pe_cal c_is_place (hr.mono (by omega)) (pa_cons (pv 1) (pa_cons (pe_callB (lenK (K := K) rfl) (by rfl) T.m_len (by decide +kernel) (pa_cons (pv 0) pa_nil)) pa_nil)))))) (fun _ _ _ _ _ => (pv 1))))))), ?_⟩
  rw [t_lines_named]
  try dsimp only [cxOf, Cx.nox, Cx.wish]
  have lv : vs.length = ts.length := hts.len
  walk_at "rda"
  refine lcW_L vs (fun D i H' => ∃ as : List Addr, H' D = some (.lst (as.map V.ref)) ∧ as.length = i ∧ Ex H H' ∧ ∀ (j : Nat) (r : List Nat), j < i → (nmOf ts)[j]? = some r → ∃ a, as[j]? = some a ∧ a ≠ D ∧ H' a = some (.lst (r.map iv))) ?_ ?_ ?_ ?_
  · exact fun D H' hD e h => ⟨[], h, rfl, e, fun j r hj => absurd hj (Nat.not_lt_zero _)⟩
  · rintro D i H' hD hi ⟨as, _, _, e, _⟩
    exact sql_ex hl e
  · rintro D i v H' hD hv ⟨as, hD', la, e, hrows⟩
    obtain ⟨t, ht, vt⟩ := hts.getV hv
    have hi : i < ts.length := (List.getElem?_eq_some_iff.mp ht).1
    have hrule := hru t (List.mem_of_getElem? ht)
    walk_at "lcn"
    walk_at "rd"
    refine rd_sp2 ⟨t, sz, "line", tv_ex vt e, rfl, five_line, hrule, fun p H1 ls hls hp E1 h1 => ?_⟩
    walk_at "rd"
    obtain ⟨ns, en⟩ := line_keys hrule hls
    have hD1 : H1 D = some (.lst (as.map V.ref)) := E1 _ _ hD'
    refine lcW_L (ls.map kV) (fun D2 j H' => H' D2 = some (.lst (((ls.take j).filter (placeK ts.length)).map kV)) ∧ Ex H1 H') ?_ ?_ ?_ ?_
    · exact fun D2 H' hD2 e h => ⟨h, e⟩
    · rintro D2 j H' hD2 hj ⟨_, e⟩
      exact sql_ex (.of h1) e
    · rintro D2 j u H2 hD2 hu ⟨hacc, E2⟩
      rw [List.getElem?_map] at hu
      cases eu : ls[j]? with
      | none => rw [eu] at hu; cases hu
      | some k =>
        rw [eu] at hu
        cases (Option.some.inj hu)
        have hj : j < ls.length := (List.getElem?_eq_some_iff.mp eu).1
        have et : ls.take (j + 1) = ls.take j ++ [k] := by rw [List.take_add_one, eu]; rfl
        obtain ⟨x, ex⟩ : ∃ x : Int, k = .inl x := by
          have hm := List.mem_of_getElem? eu
          rw [en] at hm
          obtain ⟨x, _, e⟩ := List.mem_map.mp hm
          exact ⟨x, e.symm⟩
        subst ex
        walk_at "lcn"
        walk_at "rd"
        refine rd_lenL (sql_ex (sql_ex (sql_ex hl e) E1) E2) ?_
        walk_at "rd"
        refine rd_sp2 ⟨.int x, _, .int x, rfl, ?_⟩
        walk_at "rd"
        have ep : isPlace (.int x) ((vs.length : Nat) : Int) = placeK ts.length (.inl x) := by
          show (decide (0 ≤ x) && decide (x ≤ ((vs.length : Nat) : Int) - 1)) = (decide (0 ≤ x) && decide (x < (ts.length : Int)))
          rw [lv]
          congr 1
          rw [decide_eq_decide]
          omega
        rw [ep]
        cases em : placeK ts.length (.inl x) with
        | false =>
          walk_at "rd"
          refine ⟨?_, E2⟩
          rw [et, List.filter_append, List.filter_cons_of_neg (by rw [em]; exact Bool.false_ne_true), List.filter_nil, List.append_nil]
          exact hacc
        | true =>
          walk_at "rd"
          refine ⟨_, hacc, ?_, ?_, ex_new hD2 E2⟩
          · rw [List.length_map, sizeLine_eq]
            have := List.length_filter_le (placeK ts.length) (ls.take j)
            rw [List.length_take] at this
            have hb : ls.length ≤ 4000 := Nat.le_trans (keysOf_len hls) (Nat.le_trans (beh_len "line" 8 t) (by decide))
            omega
          · rw [upd_same, et, List.filter_append, List.filter_cons_of_pos em, List.filter_nil, List.map_append]
            rfl
    · rintro D2 H2 hD2 ⟨hacc, E2⟩
      rw [List.length_map, List.take_length, places_row hls, iv_key] at hacc
      walk_at "rd"
      have hD2' : H2 D = some (.lst (as.map V.ref)) := E2 _ _ hD1
      have nD : D2 ≠ D := by rintro rfl; rw [hD1] at hD2; cases hD2
      refine ⟨_, hD2', by rw [List.length_map, sizeLine_eq]; omega, as ++ [D2], by rw [upd_same, List.map_append]; rfl, by rw [List.length_append, la]; rfl, ex_new hD ((e.trans E1).trans E2), fun j r hj hr => ?_⟩
      by_cases ej : j = i
      · subst ej
        refine ⟨D2, by rw [List.getElem?_append_right (by omega), la, Nat.sub_self]; rfl, nD, ?_⟩
        rw [upd_ne nD, hacc]
        rw [nmOf_get, ht] at hr
        cases hr
        rfl
      · obtain ⟨a, ha, hne, hh⟩ := hrows j r (by omega) hr
        refine ⟨a, by rw [List.getElem?_append_left (by omega)]; exact ha, hne, ?_⟩
        rw [upd_ne hne]
        exact E2 _ _ (E1 _ _ hh)
  · rintro D H' hD ⟨as, hD', la, e, hrows⟩
    walk_at "rd"
    refine q D H' ⟨as, hD', by rw [la, lv, nmOf_len], fun i r hr => ?_⟩ hD e
    have hi : i < (nmOf ts).length := (List.getElem?_eq_some_iff.mp hr).1
    rw [nmOf_len] at hi
    obtain ⟨a, ha, _, hh⟩ := hrows i r (by omega) hr
    exact ⟨a, ha, hh⟩
def spLinesNamedT (K : PySem.W.Frag) : Sp := sp1 fun a H Q => ∃ l vs ts sz, a = .ref l ∧ SqT K H l vs ∧ TvA K H vs ts ∧ (∀ t ∈ ts, isRule sz 8 t = true) ∧ ts.length ≤ 40 ∧ ∀ p H', NmAt H' p (nmOf ts) → H p = none → Ex H H' → Q (.ref p) H'
theorem k__lines_namedT (T : Tx K w mg) (c_named : Cal P w K mg base "named" 10 pnamed (spNamed K)) (c_is_place : Cal P w K mg base "is_place" 3 pis_place (spPlace K)) : Cal P w K mg base "_lines_named" 11 p_lines_named (spLinesNamedT K) := by
  refine cal1 T.F__lines_named sc_lines_named b_lines_named rfl fun g cdv A outer s H a Q E hr h => ?_
  obtain ⟨l, vs, ts, sz, rfl, hl, hts, hru, hn, q⟩ := h
  refine ⟨_, (pss_one (ps_ret (pe_lc (own := [("rule", 2)]) rfl (sc_lines_named).nd (pi_seq (pv 0)) (blkOk_by (N := n_lines_named) (sc := defScope s_lines_named) (by decide +kernel)) (fun _ _ _ _ _ => (pg_name (i := 2) (sc_lines_named).nd rfl (by first | exact Or.inl rfl | exact Or.inr rfl))) (fun _ _ _ _ _ => pts_nil) (fun _ _ _ _ _ => (pe_lc (own := [("line", 1)]) rfl (sc_lines_named).nd (pi_seqK (K := K) rfl (pe_cal c_named (hr.mono (by omega)) (pa_cons (pv 2) (pa_cons pe_str pa_nil)))) (blkOk_in (N := n_lines_named) (by decide +kernel)) (fun _ _ _ _ _ => (pg_name (i := 1) (sc_lines_named).nd rfl (by first | exact Or.inl rfl | exact Or.inr rfl))) (fun _ _ _ _ _ => (pts_one (pt_truK (K := K) rfl (pe_cal c_is_place (hr.mono (by omega)) (pa_cons (pv 1) (pa_cons (pe_callB (lenK (K := K) rfl) (by rfl) T.m_len (by decide +kernel) (pa_cons (pv 0) pa_nil)) pa_nil)))))) (fun _ _ _ _ _ => (pv 1))))))), ?_⟩
  rw [t_lines_named]
  try dsimp only [cxOf, Cx.nox, Cx.wish]
  have lv : vs.length = ts.length := hts.len
  walk_at "rda"
  refine lcW_T vs (fun D i H' => ∃ as : List Addr, H' D = some (.lst (as.map V.ref)) ∧ as.length = i ∧ Ex H H' ∧ ∀ (j : Nat) (r : List Nat), j < i → (nmOf ts)[j]? = some r → ∃ a, as[j]? = some a ∧ a ≠ D ∧ H' a = some (.lst (r.map iv))) ?_ ?_ ?_ ?_
  · exact fun D H' hD e h => ⟨[], h, rfl, e, fun j r hj => absurd hj (Nat.not_lt_zero _)⟩
  · rintro D i H' hD hi ⟨as, _, _, e, _⟩
    exact sqt_ex hl e
  · rintro D i v H' hD hv ⟨as, hD', la, e, hrows⟩
    obtain ⟨t, ht, vt⟩ := hts.getV hv
    have hi : i < ts.length := (List.getElem?_eq_some_iff.mp ht).1
    have hrule := hru t (List.mem_of_getElem? ht)
    walk_at "lcn"
    walk_at "rd"
    refine rd_sp2 ⟨t, sz, "line", tv_ex vt e, rfl, five_line, hrule, fun p H1 ls hls hp E1 h1 => ?_⟩
    walk_at "rd"
    obtain ⟨ns, en⟩ := line_keys hrule hls
    have hD1 : H1 D = some (.lst (as.map V.ref)) := E1 _ _ hD'
    refine lcW_L (ls.map kV) (fun D2 j H' => H' D2 = some (.lst (((ls.take j).filter (placeK ts.length)).map kV)) ∧ Ex H1 H') ?_ ?_ ?_ ?_
    · exact fun D2 H' hD2 e h => ⟨h, e⟩
    · rintro D2 j H' hD2 hj ⟨_, e⟩
      exact sql_ex (.of h1) e
    · rintro D2 j u H2 hD2 hu ⟨hacc, E2⟩
      rw [List.getElem?_map] at hu
      cases eu : ls[j]? with
      | none => rw [eu] at hu; cases hu
      | some k =>
        rw [eu] at hu
        cases (Option.some.inj hu)
        have hj : j < ls.length := (List.getElem?_eq_some_iff.mp eu).1
        have et : ls.take (j + 1) = ls.take j ++ [k] := by rw [List.take_add_one, eu]; rfl
        obtain ⟨x, ex⟩ : ∃ x : Int, k = .inl x := by
          have hm := List.mem_of_getElem? eu
          rw [en] at hm
          obtain ⟨x, _, e⟩ := List.mem_map.mp hm
          exact ⟨x, e.symm⟩
        subst ex
        walk_at "lcn"
        walk_at "rd"
        refine rd_lenT (sqt_ex (sqt_ex (sqt_ex hl e) E1) E2) ?_
        walk_at "rd"
        refine rd_sp2 ⟨.int x, _, .int x, rfl, ?_⟩
        walk_at "rd"
        have ep : isPlace (.int x) ((vs.length : Nat) : Int) = placeK ts.length (.inl x) := by
          show (decide (0 ≤ x) && decide (x ≤ ((vs.length : Nat) : Int) - 1)) = (decide (0 ≤ x) && decide (x < (ts.length : Int)))
          rw [lv]
          congr 1
          rw [decide_eq_decide]
          omega
        rw [ep]
        cases em : placeK ts.length (.inl x) with
        | false =>
          walk_at "rd"
          refine ⟨?_, E2⟩
          rw [et, List.filter_append, List.filter_cons_of_neg (by rw [em]; exact Bool.false_ne_true), List.filter_nil, List.append_nil]
          exact hacc
        | true =>
          walk_at "rd"
          refine ⟨_, hacc, ?_, ?_, ex_new hD2 E2⟩
          · rw [List.length_map, sizeLine_eq]
            have := List.length_filter_le (placeK ts.length) (ls.take j)
            rw [List.length_take] at this
            have hb : ls.length ≤ 4000 := Nat.le_trans (keysOf_len hls) (Nat.le_trans (beh_len "line" 8 t) (by decide))
            omega
          · rw [upd_same, et, List.filter_append, List.filter_cons_of_pos em, List.filter_nil, List.map_append]
            rfl
    · rintro D2 H2 hD2 ⟨hacc, E2⟩
      rw [List.length_map, List.take_length, places_row hls, iv_key] at hacc
      walk_at "rd"
      have hD2' : H2 D = some (.lst (as.map V.ref)) := E2 _ _ hD1
      have nD : D2 ≠ D := by rintro rfl; rw [hD1] at hD2; cases hD2
      refine ⟨_, hD2', by rw [List.length_map, sizeLine_eq]; omega, as ++ [D2], by rw [upd_same, List.map_append]; rfl, by rw [List.length_append, la]; rfl, ex_new hD ((e.trans E1).trans E2), fun j r hj hr => ?_⟩
      by_cases ej : j = i
      · subst ej
        refine ⟨D2, by rw [List.getElem?_append_right (by omega), la, Nat.sub_self]; rfl, nD, ?_⟩
        rw [upd_ne nD, hacc]
        rw [nmOf_get, ht] at hr
        cases hr
        rfl
      · obtain ⟨a, ha, hne, hh⟩ := hrows j r (by omega) hr
        refine ⟨a, by rw [List.getElem?_append_left (by omega)]; exact ha, hne, ?_⟩
        rw [upd_ne hne]
        exact E2 _ _ (E1 _ _ hh)
  · rintro D H' hD ⟨as, hD', la, e, hrows⟩
    walk_at "rd"
    refine q D H' ⟨as, hD', by rw [la, lv, nmOf_len], fun i r hr => ?_⟩ hD e
    have hi : i < (nmOf ts).length := (List.getElem?_eq_some_iff.mp hr).1
    rw [nmOf_len] at hi
    obtain ⟨a, ha, _, hh⟩ := hrows i r (by omega) hr
    exact ⟨a, ha, hh⟩
def spRingFrom (K : PySem.W.Frag) : Sp := sp2 fun a b H Q => ∃ nl nm f, a = .ref nl ∧ b = iv f ∧ NmAt H nl nm ∧ Rows nm ∧ f < nm.length ∧ nm.length ≤ 40 ∧ ∀ p r H', IsBst nm f r → H p = none → Ex H H' → H' p = some (.lst (r.map iv)) → Q (.ref p) H'
structure RF (H : Hp) (nm : List (List Nat)) (pl dl : Addr) (R : List Nat) (Qs : List (List Nat)) (H' : Hp) : Prop where
  ex : Ex H H'
  pl : ∃ as, H' pl = some (.lst (as.map V.ref)) ∧ Pths H H' pl as Qs
  dl : ∃ kvs, H' dl = some (.dK kvs) ∧ KsAt kvs R
  lt : ∀ x, x ∈ R → x < nm.length
theorem k__ring_from (T : Tx K w mg) : Cal P w K mg base "_ring_from" 1 p_ring_from (spRingFrom K) := by
  refine cal2 T.F__ring_from sc_ring_from b_ring_from rfl fun g cdv A outer s H a b Q E hr h => ?_
  obtain ⟨nl, nm, f, rfl, rfl, hnm, hrows, hf, hn, q⟩ := h
  refine ⟨_, (pss_cons (ps_set (i := 2) (sc_ring_from).nd rfl (by first | exact Or.inl rfl | exact Or.inr rfl) (pe_lst (pa_cons (pe_lst (pa_cons (pv 1) pa_nil)) pa_nil))) (pss_cons (ps_set (i := 3) (sc_ring_from).nd rfl (by first | exact Or.inl rfl | exact Or.inr rfl) (pe_disp (pps_cons (pv 1) pe_bl pps_nil) (by rfl) (by rfl) (fun z => by cases z) (by decide))) (pss_cons (ps_while PassesOwn.never (pt_tru (pv 2)) (pss_cons (ps_set (i := 4) (sc_ring_from).nd rfl (by first | exact Or.inl rfl | exact Or.inr rfl) (pe_bm PySem.F.plainAttrs_list PySem.F.slot_list_pop PySem.F.type_list_pop mt_popAt (pv 2) (pa_cons pe_int pa_nil))) (pss_one (ps_for PassesOwn.never rfl (pi_seq (pe_ix ix_seq (pv 0) (pe_ix ix_seq (pv 4) (pe_un un_neg pe_int) (fun _ _ => rfl)) (fun _ _ => rfl))) (pg_name (i := 5) (sc_ring_from).nd rfl (by first | exact Or.inl rfl | exact Or.inr rfl)) (pss_cons (ps_if (pt_cmpR (op_eqA hr) (pv 5) (pv 1) (nomark _)) (pss_one (ps_ret (pv 4))) pss_nil) (pss_one (ps_if (pt_cmp (pc_dnotin (hu_of hr) (pv 5) (pv 3))) (pss_cons (ps_dput (hu_of hr) (pv 3) (pv 5) pe_bl rfl) (pss_one (ps_expr (pe_bm PySem.F.plainAttrs_list PySem.F.slot_list_append PySem.F.type_list_append mt_append (pv 2) (pa_cons (pe_op op_addA (pv 4) (pe_lst (pa_cons (pv 5) pa_nil))) pa_nil))))) pss_nil))))))) (pss_one (ps_ret (pe_lst pa_nil)))))), ?_⟩
  rw [t_ring_from]
  try dsimp only [cxOf, Cx.nox, Cx.wish]
  walk_at "rd"
  refine new_lst fun p0 H1 hp0 E1 h1 => ?_
  walk_at "rd"
  refine new_lst fun pl H2 hpl E2 h2 => ?_
  walk_at "rd"
  refine rd_disp fun dl hdl => ?_
  refine rd_pcons ?_
  walk_at "rd"
  refine rd_pnil ⟨upd_same, [(ik f, .bl true)], rfl, by show 1 ≤ 15; decide, ?_⟩
  have em : mergeK [] [(ik f, V.bl true)] = [(ik f, .bl true)] := rfl
  rw [em]
  generalize eH : upd (upd H2 dl (.dK [])) dl (.dK [(ik f, .bl true)]) = H3
  have h3 : H3 dl = some (.dK [(ik f, .bl true)]) := by rw [← eH]; exact upd_same
  have E3 : Ex H2 H3 := by
    intro b o hb
    have ne : b ≠ dl := by rintro rfl; rw [hdl] at hb; cases hb
    rw [← eH, upd_ne ne, upd_ne ne]
    exact hb
  clear eH
  have E13 : Ex H H3 := (E1.trans E2).trans E3
  have hplH : H pl = none := free_of E1 hpl
  have hdlH : H dl = none := free_of (E1.trans E2) hdl
  have npl : p0 ≠ pl := by rintro rfl; rw [h1] at hpl; cases hpl
  walk_at "rd"
  refine rd_while (m0 := 2 * (nm.length - 1) + 1) (fun m σ H' => ∃ D Qs R x y, BI nm f D Qs R ∧ RF H nm pl dl R Qs H' ∧ σ = [some (.ref nl), some (iv f), some (.ref pl), some (.ref dl), x, y] ∧ m = 2 * (nm.length - R.length) + Qs.length) ?_ ?_
  · refine ⟨[], [[f]], [f], _, _, BI.start, ⟨E13, ⟨[p0], E3 _ _ h2, .cons hp0 npl (E3 _ _ (E2 _ _ h1)) .nil⟩, ⟨_, h3, rfl, fun y => ?_⟩, fun x hx => ?_⟩, rfl, rfl⟩
    · by_cases e : y = f
      · subst e
        rw [valV_pos rfl]
        simp
      · rw [valV_neg (fun z => e (by have := Sum.inl.inj z; omega))]
        simp [e]
        rfl
    · have e : x = f := by simpa using hx
      subst e
      exact hf
  rintro m σ H4 ⟨D, Qs, R, x0, y0, I, F, rfl, rfl⟩
  obtain ⟨as, hpl4, hpt⟩ := F.pl
  walk_at "rd"
  refine rd_truL (.of hpl4) ?_
  cases hpt with
  | nil =>
    walk_at "rd"
    refine new_lst fun p H5 hp E5 h5 => ?_
    exact q p [] H5 (.inl ⟨rfl, I.none⟩) (free_of F.ex hp) (F.ex.trans E5) h5
  | @cons pa p as Qs ha hne hpa hpt =>
    walk_at "rd"
    refine rd_wN ?_
    walk_at "rd"
    refine rd_pop0 hpl4 ?_
    generalize eH : upd H4 pl (.lst (as.map V.ref)) = H5
    have h5 : H5 pl = some (.lst (as.map V.ref)) := by rw [← eH]; exact upd_same
    have k5 : ∀ b, b ≠ pl → H5 b = H4 b := fun b hb => by rw [← eH, upd_ne hb]
    have E5 : Ex H H5 := by rw [← eH]; exact ex_new hplH F.ex
    clear eH
    obtain ⟨x, hxR, hw⟩ := I.wk p (by simp)
    obtain ⟨v, ev⟩ := walk_split hw
    have hx : x < nm.length := F.lt x hxR
    have hpa5 : H5 pa = some (.lst (p.map iv)) := by rw [k5 pa hne]; exact hpa
    walk_at "rd"
    refine rd_ixL (.of hpa5) (by rw [ev, List.map_append]; exact atI_last _ _) ?_
    obtain ⟨rs, hnl, lrs, hrs⟩ := hnm
    obtain ⟨ra, hra, hrow⟩ := hrs x _ (List.getElem?_eq_getElem hx)
    have erow : nm[x] = row nm x := by unfold row; rw [List.getElem?_eq_getElem hx]; rfl
    rw [erow] at hrow
    refine rd_ixL (.of (E5 _ _ hnl)) (atI_nat (j := x) (v := .ref ra) (by rw [List.getElem?_map, hra]; rfl)) ?_
    walk_at "rd"
    have hup := hrows.at x
    refine forW_L ((row nm x).map iv) (fun i σ H' => ∃ A R' as' y, BS nm f D p Qs A R' ((row nm x).take i) ∧ Ex H H' ∧ H' pl = some (.lst (as'.map V.ref)) ∧ Pths H H' pl as' (Qs ++ A) ∧ (∃ kvs, H' dl = some (.dK kvs) ∧ KsAt kvs R') ∧ (∀ x, x ∈ R' → x < nm.length) ∧
      H' pa = some (.lst (p.map iv)) ∧ σ = [some (.ref nl), some (iv f), some (.ref pl), some (.ref dl), some (.ref pa), y] ∧ 2 * (nm.length - R'.length) + (Qs ++ A).length + 1 ≤ 2 * (nm.length - R.length) + (p :: Qs).length) ?_ ?_ ?_ ?_
    · obtain ⟨kvs, hdl4, hks⟩ := F.dl
      have ndl : dl ≠ pl := by rintro rfl; rw [hpl4] at hdl4; cases hdl4
      refine ⟨[], R, as, _, I.open, E5, h5, ?_, ⟨kvs, by rw [k5 dl ndl]; exact hdl4, hks⟩, F.lt, hpa5, rfl, by rw [List.append_nil, List.length_cons]; omega⟩
      rw [List.append_nil]
      exact hpt.mv fun a xs ha h => by rw [k5 a ha]; exact h
    · rintro i σ H' hi ⟨A, R', as', y, _, e, _⟩
      exact .of (e _ _ hrow)
    · rintro i u σ H6 hu ⟨A, R', as', y0, I6, E6, hpl6, hpt6, ⟨kvs, hdl6, hks6⟩, hlt6, hpa6, rfl, hm6⟩
      rw [List.getElem?_map] at hu
      cases eu : (row nm x)[i]? with
      | none => rw [eu] at hu; cases hu
      | some y =>
      rw [eu] at hu
      cases (Option.some.inj hu)
      have hi : i < (row nm x).length := (List.getElem?_eq_some_iff.mp eu).1
      have hy : y ∈ row nm x := List.mem_of_getElem? eu
      have et : (row nm x).take (i + 1) = (row nm x).take i ++ [y] := by rw [List.take_add_one, eu]; rfl
      have hs : ∀ z, z ∈ (row nm x).take i → z < y := by
        intro z hz
        have hup2 : ((row nm x).take (i + 1)).Pairwise (· < ·) := hup.2.sublist (List.take_sublist _ _)
        rw [et] at hup2
        exact (List.pairwise_append.mp hup2).2.2 z hz y (by simp)
      walk_at "rd"
      refine rd_ite (fun h7 => ?_) (fun h7 => ?_)
      · have ey : y = f := by omega
        subst ey
        walk_at "rd"
        exact q pa p H6 (.inr (I.found hw hy)) ha E6 hpa6
      · have ny : y ≠ f := fun z => h7 (by rw [z])
        walk_at "rd"
        refine rd_dinI hdl6 ?_
        rw [hks6.2 y]
        walk_at "rd"
        refine rd_iteN (fun h8 => ?_) (fun h8 => ?_)
        · walk_at "rd"
          have hRl : R'.length < nm.length := by
            have := nodup_lt (n := nm.length) (l := R' ++ [y]) (by
              rw [List.nodup_append]
              refine ⟨I6.nd, by simp, fun a ha b hb => ?_⟩
              have e : b = y := by simpa using hb
              subst e
              rintro rfl
              exact h8 ha) (fun z hz => by
              rcases List.mem_append.mp hz with hz | hz
              · exact hlt6 z hz
              · have e : z = y := by simpa using hz
                subst e
                exact hup.1 z hy)
            rw [List.length_append] at this
            exact this
          refine rd_dputI hdl6 (by rw [hks6.1]; omega) ?_
          generalize eH : upd H6 dl _ = H7
          have h7d : H7 dl = some (.dK (putK kvs (ik y) (.bl true))) := by rw [← eH]; exact upd_same
          have k7 : ∀ b, b ≠ dl → H7 b = H6 b := fun b hb => by rw [← eH, upd_ne hb]
          have E7 : Ex H H7 := by rw [← eH]; exact ex_new hdlH E6
          clear eH
          have nl7 : ∀ a xs, H6 a = some (.lst xs) → a ≠ dl := by
            rintro a xs h rfl
            rw [hdl6] at h; cases h
          have hpl7 : H7 pl = some (.lst (as'.map V.ref)) := by rw [k7 pl (nl7 _ _ hpl6)]; exact hpl6
          have hpa7 : H7 pa = some (.lst (p.map iv)) := by rw [k7 pa (nl7 _ _ hpa6)]; exact hpa6
          walk_at "rd"
          refine new_lst fun p8 H8 hp8 E8 h8l => ?_
          have lnp : p.length ≤ 41 := by
            have h1 := I6.pl
            have h2 := I6.ln
            rw [List.length_append, List.length_append] at h2
            have : R'.length ≤ nm.length := by omega
            show p.length ≤ 41
            omega
          refine rd_addL (E8 _ _ hpa7) h8l (by rw [List.length_map]; show _ + 1 ≤ 1000; omega) fun p9 H9 hp9 E9 h9 => ?_
          walk_at "rd"
          have hpl9 : H9 pl = some (.lst (as'.map V.ref)) := E9 _ _ (E8 _ _ hpl7)
          have las : as'.length ≤ 41 := by
            rw [hpt6.len]
            have h2 := I6.ln
            rw [List.length_append] at h2
            omega
          refine rd_append hpl9 (by rw [List.length_map]; omega) ?_
          walk_at "rd"
          have E79 : Ex H7 H9 := E8.trans E9
          have npl9 : p9 ≠ pl := by rintro rfl; rw [E8 _ _ hpl7] at hp9; cases hp9
          have hp9H : H p9 = none := free_of (E7.trans E8) hp9
          refine ⟨A ++ [p ++ [y]], R' ++ [y], as' ++ [p9], _, by rw [et]; exact I6.new hw hy hs ny h8, ex_new hplH (E7.trans E79), by rw [upd_same, List.map_append]; rfl, ?_, ⟨_, ?_, hks6.snoc (v := .bl true) h8⟩, fun z hz => ?_, ?_, rfl, ?_⟩
          · rw [← List.append_assoc]
            refine Pths.snoc hp9H npl9 (by rw [upd_ne npl9, h9, List.map_append]; rfl) (hpt6.mv fun a xs ha h => ?_)
            rw [upd_ne ha]
            refine E79 _ _ ?_
            rw [k7 a (nl7 _ _ h)]
            exact h
          · rw [upd_ne (nl7 _ _ hpl6).symm]
            exact E79 _ _ h7d
          · rcases List.mem_append.mp hz with hz | hz
            · exact hlt6 z hz
            · have e : z = y := by simpa using hz
              subst e
              exact hup.1 z hy
          · rw [upd_ne hne]
            exact E79 _ _ hpa7
          · have e1 : (R' ++ [y]).length = R'.length + 1 := by rw [List.length_append]; rfl
            have e2 : (Qs ++ (A ++ [p ++ [y]])).length = (Qs ++ A).length + 1 := by rw [← List.append_assoc, List.length_append]; rfl
            rw [e1, e2]
            omega
        · walk_at "rd"
          exact ⟨A, R', as', _, by rw [et]; exact I6.old hs ny h8, E6, hpl6, hpt6, ⟨kvs, hdl6, hks6⟩, hlt6, hpa6, rfl, hm6⟩
    · rintro σ H6 ⟨A, R', as', y0, I6, E6, hpl6, hpt6, hd6, hlt6, hpa6, rfl, hm6⟩
      walk_at "rd"
      rw [List.length_map, List.take_length] at I6
      exact ⟨_, hm6, D ++ [p], Qs ++ A, R', _, _, I6.close hw fun y hy => hy, ⟨E6, ⟨as', hpl6, hpt6⟩, hd6, hlt6⟩, rfl, rfl⟩
def spRingOf (K : PySem.W.Frag) : Sp := sp1 fun a H Q => ∃ l vs ts sz, a = .ref l ∧ SqL K H l vs ∧ TvA K H vs ts ∧ (∀ t ∈ ts, isRule sz 8 t = true) ∧ ts.length ≤ 40 ∧ ∀ p r H', Best (nmOf ts) ts.length r → H p = none → Ex H H' → H' p = some (.lst (r.map iv)) → Q (.ref p) H'
theorem k_ring_of (T : Tx K w mg) (c__lines_named : Cal P w K mg base "_lines_named" 11 p_lines_named (spLinesNamed K)) (c__ring_from : Cal P w K mg base "_ring_from" 1 p_ring_from (spRingFrom K)) : Cal P w K mg base "ring_of" 12 pring_of (spRingOf K) := by
  refine cal1 T.F_ring_of scring_of bring_of rfl fun g cdv A outer s H a Q E hr h => ?_
  obtain ⟨l, vs, ts, sz, rfl, hl, hts, hru, hn, q⟩ := h
  refine ⟨_, (pss_cons (ps_set (i := 1) (scring_of).nd rfl (by first | exact Or.inl rfl | exact Or.inr rfl) (pe_cal c__lines_named (hr.mono (by omega)) (pa_cons (pv 0) pa_nil))) (pss_cons (ps_set (i := 2) (scring_of).nd rfl (by first | exact Or.inl rfl | exact Or.inr rfl) (pe_lst pa_nil)) (pss_cons (ps_for PassesOwn.never rfl (pi_range1 (by rfl) T.m_range (pa_cons (pe_callB cr_lenA (by rfl) T.m_len (by decide +kernel) (pa_cons (pv 1) pa_nil)) pa_nil)) (pg_name (i := 3) (scring_of).nd rfl (by first | exact Or.inl rfl | exact Or.inr rfl)) (pss_cons (ps_set (i := 4) (scring_of).nd rfl (by first | exact Or.inl rfl | exact Or.inr rfl) (pe_cal c__ring_from (hr.mono (by omega)) (pa_cons (pv 1) (pa_cons (pv 3) pa_nil)))) (pss_one (ps_if (PW.pt (pw_and (pt_tru (pv 4)) (pw_and1 (PW.pt (pw_or (pt_not (pt_tru (pv 2))) (pw_or1 (pt_cmpR op_lt (pe_callB cr_lenA (by rfl) T.m_len (by decide +kernel) (pa_cons (pv 4) pa_nil)) (pe_callB cr_lenA (by rfl) T.m_len (by decide +kernel) (pa_cons (pv 2) pa_nil)) (nomark _)))))))) (pss_one (ps_set (i := 2) (scring_of).nd rfl (by first | exact Or.inl rfl | exact Or.inr rfl) (pv 4))) pss_nil)))) (pss_one (ps_ret (pv 2)))))), ?_⟩
  rw [tring_of]
  try dsimp only [cxOf, Cx.nox, Cx.wish]
  walk_at "rd"
  refine rd_sp1 ⟨l, vs, ts, sz, rfl, hl, hts, hru, hn, fun nl H1 hnm hnl E1 => ?_⟩
  walk_at "rd"
  refine new_lst fun s0 H2 hs0 E2 h2 => ?_
  walk_at "rd"
  obtain ⟨as, hnl1, las, _⟩ := id hnm
  rw [nmOf_len] at las
  refine rd_lenL (.of (E2 _ _ hnl1)) ?_
  rw [List.length_map, las]
  walk_at "rd"
  refine forW_R (fun i σ H' => ∃ acc sa x y, Best (nmOf ts) i acc ∧ σ = [some (.ref l), some (.ref nl), some (.ref sa), x, y] ∧ Ex H1 H' ∧ H sa = none ∧ H' sa = some (.lst (acc.map iv))) ?_ ?_ ?_
  · exact ⟨[], s0, _, _, .zero, rfl, E2, free_of E1 hs0, h2⟩
  · rintro i σ H3 hi ⟨acc, sa, x0, y0, hb, rfl, E3, hsa, h3⟩
    have ei : (0 : Int) + (i : Int) = ((i : Nat) : Int) := by omega
    rw [ei]
    rw [Int.toNat_natCast] at hi
    walk_at "rd"
    refine rd_sp2 ⟨nl, nmOf ts, i, rfl, rfl, hnm.ex E3, rows_nmOf ts, by rw [nmOf_len]; exact hi, by rw [nmOf_len]; exact hn, fun p r H4 hbst hp E4 h4 => ?_⟩
    walk_at "rd"
    have hb' : Best (nmOf ts) (i + 1) (better acc r) := .succ hb hbst
    have h34 : H4 sa = some (.lst (acc.map iv)) := E4 _ _ h3
    refine rd_truL (.of h4) ?_
    have keep : r = [] ∨ (r ≠ [] ∧ acc ≠ [] ∧ ¬ r.length < acc.length) → better acc r = acc := by
      unfold better
      rintro (e | ⟨_, e2, e3⟩)
      · rw [if_neg (fun z => z.1 e)]
      · rw [if_neg (fun z => z.2.elim e2 e3)]
    have take : r ≠ [] → (acc = [] ∨ r.length < acc.length) → better acc r = r := fun a b => by unfold better; rw [if_pos ⟨a, b⟩]
    have fin : ∀ (e : better acc r = acc), ∃ acc' sa' x y, Best (nmOf ts) (i + 1) acc' ∧ [some (.ref l), some (.ref nl), some (.ref sa), some (iv i), some (.ref p)] = [some (.ref l), some (.ref nl), some (.ref sa'), x, y] ∧ Ex H1 H4 ∧ H sa' = none ∧ H4 sa' = some (.lst (acc'.map iv)) :=
      fun e => ⟨acc, sa, _, _, by rw [e] at hb'; exact hb', rfl, E3.trans E4, hsa, h34⟩
    have fin2 : ∀ (e : better acc r = r), ∃ acc' sa' x y, Best (nmOf ts) (i + 1) acc' ∧ [some (.ref l), some (.ref nl), some (.ref p), some (iv i), some (.ref p)] = [some (.ref l), some (.ref nl), some (.ref sa'), x, y] ∧ Ex H1 H4 ∧ H sa' = none ∧ H4 sa' = some (.lst (acc'.map iv)) :=
      fun e => ⟨r, p, _, _, by rw [e] at hb'; exact hb', rfl, E3.trans E4, free_of (E1.trans E3) hp, h4⟩
    cases er : r with
    | nil =>
      rw [List.map_nil]
      walk_at "rd"
      exact fin (keep (.inl er))
    | cons r0 rs =>
      rw [List.map_cons]
      walk_at "rd"
      refine rd_truL (.of h34) ?_
      cases ea : acc with
      | nil =>
        rw [List.map_nil]
        walk_at "rd"
        exact fin2 (take (by rw [er]; simp) (.inl ea))
      | cons a0 acc0 =>
        rw [List.map_cons]
        walk_at "rd"
        refine rd_lenL (.of h4) ?_
        walk_at "rd"
        refine rd_lenL (.of h34) ?_
        walk_at "rd"
        rw [List.length_map, List.length_map]
        refine rd_ite (fun h5 => ?_) (fun h5 => ?_)
        · walk_at "rd"
          exact fin2 (take (by rw [er]; simp) (.inr (by omega)))
        · walk_at "rd"
          exact fin (keep (.inr ⟨by rw [er]; simp, by rw [ea]; simp, by omega⟩))
  · rintro σ H3 ⟨acc, sa, x0, y0, hb, rfl, E3, hsa, h3⟩
    walk_at "rd"
    exact q sa acc H3 hb hsa (E1.trans E3) h3
end
end KF
open PySem PySem.Spec PyProof.Rows L2 Qa Qr


namespace KF
section
variable {P : Program} {w : World} {K : PySem.W.Frag} {mg : Str → Option Value} {base : Heap} {H : Hp} {Q : VK} {E : XK}
def spHun (K : PySem.W.Frag) : Sp := sp2 fun a b H Q => ∃ n p, a = .int n ∧ b = .int p ∧ 0 ≤ p ∧ p ≤ 100 ∧ Q (.int (n * p / 100)) H
theorem k_hundredths (T : Tx K w mg) : Cal P w K mg base "hundredths" 1 phundredths (spHun K) := by
  refine cal2 T.F_hundredths schundredths bhundredths rfl fun g cdv A outer s H a b Q E hr h => ?_
  obtain ⟨n, p, rfl, rfl, h0, h1, q⟩ := h
  refine ⟨_, (pss_one (ps_ret (pe_op op_fdiv (pe_op op_mul (pv 0) (pv 1)) (pe_gint T.g_FULL_PERCENT)))), ?_⟩
  rw [thundredths]
  try dsimp only [cxOf, Cx.nox, Cx.wish]
  walk_at "rd"
  exact q
def spRow (K : PySem.W.Frag) : Sp := sp1 fun a H Q => ∃ t, Tv K H a t ∧ Q (.bl (isRow t)) H
theorem k__is_row (T : Tx K w mg) (c_is_number : Cal P w K mg base "is_number" 3 pis_number (spNum K)) (c_is_percent : Cal P w K mg base "is_percent" 3 pis_percent (spPct K)) : Cal P w K mg base "_is_row" 4 p_is_row (spRow K) := by
  refine cal1 T.F__is_row sc_is_row b_is_row rfl fun g cdv A outer s H a Q E hr h => ?_
  obtain ⟨t, ht, q⟩ := h
  refine ⟨_, (pss_cons (ps_if (PW.pt (pw_or (pt_not (pt_tru (pe_callB call_isi (by rfl) T.m_isinstance (by decide +kernel) (pa_cons (pv 0) (pa_cons (pe_ty (n := "tuple") T.m_tuple (by decide +kernel)) pa_nil))))) (pw_or1 (pt_cmpR (op_neA hr) (pe_callB cr_lenA (by rfl) T.m_len (by decide +kernel) (pa_cons (pv 0) pa_nil)) (pe_gint T.g_ROW_PARTS) (nomark _))))) (pss_one (ps_ret pe_bl)) pss_nil) (pss_cons (ps_asg (pv 0) (pg_tup (n := 3) rfl (pgs_cons (pg_name (i := 1) (sc_is_row).nd rfl (by first | exact Or.inl rfl | exact Or.inr rfl)) (pgs_cons (pg_name (i := 2) (sc_is_row).nd rfl (by first | exact Or.inl rfl | exact Or.inr rfl)) (pgs_cons (pg_name (i := 3) (sc_is_row).nd rfl (by first | exact Or.inl rfl | exact Or.inr rfl)) pgs_nil))))) (pss_one (ps_ret (pe_and (pe_cal c_is_number (hr.mono (by omega)) (pa_cons (pv 1) pa_nil)) (pe_and (pe_cal c_is_number (hr.mono (by omega)) (pa_cons (pv 2) pa_nil)) (pe_one (pe_cal c_is_percent (hr.mono (by omega)) (pa_cons (pv 3) pa_nil))))))))), ?_⟩
  rw [t_is_row]
  try dsimp only [cxOf, Cx.nox, Cx.wish]
  walk_at "rd"
  cases t with
  | tup ts =>
    walk_at "rd"
    refine rd_lenD ht ?_
    walk_at "rd"
    refine rd_iteN (fun h1 => ?_) (fun h1 => ?_)
    · walk_at "rd"
      rw [notRow (by omega)] at q
      exact q
    · obtain ⟨ta, tb, tc, rfl⟩ := row3 (ts := ts) (by omega)
      obtain ⟨p, xs, rfl, hs, ha⟩ := ht.tupE
      obtain ⟨x, xs, rfl, hx, ha⟩ := ha.consE
      obtain ⟨y, xs, rfl, hy, ha⟩ := ha.consE
      obtain ⟨z, xs, rfl, hz, ha⟩ := ha.consE
      cases ha.nilE
      walk_at "rd"
      refine rd_gtup hs rfl ?_
      walk_at "rd"
      refine rd_sp1 ⟨ta, hx, ?_⟩
      walk_at "rd"
      refine rd_iteB (fun e1 => ?_) (fun e1 => ?_)
      · walk_at "rd"
        refine rd_sp1 ⟨tb, hy, ?_⟩
        walk_at "rd"
        refine rd_iteB (fun e2 => ?_) (fun e2 => ?_)
        · walk_at "rd"
          refine rd_sp1 ⟨tc, hz, ?_⟩
          simpa [isRow, e1, e2] using q
        · simpa [isRow, e1, e2] using q
      · simpa [isRow, e1] using q
  | _ => walk_at "rd"; exact q
def spRise (K : PySem.W.Frag) : Sp := sp1 fun a H Q => ∃ ts, Tv K H a (.tup ts) ∧ ts.length ≤ 20 ∧ ts.all isRow = true ∧ ∀ H', Ex H H' → Q (.bl (rise ts)) H'
theorem k__starts_rise (T : Tx K w mg) : Cal P w K mg base "_starts_rise" 1 p_starts_rise (spRise K) := by
  refine cal1 T.F__starts_rise sc_starts_rise b_starts_rise rfl fun g cdv A outer s H a Q E hr h => ?_
  obtain ⟨ts, ht, hl, hall, q⟩ := h
  refine ⟨_, (pss_cons (ps_for PassesOwn.never rfl (RZ.pi_zipA (by rfl) T.m_zip (pa_cons (pv 0) (pa_cons (pe_slice sl_any (pv 0) (po_some pe_int) po_none) pa_nil))) (pg_tup (n := 2) rfl (pgs_cons (pg_name (i := 1) (sc_starts_rise).nd rfl (by first | exact Or.inl rfl | exact Or.inr rfl)) (pgs_cons (pg_name (i := 2) (sc_starts_rise).nd rfl (by first | exact Or.inl rfl | exact Or.inr rfl)) pgs_nil))) (pss_one (ps_if (pt_cmpR op_ge (pe_ix ix_seq (pv 1) pe_int (fun _ _ => rfl)) (pe_ix ix_seq (pv 2) pe_int (fun _ _ => rfl)) (nomark _)) (pss_one (ps_ret pe_bl)) pss_nil))) (pss_one (ps_ret pe_bl))), ?_⟩
  rw [t_starts_rise]
  try dsimp only [cxOf, Cx.nox, Cx.wish]
  obtain ⟨p, xs, rfl, hs, ha⟩ := ht.tupE
  walk_at "rd"
  refine rd_slT hs fun r H1 e1 hr1 => ?_
  walk_at "rd"
  have hs1 : SqT K H1 p xs := by walk_at "sqt"
  have ha1 : TvA K H1 xs ts := by walk_at "tva"
  refine rd_fzT hs1 hr1 ?_
  have el : xs.length = ts.length := ha.len
  rw [cutV_tail] at hr1
  refine forW_Z xs (xs.drop 1) (n := ts.length - 1) (by rw [List.length_drop]; omega) (fun i σ H2 => (∃ y z, σ = [some (.ref p), y, z]) ∧ Ex H1 H2 ∧ rise ts = rise (ts.drop i)) ?_ ?_ ?_ ?_
  · exact ⟨⟨_, _, rfl⟩, Evl.Ex.refl _, rfl⟩
  · rintro i σ H2 hi ⟨_, e2, _⟩
    exact ⟨sqt_ex hs1 e2, sqt_ex hr1 e2⟩
  · rintro i x y c σ H2 H3 hi ⟨⟨y0, z0, rfl⟩, e2, hrise⟩ hx hy hc e3 hcT
    rw [List.getElem?_drop, Nat.add_comm] at hy
    have a3 : TvA K H3 xs ts := tva_ex (tva_ex ha1 e2) e3
    obtain ⟨tx, htx, vx⟩ := a3.getV hx
    obtain ⟨ty, hty, vy⟩ := a3.getV hy
    obtain ⟨px, x1, x2, rfl, sx⟩ := row_start vx (List.all_eq_true.mp hall tx (List.mem_of_getElem? htx))
    obtain ⟨py, y1, y2, rfl, sy⟩ := row_start vy (List.all_eq_true.mp hall ty (List.mem_of_getElem? hty))
    refine rd_gtup (SqT.of hcT) rfl ?_
    walk_at "rd"
    refine rd_ixT sx (atI_nat (j := 0) rfl) ?_
    walk_at "rd"
    refine rd_ixT sy (atI_nat (j := 0) rfl) ?_
    walk_at "rd"
    have e4 := rise_drop ts i tx ty htx hty
    refine rd_ite (fun h1 => ?_) (fun h1 => ?_)
    · walk_at "rd"
      have e5 : rise ts = false := by
        rw [hrise, e4, decide_eq_false (by omega)]
        rfl
      rw [e5] at q
      exact q _ ((e1.trans e2).trans e3)
    · walk_at "rd"
      refine ⟨⟨_, _, rfl⟩, e2.trans e3, ?_⟩
      rw [hrise, e4, decide_eq_true (by omega)]
      rfl
  · rintro σ H2 ⟨_, e2, hrise⟩
    walk_at "rd"
    have e5 : rise ts = true := by
      rw [hrise]
      exact rise_end ts _ (by omega)
    rw [e5] at q
    exact q _ (e1.trans e2)
def spTab (K : PySem.W.Frag) : Sp := sp1 fun a H Q => ∃ t, Tv K H a t ∧ ∀ H', Ex H H' → Q (.bl (isTable t)) H'
theorem k_is_table (T : Tx K w mg) (c__is_row : Cal P w K mg base "_is_row" 4 p_is_row (spRow K)) (c__starts_rise : Cal P w K mg base "_starts_rise" 1 p_starts_rise (spRise K)) : Cal P w K mg base "is_table" 5 pis_table (spTab K) := by
  refine cal1 T.F_is_table scis_table bis_table rfl fun g cdv A outer s H a Q E hr h => ?_
  obtain ⟨t, ht, q⟩ := h
  refine ⟨_, (pss_cons (ps_if (PW.pt (pw_or (pt_not (pt_tru (pe_callB call_isi (by rfl) T.m_isinstance (by decide +kernel) (pa_cons (pv 0) (pa_cons (pe_ty (n := "tuple") T.m_tuple (by decide +kernel)) pa_nil))))) (pw_or1 (pt_not (pt_chain op_le op_le pe_int (pe_callB cr_lenA (by rfl) T.m_len (by decide +kernel) (pa_cons (pv 0) pa_nil)) (pe_gint T.g_MOST_ROWS)))))) (pss_one (ps_ret pe_bl)) pss_nil) (pss_cons (ps_for PassesOwn.never rfl (pi_seq (pv 0)) (pg_name (i := 1) (scis_table).nd rfl (by first | exact Or.inl rfl | exact Or.inr rfl)) (pss_one (ps_if (pt_not (pt_tru (pe_cal c__is_row (hr.mono (by omega)) (pa_cons (pv 1) pa_nil)))) (pss_one (ps_ret pe_bl)) pss_nil))) (pss_one (ps_ret (pe_cal c__starts_rise (hr.mono (by omega)) (pa_cons (pv 0) pa_nil)))))), ?_⟩
  rw [tis_table]
  try dsimp only [cxOf, Cx.nox, Cx.wish]
  walk_at "rd"
  cases t with
  | tup ts =>
    walk_at "rd"
    refine rd_lenD ht ?_
    walk_at "rd"
    refine rd_ite (fun h1 => ?_) (fun h1 => ?_)
    · walk_at "rd"
      refine rd_iteN (fun h2 => ?_) (fun h2 => ?_)
      · walk_at "rd"
        have e : isTable (.tup ts) = false := by
          rw [isTable_tup]
          rw [decide_eq_false (show ¬ ts.length ≤ 20 by omega), Bool.and_false, Bool.false_and]
        rw [e] at q
        exact q H (Evl.Ex.refl H)
      · obtain ⟨p, xs, rfl, hs, ha⟩ := ht.tupE
        walk_at "rd"
        have el : xs.length = ts.length := ha.len
        refine forW_T xs (fun i σ H2 => (∃ y, σ = [some (.ref p), y]) ∧ H2 = H ∧ (ts.take i).all isRow = true) ?_ ?_ ?_ ?_
        · exact ⟨⟨_, rfl⟩, rfl, rfl⟩
        · rintro i σ H2 hi ⟨_, rfl, _⟩
          exact hs
        · rintro i x σ H2 hx ⟨⟨y, rfl⟩, rfl, hall⟩
          obtain ⟨tx, htx, vx⟩ := ha.getV hx
          walk_at "rd"
          refine rd_sp1 ⟨tx, vx, ?_⟩
          walk_at "rd"
          cases e1 : isRow tx with
          | true =>
            walk_at "rd"
            refine ⟨⟨_, rfl⟩, rfl, ?_⟩
            rw [all_take htx, hall, e1]
            rfl
          | false =>
            walk_at "rd"
            have e : isTable (.tup ts) = false := by
              have e2 : ts.all isRow = false := by
                rw [Bool.eq_false_iff]
                intro z
                have z' := List.all_eq_true.mp z tx (List.mem_of_getElem? htx)
                rw [e1] at z'; cases z'
              rw [isTable_tup]
              rw [e2, Bool.false_and, Bool.and_false]
            rw [e] at q
            exact q H2 (Evl.Ex.refl H2)
        · rintro σ H2 ⟨⟨y, rfl⟩, rfl, hall⟩
          rw [el, List.take_length] at hall
          walk_at "rd"
          refine rd_sp1 ⟨ts, ht, by omega, hall, fun H' e => ?_⟩
          have e : isTable (.tup ts) = rise ts := by
            rw [isTable_tup]
            rw [decide_eq_true (show 1 ≤ ts.length by omega), decide_eq_true (show ts.length ≤ 20 by omega), hall]
            rfl
          rw [e] at q
          exact q H' (by assumption)
    · walk_at "rd"
      have e : isTable (.tup ts) = false := by
        rw [isTable_tup]
        rw [decide_eq_false (show ¬ 1 ≤ ts.length by omega), Bool.false_and, Bool.false_and]
      rw [e] at q
      exact q H (Evl.Ex.refl H)
  | _ => walk_at "rd"; exact q H (Evl.Ex.refl H)
def spAt (K : PySem.W.Frag) : Sp := sp2 fun a b H Q => ∃ rows n, Tv K H a (.tup (rows.map rowT)) ∧ b = .int n ∧ pcts rows ∧ Q (.int (atN rows n)) H
theorem k_at_number (T : Tx K w mg) (c_hundredths : Cal P w K mg base "hundredths" 1 phundredths (spHun K)) : Cal P w K mg base "at_number" 2 pat_number (spAt K) := by
  refine cal2 T.F_at_number scat_number bat_number rfl fun g cdv A outer s H a b Q E hr h => ?_
  obtain ⟨rows, n, ht, rfl, hp, q⟩ := h
  refine ⟨_, (pss_cons (ps_set (i := 2) (scat_number).nd rfl (by first | exact Or.inl rfl | exact Or.inr rfl) pe_int) (pss_cons (ps_for PassesOwn.never rfl (pi_seq (pv 0)) (pg_tup (n := 3) rfl (pgs_cons (pg_name (i := 3) (scat_number).nd rfl (by first | exact Or.inl rfl | exact Or.inr rfl)) (pgs_cons (pg_name (i := 4) (scat_number).nd rfl (by first | exact Or.inl rfl | exact Or.inr rfl)) (pgs_cons (pg_name (i := 5) (scat_number).nd rfl (by first | exact Or.inl rfl | exact Or.inr rfl)) pgs_nil)))) (pss_one (ps_if (pt_cmpR op_le (pv 3) (pv 1) (nomark _)) (pss_one (ps_set (i := 2) (scat_number).nd rfl (by first | exact Or.inl rfl | exact Or.inr rfl) (pe_op op_addA (pv 4) (pe_cal c_hundredths (hr.mono (by omega)) (pa_cons (pe_op op_sub (pv 1) (pv 3)) (pa_cons (pv 5) pa_nil)))))) pss_nil))) (pss_one (ps_ret (pv 2))))), ?_⟩
  rw [tat_number]
  try dsimp only [cxOf, Cx.nox, Cx.wish]
  obtain ⟨p, xs, rfl, hs, ha⟩ := ht.tupE
  have el : xs.length = rows.length := by rw [ha.len, List.length_map]
  walk_at "rd"
  refine forW_T xs (fun i σ H2 => (∃ t y z u, σ = [some (.ref p), some (.int n), some (.int t), y, z, u] ∧ t = atN (rows.take i) n) ∧ H2 = H) ?_ ?_ ?_ ?_
  · exact ⟨⟨_, _, _, _, rfl, rfl⟩, rfl⟩
  · rintro i σ H2 hi ⟨_, rfl⟩
    exact hs
  · rintro i x σ H2 hx ⟨⟨t, y, z, u, rfl, et⟩, rfl⟩
    obtain ⟨r, c, hr, rfl, hc⟩ := tva_rows ha hx
    have hpr := hp r (List.mem_of_getElem? hr)
    refine rd_gtup hc rfl ?_
    walk_at "rd"
    refine rd_ite (fun h1 => ?_) (fun h1 => ?_)
    · walk_at "rd"
      refine rd_sp2 ⟨_, _, rfl, rfl, hpr.1, hpr.2, ?_⟩
      walk_at "rd"
      exact ⟨⟨_, _, _, _, rfl, by rw [atN_take hr, if_pos h1]⟩, rfl⟩
    · walk_at "rd"
      exact ⟨⟨_, _, _, _, rfl, by rw [atN_take hr, if_neg h1]; exact et⟩, rfl⟩
  · rintro σ H2 ⟨⟨t, y, z, u, rfl, et⟩, rfl⟩
    walk_at "rd"
    rw [el, List.take_length] at et
    rw [et]
    exact q
end
end KF
open PySem PySem.Spec PyProof.Rows L2 Qa Qr


namespace KF
section
variable {P : Program} {w : World} {K : PySem.W.Frag} {mg : Str → Option Value} {base : Heap} {H : Hp} {Q : VK} {E : XK}
def spForm (K : PySem.W.Frag) : Sp := sp1 fun a H Q => ∃ t, Tv K H a t ∧ Q (.bl (hasForm t)) H
theorem k__has_form (T : Tx K w mg) : Cal P w K mg base "_has_form" 1 p_has_form (spForm K) := by
  refine cal1 T.F__has_form sc_has_form b_has_form rfl fun g cdv A outer s H a Q E hr h => ?_
  obtain ⟨t, ht, q⟩ := h
  obtain ⟨dP, h_PARTS, tP⟩ := T.g_PARTS
  refine ⟨_, (pss_cons (ps_if (PW.pt (pw_or (pt_not (pt_tru (pe_callB call_isi (by rfl) T.m_isinstance (by decide +kernel) (pa_cons (pv 0) (pa_cons (pe_ty (n := "tuple") T.m_tuple (by decide +kernel)) pa_nil))))) (pw_or1 (pt_not (pt_tru (pv 0)))))) (pss_one (ps_ret pe_bl)) pss_nil) (pss_cons (ps_set (i := 1) (sc_has_form).nd rfl (by first | exact Or.inl rfl | exact Or.inr rfl) (pe_ix ix_seq (pv 0) pe_int (fun _ _ => rfl))) (pss_cons (ps_if (PW.pt (pw_or (pt_not (pt_tru (pe_callB call_isi (by rfl) T.m_isinstance (by decide +kernel) (pa_cons (pv 1) (pa_cons (pe_ty (n := "str") T.m_str (by decide +kernel)) pa_nil))))) (pw_or1 (pt_cmpR op_notinTab (pv 1) (pe_gtab h_PARTS) (by rfl))))) (pss_one (ps_ret pe_bl)) pss_nil) (pss_one (ps_ret (pe_cmpR (op_eqA hr) (pe_callB cr_lenA (by rfl) T.m_len (by decide +kernel) (pa_cons (pv 0) pa_nil)) (pe_op op_addA pe_int (pe_callB cr_lenA (by rfl) T.m_len (by decide +kernel) (pa_cons (pe_ix ix_kdict (pe_gtab h_PARTS) (pv 1) (fun _ _ => rfl)) pa_nil))) (nomark _))))))), ?_⟩
  rw [t_has_form]
  try dsimp only [cxOf, Cx.nox, Cx.wish]
  walk_at "rd"
  cases t with
  | tup ts =>
    walk_at "rd"
    refine rd_truT ht ?_
    cases ts with
    | nil => walk_at "rd"; exact q
    | cons t0 ts =>
      walk_at "rd"
      refine rd_ixD (n := 0) ht rfl rfl fun x hx => ?_
      walk_at "rd"
      cases t0 with
      | str z =>
        cases hx
        walk_at "rd"
        rw [hasForm_str] at q
        cases e : kindsOf z with
        | none =>
          rw [show tPARTS.lookup z = none from e]
          rw [e] at q
          walk_at "rd"
          exact q
        | some ks =>
          rw [show tPARTS.lookup z = some ks from e]
          rw [e] at q
          walk_at "rd"
          refine rd_lenD ht ?_
          walk_at "rd"
          refine rd_ixTab tP e fun a ha => ?_
          walk_at "rd"
          refine rd_lenT ha ?_
          walk_at "rd"
          have e2 : decide (((.str z :: ts : List Qa.T).length : Int) = 1 + (((ks.map V.str).length : Nat) : Int)) = decide (ts.length = ks.length) := by
            rw [decide_eq_decide, List.length_cons, List.length_map]
            omega
          rw [e2]
          exact q
      | _ => walk_at "rd"; exact q
  | _ => walk_at "rd"; exact q
def cnt (s : Sz) : List (Key × V) := [(.inr "line", .int s.l), (.inr "table", .int s.tb), (.inr "choice", .int s.ch)]
def spRW (K : PySem.W.Frag) (n : Nat) : Sp := sp3 fun a b c H Q => ∃ t d s, Tv K H a t ∧ b = .ref d ∧ H d = some (.dK (cnt s)) ∧ c = .int ((n : Nat) : Int) ∧ ∀ H', Ex H H' → Q (.bl (isRule s n t)) H'
def spPart (K : PySem.W.Frag) (n : Nat) : Sp := sp4 fun a b c d H Q => ∃ t k dd s, Tv K H a t ∧ b = .str k ∧ k ∈ kinds ∧ c = .ref dd ∧ H dd = some (.dK (cnt s)) ∧ d = .int (((n + 1 : Nat)) : Int) ∧ ∀ H', Ex H H' → Q (.bl (partOk (isRule s n) s k t)) H'
theorem k__is_part (T : Tx K w mg) {n m : Nat} (c__is_rule_within : Cal P w K mg base "_is_rule_within" m p_is_rule_within (spRW K n)) (hm : 3 ≤ m) (c_is_number : Cal P w K mg base "is_number" 3 pis_number (spNum K)) (c_is_percent : Cal P w K mg base "is_percent" 3 pis_percent (spPct K))
    (c_is_word : Cal P w K mg base "is_word" 1 pis_word (spWord K)) (c_is_place : Cal P w K mg base "is_place" 3 pis_place (spPlace K)) : Cal P w K mg base "_is_part" (m + 1) p_is_part (spPart K n) := by
  refine cal4 T.F__is_part sc_is_part b_is_part rfl fun g cdv A outer s H a b c d Q E hr h => ?_
  obtain ⟨t, k, dd, sz, ht, rfl, hk, rfl, hd, rfl, q⟩ := h
  refine ⟨_, (pss_cons (ps_if (pt_cmpR (op_eqA hr) (pv 1) pe_str (nomark _)) (pss_one (ps_ret (pe_cal c__is_rule_within (hr.mono (by omega)) (pa_cons (pv 0) (pa_cons (pv 2) (pa_cons (pe_op op_sub (pv 3) pe_int) pa_nil)))))) pss_nil) (pss_cons (ps_if (pt_cmpR (op_eqA hr) (pv 1) pe_str (nomark _)) (pss_one (ps_ret (pe_cal c_is_number (hr.mono (by omega)) (pa_cons (pv 0) pa_nil)))) pss_nil) (pss_cons (ps_if (pt_cmpR (op_eqA hr) (pv 1) pe_str (nomark _)) (pss_one (ps_ret (pe_cal c_is_percent (hr.mono (by omega)) (pa_cons (pv 0) pa_nil)))) pss_nil) (pss_cons (ps_if (pt_cmpR (op_eqA hr) (pv 1) pe_str (nomark _)) (pss_one (ps_ret (pe_cal c_is_word (hr.mono (by omega)) (pa_cons (pv 0) pa_nil)))) pss_nil) (pss_one (ps_ret (pe_cal c_is_place (hr.mono (by omega)) (pa_cons (pv 0) (pa_cons (pe_dget (hu_of hr) (pv 2) (pv 1) (fun _ _ => rfl)) pa_nil))))))))), ?_⟩
  rw [t_is_part]
  try dsimp only [cxOf, Cx.nox, Cx.wish]
  have q0 := q H (Evl.Ex.refl H)
  unfold partOk at q0
  walk_at "rd"
  refine rd_ite (fun h1 => ?_) (fun h1 => ?_)
  · walk_at "rd"
    refine rd_sp3 ⟨t, dd, sz, ht, rfl, hd, by congr 1; omega, fun H' e => ?_⟩
    have q1 := q H' e
    unfold partOk at q1
    rw [if_pos h1] at q1
    exact q1
  rw [if_neg h1] at q0
  walk_at "rd"
  refine rd_ite (fun h2 => ?_) (fun h2 => ?_)
  · rw [if_pos h2] at q0
    walk_at "rd"
    exact rd_sp1 ⟨t, ht, q0⟩
  rw [if_neg h2] at q0
  walk_at "rd"
  refine rd_ite (fun h3 => ?_) (fun h3 => ?_)
  · rw [if_pos h3] at q0
    walk_at "rd"
    exact rd_sp1 ⟨t, ht, q0⟩
  rw [if_neg h3] at q0
  walk_at "rd"
  refine rd_ite (fun h4 => ?_) (fun h4 => ?_)
  · rw [if_pos h4] at q0
    walk_at "rd"
    exact rd_sp1 ⟨t, ht, q0⟩
  rw [if_neg h4] at q0
  walk_at "rd"
  have hv : valV (cnt sz) (.inr k) = some (.int (sizeOf' sz k)) := by
    simp only [kinds, List.mem_cons, List.not_mem_nil, or_false] at hk
    rcases hk with rfl | rfl | rfl | rfl | rfl | rfl | rfl
    · exact absurd rfl h2
    · exact absurd rfl h4
    · rfl
    · exact absurd rfl h1
    · exact absurd rfl h3
    · rfl
    · rfl
  refine rd_dgetK hd hv ?_
  walk_at "rd"
  exact rd_sp2 ⟨t, _, ht, rfl, q0⟩
theorem k_rw0 (T : Tx K w mg) (c__has_form : Cal P w K mg base "_has_form" 1 p_has_form (spForm K)) : Cal P w K mg base "_is_rule_within" 2 p_is_rule_within (spRW K 0) := by
  have c__is_part : Cal P w K mg base "_is_part" 1 p_is_part spNo := cal_no T.F__is_part sc_is_part b_is_part
  refine cal3 T.F__is_rule_within sc_is_rule_within b_is_rule_within rfl fun g cdv A outer s H a b c Q E hr h => ?_
  obtain ⟨t, d, sz, ht, rfl, hd, rfl, q⟩ := h
  obtain ⟨dP, h_PARTS, tP⟩ := T.g_PARTS
  refine ⟨_, (pss_cons (ps_if (PW.pt (pw_or (pt_cmpR (op_eqA hr) (pv 2) pe_int (nomark _)) (pw_or1 (pt_not (pt_tru (pe_cal c__has_form (hr.mono (by omega)) (pa_cons (pv 0) pa_nil))))))) (pss_one (ps_ret pe_bl)) pss_nil) (pss_cons (ps_for PassesOwn.never rfl (RZ.pi_zipA (by rfl) T.m_zip (pa_cons (pe_slice sl_any (pv 0) (po_some pe_int) po_none) (pa_cons (pe_ix ix_kdict (pe_gtab h_PARTS) (pe_ix ix_seq (pv 0) pe_int (fun _ _ => rfl)) (fun _ _ => rfl)) pa_nil))) (pg_tup (n := 2) rfl (pgs_cons (pg_name (i := 3) (sc_is_rule_within).nd rfl (by first | exact Or.inl rfl | exact Or.inr rfl)) (pgs_cons (pg_name (i := 4) (sc_is_rule_within).nd rfl (by first | exact Or.inl rfl | exact Or.inr rfl)) pgs_nil))) (pss_one (ps_if (pt_not (pt_tru (pe_cal c__is_part (hr.mono (by omega)) (pa_cons (pv 3) (pa_cons (pv 4) (pa_cons (pv 1) (pa_cons (pv 2) pa_nil))))))) (pss_one (ps_ret pe_bl)) pss_nil))) (pss_one (ps_ret pe_bl)))), ?_⟩
  rw [t_is_rule_within]
  try dsimp only [cxOf, Cx.nox, Cx.wish]
  walk_at "rd"
  exact q _ (Evl.Ex.refl _)
theorem k_rw {n m : Nat} (T : Tx K w mg) (c__has_form : Cal P w K mg base "_has_form" 1 p_has_form (spForm K)) (c__is_part : Cal P w K mg base "_is_part" m p_is_part (spPart K n)) (hm : 1 ≤ m) : Cal P w K mg base "_is_rule_within" (m + 1) p_is_rule_within (spRW K (n + 1)) := by
  refine cal3 T.F__is_rule_within sc_is_rule_within b_is_rule_within rfl fun g cdv A outer s H a b c Q E hr h => ?_
  obtain ⟨t, d, sz, ht, rfl, hd, rfl, q⟩ := h
  obtain ⟨dP, h_PARTS, tP⟩ := T.g_PARTS
  refine ⟨_, (pss_cons (ps_if (PW.pt (pw_or (pt_cmpR (op_eqA hr) (pv 2) pe_int (nomark _)) (pw_or1 (pt_not (pt_tru (pe_cal c__has_form (hr.mono (by omega)) (pa_cons (pv 0) pa_nil))))))) (pss_one (ps_ret pe_bl)) pss_nil) (pss_cons (ps_for PassesOwn.never rfl (RZ.pi_zipA (by rfl) T.m_zip (pa_cons (pe_slice sl_any (pv 0) (po_some pe_int) po_none) (pa_cons (pe_ix ix_kdict (pe_gtab h_PARTS) (pe_ix ix_seq (pv 0) pe_int (fun _ _ => rfl)) (fun _ _ => rfl)) pa_nil))) (pg_tup (n := 2) rfl (pgs_cons (pg_name (i := 3) (sc_is_rule_within).nd rfl (by first | exact Or.inl rfl | exact Or.inr rfl)) (pgs_cons (pg_name (i := 4) (sc_is_rule_within).nd rfl (by first | exact Or.inl rfl | exact Or.inr rfl)) pgs_nil))) (pss_one (ps_if (pt_not (pt_tru (pe_cal c__is_part (hr.mono (by omega)) (pa_cons (pv 3) (pa_cons (pv 4) (pa_cons (pv 1) (pa_cons (pv 2) pa_nil))))))) (pss_one (ps_ret pe_bl)) pss_nil))) (pss_one (ps_ret pe_bl)))), ?_⟩
  rw [t_is_rule_within]
  try dsimp only [cxOf, Cx.nox, Cx.wish]
  walk_at "rd"
  refine rd_sp1 ⟨t, ht, ?_⟩
  walk_at "rd"
  cases hf : hasForm t with
  | false =>
    walk_at "rd"
    rw [isRule_noform sz n hf] at q
    exact q _ (Evl.Ex.refl _)
  | true =>
    walk_at "rd"
    obtain ⟨x, ts, ks, rfl, e, hl⟩ := form_of hf
    rw [isRule_form sz n e hl] at q
    obtain ⟨p, xs, rfl, hs, ha⟩ := ht.tupE
    have hix : ∀ H2, Ex H H2 → Tv K H2 (.ref p) (.tup (.str x :: ts)) := fun H2 e2 => tv_ex ht e2
    refine rd_slT hs fun r H1 e1 hr1 => ?_
    rw [cutV_tail] at hr1
    walk_at "rd"
    refine rd_ixD (n := 0) (hix H1 e1) rfl rfl fun v hv => ?_
    cases hv
    walk_at "rd"
    refine rd_ixTab tP e fun r2 hr2 => ?_
    walk_at "rd"
    refine rd_fzT hr1 hr2 ?_
    have ha' : TvA K H (xs.drop 1) ts := ha.drop 1
    have lx : (xs.drop 1).length = ts.length := ha'.len
    refine forW_Z (xs.drop 1) (ks.map V.str) (n := ts.length) (by rw [List.length_map, lx]; omega) (fun i σ H2 => (∃ y z, σ = [some (.ref p), some (.ref d), some (.int ((n + 1 : Nat) : Int)), y, z]) ∧ Ex H1 H2 ∧ zipOk (partOk (isRule sz n) sz) ts ks = zipOk (partOk (isRule sz n) sz) (ts.drop i) (ks.drop i)) ?_ ?_ ?_ ?_
    · exact ⟨⟨_, _, rfl⟩, Evl.Ex.refl _, rfl⟩
    · rintro i σ H2 hi ⟨_, e2, _⟩
      exact ⟨sqt_ex hr1 e2, sqt_ex hr2 e2⟩
    · rintro i y z c σ H2 H3 hi ⟨⟨y0, z0, rfl⟩, e2, hz⟩ hy hzz hc e3 hcT
      have a3 : TvA K H3 (xs.drop 1) ts := tva_ex (tva_ex (tva_ex ha' e1) e2) e3
      obtain ⟨ty, hty, vy⟩ := a3.getV hy
      rw [List.getElem?_map] at hzz
      cases ek : ks[i]? with
      | none => rw [ek] at hzz; cases hzz
      | some k =>
        rw [ek] at hzz
        cases (Option.some.inj hzz)
        refine rd_gtup (SqT.of hcT) rfl ?_
        walk_at "rd"
        have EE : Ex H H3 := by walk_at "exx"
        refine rd_sp4 ⟨ty, k, d, sz, vy, rfl, kinds_of e k (List.mem_of_getElem? ek), rfl, dK_ex hd EE, rfl, fun H4 e4 => ?_⟩
        have e5 := zipOk_drop (partOk (isRule sz n) sz) ts ks i ty k hty ek
        walk_at "rd"
        cases hp : partOk (isRule sz n) sz k ty with
        | true =>
          walk_at "rd"
          refine ⟨⟨_, _, rfl⟩, (e2.trans e3).trans e4, ?_⟩
          rw [hz, e5, hp, Bool.true_and]
        | false =>
          walk_at "rd"
          rw [hz, e5, hp, Bool.false_and] at q
          exact q _ (EE.trans e4)
    · rintro σ H2 ⟨_, e2, hz⟩
      walk_at "rd"
      rw [hz, zipOk_end _ _ _ _ (by omega)] at q
      exact q _ (e1.trans e2)
theorem k_rwn (T : Tx K w mg) (c__has_form : Cal P w K mg base "_has_form" 1 p_has_form (spForm K)) (c_is_number : Cal P w K mg base "is_number" 3 pis_number (spNum K)) (c_is_percent : Cal P w K mg base "is_percent" 3 pis_percent (spPct K))
    (c_is_word : Cal P w K mg base "is_word" 1 pis_word (spWord K)) (c_is_place : Cal P w K mg base "is_place" 3 pis_place (spPlace K)) : ∀ n : Nat, Cal P w K mg base "_is_rule_within" (3 + 2 * n) p_is_rule_within (spRW K n)
  | 0 => (k_rw0 T c__has_form).mono (by omega)
  | n + 1 => (k_rw T c__has_form (k__is_part T (k_rwn T c__has_form c_is_number c_is_percent c_is_word c_is_place n) (by omega) c_is_number c_is_percent c_is_word c_is_place) (by omega)).mono (by omega)
def spIsRule (K : PySem.W.Frag) : Sp := sp4 fun a b c d H Q => ∃ t sz, Tv K H a t ∧ b = .int sz.l ∧ c = .int sz.tb ∧ d = .int sz.ch ∧ ∀ H', Ex H H' → Q (.bl (isRule sz 8 t)) H'
theorem k_is_rule (T : Tx K w mg) (c__is_rule_within : Cal P w K mg base "_is_rule_within" 19 p_is_rule_within (spRW K 8)) : Cal P w K mg base "is_rule" 20 pis_rule (spIsRule K) := by
  refine cal4 T.F_is_rule scis_rule bis_rule rfl fun g cdv A outer s H a b c d Q E hr h => ?_
  obtain ⟨t, sz, ht, rfl, rfl, rfl, q⟩ := h
  refine ⟨_, (pss_cons (ps_set (i := 4) (scis_rule).nd rfl (by first | exact Or.inl rfl | exact Or.inr rfl) (pe_disp (pps_cons pe_str (pv 1) (pps_cons pe_str (pv 2) (pps_cons pe_str (pv 3) pps_nil))) (by rfl) (by rfl) (fun z => by cases z) (by decide))) (pss_one (ps_ret (pe_cal c__is_rule_within (hr.mono (by omega)) (pa_cons (pv 0) (pa_cons (pv 4) (pa_cons (pe_gint T.g_DEEPEST) pa_nil))))))), ?_⟩
  rw [tis_rule]
  try dsimp only [cxOf, Cx.nox, Cx.wish]
  walk_at "rd"
  refine rd_disp fun p hp => ?_
  refine rd_pcons ?_
  walk_at "rd"
  refine rd_pcons ?_
  walk_at "rd"
  refine rd_pcons ?_
  walk_at "rd"
  refine rd_pnil ⟨upd_same, cnt sz, rfl, by show 3 ≤ 15; decide, ?_⟩
  have e : mergeK [] (cnt sz) = cnt sz := rfl
  rw [e]
  generalize eH : upd (upd H p (.dK [])) p (.dK (cnt sz)) = H1
  have h1 : H1 p = some (.dK (cnt sz)) := by rw [← eH]; exact upd_same
  have E1 : Ex H H1 := by
    intro b o hb
    have ne : b ≠ p := by rintro rfl; rw [hp] at hb; cases hb
    rw [← eH, upd_ne ne, upd_ne ne]
    exact hb
  walk_at "rd"
  exact rd_sp3 ⟨t, p, sz, tv_ex ht E1, rfl, h1, rfl, fun H' e => q H' (E1.trans e)⟩
end
end KF
open PySem PySem.Spec PyProof.Rows L2 Qa Qr


namespace KF
section
variable {P : Program} {w : World} {K : PySem.W.Frag} {mg : Str → Option Value} {base : Heap} {H : Hp} {Q : VK} {E : XK}
def spNumb (K : PySem.W.Frag) : Sp := sp1 fun a H Q => ∃ l, a = .ref l ∧ (∃ s, H l = some (.lst [.int s])) ∧ ∀ r H', -1000000000 ≤ r → r ≤ 1000000000 → St1 l H H' → Q (.int r) H'
theorem k__law_number (T : Tx K w mg) (c__law_next : Cal P w K mg base "_law_next" 1 p_law_next (spNext K)) : Cal P w K mg base "_law_number" 2 p_law_number (spNumb K) := by
  refine cal1 T.F__law_number sc_law_number b_law_number rfl fun g cdv A outer s H a Q E hr h => ?_
  obtain ⟨l, rfl, hl, q⟩ := h
  refine ⟨_, (pss_cons (ps_set (i := 1) (sc_law_number).nd rfl (by first | exact Or.inl rfl | exact Or.inr rfl) (pe_cal c__law_next (hr.mono (by omega)) (pa_cons (pv 0) (pa_cons pe_int pa_nil)))) (pss_cons (ps_if (pt_cmpR (op_eqA hr) (pv 1) pe_int (nomark _)) (pss_one (ps_ret (pe_ix ix_seq (pe_lst (pa_cons (pe_un un_neg (pe_op op_pow pe_int pe_int)) (pa_cons (pe_op op_pow pe_int pe_int) (pa_cons (pe_op op_sub (pe_op op_pow pe_int pe_int) pe_int) (pa_cons (pe_op op_sub pe_int (pe_op op_pow pe_int pe_int)) pa_nil))))) (pe_cal c__law_next (hr.mono (by omega)) (pa_cons (pv 0) (pa_cons pe_int pa_nil))) (fun _ _ => rfl)))) pss_nil) (pss_cons (ps_if (pt_cmpR (op_eqA hr) (pv 1) pe_int (nomark _)) (pss_one (ps_ret (pe_op op_sub (pe_cal c__law_next (hr.mono (by omega)) (pa_cons (pv 0) (pa_cons pe_int pa_nil))) pe_int))) pss_nil) (pss_one (ps_ret (pe_op op_sub (pe_cal c__law_next (hr.mono (by omega)) (pa_cons (pv 0) (pa_cons pe_int pa_nil))) pe_int)))))), ?_⟩
  rw [t_law_number]
  try dsimp only [cxOf, Cx.nox, Cx.wish]
  walk_at "rd"
  refine nx hl (by decide) fun r1 H1 a1 b1 S1 => ?_
  walk_at "rd"
  refine rd_ite (fun h1 => ?_) (fun h1 => ?_)
  · walk_at "rd"
    refine new_lst fun p H2 hp E2 h2 => ?_
    walk_at "rd"
    refine nx (by walk_at "sta") (by decide) fun r3 H3 a3 b3 S3 => ?_
    walk_at "rd"
    have hp3 : H3 p = _ := S3.fr p _ (ne_st S1.st hp) h2
    refine rd_ixLm (.of hp3) a3 (by simpa using b3) fun v hv => ?_
    have S : St1 l H H3 := (S1.trans (.ex S1.st E2)).trans S3
    simp only [List.mem_cons, List.not_mem_nil, or_false] at hv
    rcases hv with rfl | rfl | rfl | rfl <;> exact q _ _ (by decide) (by decide) S
  · walk_at "rd"
    refine rd_ite (fun h2 => ?_) (fun h2 => ?_)
    · walk_at "rd"
      refine nx S1.st (by decide) fun r2 H2 a2 b2 S2 => ?_
      walk_at "rd"
      exact q _ _ (by omega) (by omega) (S1.trans S2)
    · walk_at "rd"
      refine nx S1.st (by decide) fun r2 H2 a2 b2 S2 => ?_
      walk_at "rd"
      exact q _ _ (by omega) (by omega) (S1.trans S2)
def spTable (K : PySem.W.Frag) : Sp := sp1 fun a H Q => ∃ l, a = .ref l ∧ (∃ s, H l = some (.lst [.int s])) ∧ ∀ v rows H', GoodTab rows → Tv K H' v (.tup (rows.map rowT)) → St1 l H H' → Q v H'
theorem k__law_table (T : Tx K w mg) (c__law_next : Cal P w K mg base "_law_next" 1 p_law_next (spNext K)) (c__law_number : Cal P w K mg base "_law_number" 2 p_law_number (spNumb K)) : Cal P w K mg base "_law_table" 3 p_law_table (spTable K) := by
  refine cal1 T.F__law_table sc_law_table b_law_table rfl fun g cdv A outer s H a Q E hr h => ?_
  obtain ⟨l, rfl, hl, q⟩ := h
  refine ⟨_, (pss_cons (ps_set (i := 1) (sc_law_table).nd rfl (by first | exact Or.inl rfl | exact Or.inr rfl) (pe_op op_addA pe_int (pe_cal c__law_next (hr.mono (by omega)) (pa_cons (pv 0) (pa_cons pe_int pa_nil))))) (Evl.pss_cut (ps_if (pt_cmpR (op_eqA hr) (pe_cal c__law_next (hr.mono (by omega)) (pa_cons (pv 0) (pa_cons pe_int pa_nil))) pe_int (nomark _)) (pss_one (ps_set (i := 1) (sc_law_table).nd rfl (by first | exact Or.inl rfl | exact Or.inr rfl) (pe_op op_addA pe_int (pe_cal c__law_next (hr.mono (by omega)) (pa_cons (pv 0) (pa_cons pe_int pa_nil)))))) pss_nil) (pss_cons (ps_set (i := 2) (sc_law_table).nd rfl (by first | exact Or.inl rfl | exact Or.inr rfl) (pe_ix ix_seq (pe_lst (pa_cons (pe_un un_neg (pe_op op_pow pe_int pe_int)) (pa_cons (pe_op op_sub (pe_cal c__law_next (hr.mono (by omega)) (pa_cons (pv 0) (pa_cons pe_int pa_nil))) pe_int) (pa_cons (pe_op op_sub (pe_op op_pow pe_int pe_int) (pe_op op_mul pe_int (pv 1))) pa_nil)))) (pe_op op_fdiv (pe_cal c__law_next (hr.mono (by omega)) (pa_cons (pv 0) (pa_cons pe_int pa_nil))) pe_int) (fun _ _ => rfl))) (pss_cons (ps_set (i := 3) (sc_law_table).nd rfl (by first | exact Or.inl rfl | exact Or.inr rfl) (pe_lst pa_nil)) (pss_cons (ps_for PassesOwn.never rfl (pi_range1 (by rfl) T.m_range (pa_cons (pv 1) pa_nil)) (pg_name (i := 4) (sc_law_table).nd rfl (by first | exact Or.inl rfl | exact Or.inr rfl)) (pss_cons (ps_set (i := 5) (sc_law_table).nd rfl (by first | exact Or.inl rfl | exact Or.inr rfl) (pe_ix ix_seq (pe_lst (pa_cons pe_int (pa_cons pe_int (pa_cons (pe_cal c__law_next (hr.mono (by omega)) (pa_cons (pv 0) (pa_cons pe_int pa_nil))) pa_nil)))) (pe_cal c__law_next (hr.mono (by omega)) (pa_cons (pv 0) (pa_cons pe_int pa_nil))) (fun _ _ => rfl))) (pss_cons (ps_expr (pe_bm PySem.F.plainAttrs_list PySem.F.slot_list_append PySem.F.type_list_append mt_append (pv 3) (pa_cons (pe_tup (pa_cons (pv 2) (pa_cons (pe_cal c__law_number (hr.mono (by omega)) (pa_cons (pv 0) pa_nil)) (pa_cons (pv 5) pa_nil)))) pa_nil))) (pss_one (ps_set (i := 2) (sc_law_table).nd rfl (by first | exact Or.inl rfl | exact Or.inr rfl) (pe_op op_addA (pe_op op_addA (pv 2) pe_int) (pe_ix ix_seq (pe_lst (pa_cons (pe_cal c__law_next (hr.mono (by omega)) (pa_cons (pv 0) (pa_cons pe_int pa_nil))) (pa_cons (pe_cal c__law_next (hr.mono (by omega)) (pa_cons (pv 0) (pa_cons pe_int pa_nil))) pa_nil))) (pe_cal c__law_next (hr.mono (by omega)) (pa_cons (pv 0) (pa_cons pe_int pa_nil))) (fun _ _ => rfl)))))))) (pss_one (ps_ret (pe_callTy cr_tupOf (by rfl) T.m_tuple (by decide +kernel) (pa_cons (pv 3) pa_nil))))))))), ?_⟩
  rw [t_law_table]
  try dsimp only [cxOf, Cx.nox, Cx.wish]
  walk_at "rd"
  refine nx hl (by decide) fun r1 H1 a1 b1 S1 => ?_
  walk_at "rd"
  refine rd_cut (fun σ H' => ∃ m, σ = [some (.ref l), some (.int m), none, none, none, none] ∧ 1 ≤ m ∧ m ≤ 20 ∧ St1 l H H') ?_ ?_
  · walk_at "rd"
    refine nx S1.st (by decide) fun r2 H2 a2 b2 S2 => ?_
    walk_at "rd"
    refine rd_ite (fun h1 => ?_) (fun h1 => ?_)
    · walk_at "rd"
      refine nx S2.st (by decide) fun r3 H3 a3 b3 S3 => ?_
      walk_at "rd"
      exact ⟨_, rfl, by omega, by omega, (S1.trans S2).trans S3⟩
    · walk_at "rd"
      exact ⟨_, rfl, by omega, by omega, S1.trans S2⟩
  rintro σ H4 ⟨m, rfl, m0, m1, S4⟩
  walk_at "rd"
  refine nx S4.st (by decide) fun r5 H5 a5 b5 S5 => ?_
  walk_at "rd"
  refine new_lst fun p H6 hp E6 h6 => ?_
  walk_at "rd"
  refine nx (by walk_at "sta") (by decide) fun r7 H7 a7 b7 S7 => ?_
  walk_at "rd"
  have h7 : H7 p = _ := S7.fr p _ (ne_st S5.st hp) h6
  refine rd_ixLm (.of h7) (by omega) (by simp; omega) fun v hv => ?_
  obtain ⟨z, rfl, z0, z1⟩ : ∃ z : Int, v = .int z ∧ -1000000000 ≤ z ∧ z + 20000 * m ≤ 1000000000 := by
    simp only [List.mem_cons, List.not_mem_nil, or_false] at hv
    rcases hv with rfl | rfl | rfl
    · exact ⟨_, rfl, by omega, by omega⟩
    · exact ⟨_, rfl, by omega, by omega⟩
    · exact ⟨_, rfl, by omega, by omega⟩
  have S : St1 l H H7 := ((S4.trans S5).trans (.ex S5.st E6)).trans S7
  walk_at "rd"
  refine new_lst fun o H8 ho E8 h8 => ?_
  walk_at "rd"
  have hne : o ≠ l := ne_st S.st ho
  refine forW_R (fun i σ H' => ∃ rows st y w, σ = [some (.ref l), some (.int m), some (.int st), some (.ref o), y, w] ∧ Drawn K H' o rows i st z ∧ St1 l H H') ?_ ?_ ?_
  · exact ⟨[], _, _, _, rfl, ⟨⟨_, h8, .nil⟩, rfl, by simp, trivial, by simp, z0, by simp⟩, S.trans (.ex S.st E8)⟩
  · rintro i σ H9 hi ⟨rows, st, y, w, rfl, D, S9⟩
    obtain ⟨vs, ho9, hvs⟩ := D.at_
    have hi' : (i : Int) < m := by omega
    walk_at "rd"
    refine nx S9.st (by decide) fun r1 H10 a10 b10 S10 => ?_
    walk_at "rd"
    refine new_lst fun c H11 hc E11 h11 => ?_
    walk_at "rd"
    refine nx (by walk_at "sta") (by decide) fun r2 H12 a12 b12 S12 => ?_
    walk_at "rd"
    have h12 : H12 c = _ := S12.fr c _ (ne_st S10.st hc) h11
    refine rd_ixLm (.of h12) (by omega) (by simp; omega) fun v hv => ?_
    obtain ⟨pc, rfl, pc0, pc1⟩ : ∃ z : Int, v = .int z ∧ 0 ≤ z ∧ z ≤ 100 := by
      simp only [List.mem_cons, List.not_mem_nil, or_false] at hv
      rcases hv with rfl | rfl | rfl
      · exact ⟨_, rfl, by omega, by omega⟩
      · exact ⟨_, rfl, by omega, by omega⟩
      · exact ⟨_, rfl, by omega, by omega⟩
    clear hv
    have T12 : St1 l H9 H12 := (S10.trans (.ex S10.st E11)).trans S12
    have ho12 : H12 o = some (.lst vs) := T12.fr o _ hne ho9
    walk_at "rd"
    refine rd_sp1 ⟨l, rfl, T12.st, fun pl H13 p0 p1 S13 => ?_⟩
    walk_at "rd"
    refine new_tup fun t H14 ht E14 h14 => ?_
    walk_at "rd"
    have T14 : St1 l H9 H14 := (T12.trans S13).trans (.ex S13.st E14)
    have ho14 : H14 o = some (.lst vs) := T14.fr o _ hne ho9
    have lvs : vs.length = i := by rw [hvs.len, List.length_map, D.len]
    refine rd_append ho14 (by omega) ?_
    generalize eH : upd H14 o (.lst (vs ++ [.ref t])) = H15
    have T15 : Tame H14 H15 := by rw [← eH]; exact Tame.upd ho14
    have ho15 : H15 o = some (.lst (vs ++ [.ref t])) := by rw [← eH]; exact upd_same
    have hl15 : ∃ s, H15 l = some (.lst [.int s]) := by
      obtain ⟨s, hs⟩ := T14.st
      exact ⟨s, by rw [← eH, upd_ne (Ne.symm hne)]; exact hs⟩
    walk_at "rd"
    refine nx hl15 (by decide) fun r4 H16 a16 b16 S16 => ?_
    walk_at "rd"
    refine nx S16.st (by decide) fun r5 H17 a17 b17 S17 => ?_
    walk_at "rd"
    refine new_lst fun d H18 hd E18 h18 => ?_
    walk_at "rd"
    refine nx (by walk_at "sta") (by decide) fun r6 H19 a19 b19 S19 => ?_
    walk_at "rd"
    have h19 : H19 d = _ := S19.fr d _ (ne_st S17.st hd) h18
    refine rd_ixLm (.of h19) (by omega) (by simp; omega) fun v hv => ?_
    obtain ⟨up, rfl, up0, up1⟩ : ∃ z : Int, v = .int z ∧ 0 ≤ z ∧ z ≤ 19999 := by
      simp only [List.mem_cons, List.not_mem_nil, or_false] at hv
      rcases hv with rfl | rfl
      · exact ⟨_, rfl, by omega, by omega⟩
      · exact ⟨_, rfl, by omega, by omega⟩
    clear hv
    walk_at "rd"
    have T19 : St1 l H15 H19 := (((S16.trans S17).trans (.ex S17.st E18)).trans S19)
    have hrow : Tv K H15 (.ref t) (rowT ⟨st, pl, pc⟩) := .tup (SqT.of (by rw [← eH, upd_ne (by rintro rfl; rw [h14] at ho14; cases ho14)]; exact h14)) (.cons (.int _) (.cons (.int _) (.cons (.int _) .nil)))
    refine ⟨rows ++ [⟨st, pl, pc⟩], _, _, _, rfl, ⟨⟨_, T19.fr o _ hne ho15, ?_⟩, by rw [List.length_append, D.len]; rfl, ?_, riseR_snoc _ _ D.rise D.low, ?_, by have := D.s0; omega, by have := D.s1; omega⟩, ?_⟩
    · rw [List.map_append]
      exact T19.tame.tvA ((T15.tvA (T14.tame.tvA hvs)).append (.one hrow))
    · intro r hr
      rcases List.mem_append.mp hr with hr | hr
      · exact D.good r hr
      · cases List.mem_singleton.mp hr
        have := D.s0
        have := D.s1
        exact ⟨by show -1000000000 ≤ st; omega, by show st ≤ 1000000000; omega, p0, p1, pc0, pc1⟩
    · intro r hr
      rcases List.mem_append.mp hr with hr | hr
      · have := D.low r hr
        omega
      · cases List.mem_singleton.mp hr
        show st < _
        omega
    · have T : St1 l H H15 := by
        rw [← eH]
        exact (S9.trans T14).upd (S.free ho) ho14 hne
      exact T.trans T19
  · rintro σ H9 ⟨rows, st, y, w, rfl, D, S9⟩
    obtain ⟨vs, ho9, hvs⟩ := D.at_
    walk_at "rd"
    refine rd_tupOfL (.of ho9) fun t H10 ht E10 h10 => ?_
    refine q _ rows _ ⟨by have := D.len; omega, D.good, D.rise⟩ (.tup (SqT.of h10) ((Tame.ex E10).tvA hvs)) (S9.trans (.ex S9.st E10))
structure Words (K : PySem.W.Frag) (H : Hp) (p : Addr) (ws : List Str) : Prop where
  at_ : H p = some (.lst (ws.map V.str))
  one : 1 ≤ ws.length
  few : ws.length ≤ 100
  good : ∀ z ∈ ws, isWord (.str z) = true
theorem word_len {z : Str} (h : isWord (.str z) = true) : 1 ≤ z.length ∧ z.length ≤ 8 := by
  rw [isWord_str, Bool.and_eq_true, Bool.and_eq_true, decide_eq_true_iff, decide_eq_true_iff] at h
  exact h.1
def spWords (K : PySem.W.Frag) : Sp := sp1 fun a H Q => ∃ l, a = .ref l ∧ (∃ s, H l = some (.lst [.int s])) ∧ ∀ p ws H', Words K H' p ws → p ≠ l → H p = none → St1 l H H' → Q (.ref p) H'

theorem k__law_words (T : Tx K w mg) (c__law_next : Cal P w K mg base "_law_next" 1 p_law_next (spNext K)) : Cal P w K mg base "_law_words" 2 p_law_words (spWords K) := by
  refine cal1 T.F__law_words sc_law_words b_law_words rfl fun g cdv A outer s H a Q E hr h => ?_
  obtain ⟨l, rfl, hl, q⟩ := h
  refine ⟨_, (pss_cons (ps_set (i := 1) (sc_law_words).nd rfl (by first | exact Or.inl rfl | exact Or.inr rfl) pe_str) (pss_cons (ps_set (i := 2) (sc_law_words).nd rfl (by first | exact Or.inl rfl | exact Or.inr rfl) pe_str) (pss_cons (ps_for PassesOwn.never rfl (pi_range1 (by rfl) T.m_range (pa_cons pe_int pa_nil)) (pg_name (i := 3) (sc_law_words).nd rfl (by first | exact Or.inl rfl | exact Or.inr rfl)) (pss_one (ps_set (i := 2) (sc_law_words).nd rfl (by first | exact Or.inl rfl | exact Or.inr rfl) (pe_op op_addA (pv 2) (pe_ix ix_seq (pv 1) (pe_cal c__law_next (hr.mono (by omega)) (pa_cons (pv 0) (pa_cons pe_int pa_nil))) (fun _ _ => rfl)))))) (pss_cons (ps_set (i := 4) (sc_law_words).nd rfl (by first | exact Or.inl rfl | exact Or.inr rfl) (pe_lst (pa_cons (pe_slice sl_any (pv 2) po_none (po_some (pe_op op_addA pe_int (pe_cal c__law_next (hr.mono (by omega)) (pa_cons (pv 0) (pa_cons pe_int pa_nil)))))) (pa_cons (pv 2) pa_nil)))) (pss_cons (ps_for PassesOwn.never rfl (pi_range1 (by rfl) T.m_range (pa_cons pe_int pa_nil)) (pg_name (i := 3) (sc_law_words).nd rfl (by first | exact Or.inl rfl | exact Or.inr rfl)) (pss_cons (ps_set (i := 5) (sc_law_words).nd rfl (by first | exact Or.inl rfl | exact Or.inr rfl) (pe_cal c__law_next (hr.mono (by omega)) (pa_cons (pv 0) (pa_cons pe_int pa_nil)))) (pss_one (ps_expr (pe_bm PySem.F.plainAttrs_list PySem.F.slot_list_append PySem.F.type_list_append mt_append (pv 4) (pa_cons (pe_op op_addA (pe_op op_addA (pe_slice sl_any (pv 2) po_none (po_some (pv 5))) (pe_ix ix_seq (pv 1) (pe_cal c__law_next (hr.mono (by omega)) (pa_cons (pv 0) (pa_cons pe_int pa_nil))) (fun _ _ => rfl))) (pe_slice sl_any (pv 2) (po_some (pe_op op_addA (pv 5) pe_int)) (po_some (pe_op op_addA (pe_op op_addA pe_int (pv 5)) (pe_cal c__law_next (hr.mono (by omega)) (pa_cons (pv 0) (pa_cons pe_int pa_nil))))))) pa_nil)))))) (pss_one (ps_ret (pe_op op_addA (pv 4) (pe_slice sl_any (pe_lst (pa_cons pe_str (pa_cons pe_str (pa_cons pe_str pa_nil)))) po_none (po_some (pe_cal c__law_next (hr.mono (by omega)) (pa_cons (pv 0) (pa_cons pe_int pa_nil))))))))))))), ?_⟩
  rw [t_law_words]
  try dsimp only [cxOf, Cx.nox, Cx.wish]
  walk_at "rd"
  refine forW_R (fun i σ H' => ∃ b y, σ = [some (.ref l), some (.str letters), some (.str b), y, none, none] ∧ b.length = i ∧ lets b ∧ St1 l H H') ?_ ?_ ?_
  · exact ⟨_, _, rfl, rfl, (fun c hc => by cases hc), .refl hl⟩
  · rintro i σ H1 hi ⟨b, y, rfl, hb, lb, S1⟩
    walk_at "rd"
    refine nx S1.st (by decide) fun r2 H2 a2 b2 S2 => ?_
    walk_at "rd"
    refine rd_ixLet (z := letters) (by decide) lets_letters a2 (by show r2 < (26 : Int); exact b2) fun c hc lc => ?_
    walk_at "rd"
    have hi8 : i < 8 := hi
    refine rd_addS (by omega) ?_
    walk_at "rd"
    exact ⟨_, _, rfl, by rw [str_app_len]; omega, lets_app lb lc, S1.trans S2⟩
  rintro σ H1 ⟨b, y, rfl, hb, lb, S1⟩
  have hb8 : b.length = 8 := hb
  walk_at "rd"
  refine nx S1.st (by decide) fun r2 H2 a2 b2 S2 => ?_
  walk_at "rd"
  refine rd_slS (by omega) ?_
  have hb2 := cut_to b (1 + r2) (by omega)
  have lb2 := lets_cut lb none (some (1 + r2))
  generalize cutS b none (some (1 + r2)) = w2 at hb2 lb2
  have wb2 : isWord (.str w2) = true := word_of (by omega) (by omega) lb2
  have wb : isWord (.str b) = true := word_of (by omega) (by omega) lb
  walk_at "rd"
  refine new_lst fun o H3 ho E3 h3 => ?_
  walk_at "rd"
  have S3 : St1 l H H3 := (S1.trans S2).trans (.ex S2.st E3)
  have hne : o ≠ l := ne_st S2.st ho
  have hoH : H o = none := (S1.trans S2).free ho
  refine forW_R (fun i σ H' => ∃ (ws : List Str) (y z : Option V), σ = [some (.ref l), some (.str letters), some (.str b), y, some (.ref o), z] ∧ H' o = some (.lst (ws.map V.str)) ∧ ws.length = 2 + i ∧ (∀ t ∈ ws, isWord (.str t) = true) ∧ St1 l H H') ?_ ?_ ?_
  · exact ⟨[w2, b], _, _, rfl, h3, rfl, by
      intro z hz
      simp only [List.mem_cons, List.not_mem_nil, or_false] at hz
      rcases hz with rfl | rfl <;> assumption, S3⟩
  · rintro i σ H4 hi ⟨ws, y, z, rfl, h4, hw, hs, S4⟩
    have hi3 : i < 3 := hi
    walk_at "rd"
    refine nx S4.st (by decide) fun r5 H5 a5 b5 S5 => ?_
    walk_at "rd"
    refine rd_slS (by omega) ?_
    have hu1 := cut_to b r5 a5
    have lu1 := lets_cut lb none (some r5)
    generalize cutS b none (some r5) = u1 at hu1 lu1
    walk_at "rd"
    refine nx S5.st (by decide) fun r6 H6 a6 b6 S6 => ?_
    walk_at "rd"
    refine rd_ixLet (z := letters) (by decide) lets_letters a6 (by show r6 < (26 : Int); exact b6) fun c hc lc => ?_
    walk_at "rd"
    refine rd_addS (by omega) ?_
    walk_at "rd"
    refine nx S6.st (by decide) fun r7 H7 a7 b7 S7 => ?_
    walk_at "rd"
    refine rd_slS (by omega) ?_
    have hu3 := cut_from_le b (r5 + 1) (some (1 + r5 + r7)) (by omega)
    have lu3 := lets_cut lb (some (r5 + 1)) (some (1 + r5 + r7))
    generalize cutS b (some (r5 + 1)) (some (1 + r5 + r7)) = u3 at hu3 lu3
    walk_at "rd"
    have l12 := str_app_len u1 c
    refine rd_addS (by omega) ?_
    walk_at "rd"
    have l4 := str_app_len (u1 ++ c) u3
    have w4 : isWord (.str (u1 ++ c ++ u3)) = true := word_of (by omega) (by omega) (lets_app (lets_app lu1 lc) lu3)
    generalize u1 ++ c ++ u3 = u4 at w4
    have S57 : St1 l H4 H7 := (S5.trans S6).trans S7
    have h7 : H7 o = some (.lst (ws.map V.str)) := lst_st h4 S57 hne
    refine rd_append h7 (by rw [List.length_map]; omega) ?_
    walk_at "rd"
    refine ⟨ws ++ [u4], _, _, rfl, by rw [upd_same, List.map_append]; rfl, by rw [List.length_append, hw]; rfl, ?_, (S4.trans S57).upd hoH h7 hne⟩
    intro z hz
    rcases List.mem_append.mp hz with hz | hz
    · exact hs z hz
    · cases List.mem_singleton.mp hz
      exact w4
  rintro σ H4 ⟨ws, y, z, rfl, h4, hw, hs, S4⟩
  have hw5 : ws.length = 5 := hw
  walk_at "rd"
  refine new_lst fun m H5 hm E5 h5 => ?_
  walk_at "rd"
  refine nx (by walk_at "sta") (by decide) fun r6 H6 a6 b6 S6 => ?_
  walk_at "rd"
  have S46 : St1 l H4 H6 := (St1.ex S4.st E5).trans S6
  refine rd_slL (.of (lst_st h5 S6 (ne_st S4.st hm))) fun m7 H7 hm7 E7 h7 => ?_
  obtain ⟨k, j, ek⟩ := cutV_map V.str (["line", "paper", "add"] : List Str) none (some r6)
  have ek' : cutV [V.str "line", V.str "paper", V.str "add"] none (some r6) = _ := ek
  rw [ek'] at h7
  have h47 : H7 o = some (.lst (ws.map V.str)) := lst_ex (lst_st h4 S46 hne) E7
  have lk : ((List.drop k (["line", "paper", "add"] : List Str)).take j).length ≤ 3 := by
    rw [List.length_take, List.length_drop]
    show min j (3 - k) ≤ 3
    omega
  refine rd_addL h47 h7 (by rw [List.length_map, List.length_map]; omega) fun p8 H8 hp8 E8 h8 => ?_
  have S8 : St1 l H H8 := (S4.trans S46).trans (.ex S46.st (E7.trans E8))
  refine q p8 (ws ++ (List.drop k (["line", "paper", "add"] : List Str)).take j) H8 ⟨by rw [h8, List.map_append], by rw [List.length_append]; omega, by rw [List.length_append]; omega, ?_⟩ ?_ ?_ S8
  · intro z hz
    rcases List.mem_append.mp hz with hz | hz
    · exact hs z hz
    · have h9 := List.mem_of_mem_drop (List.mem_of_mem_take hz)
      simp only [List.mem_cons, List.not_mem_nil, or_false] at h9
      rcases h9 with rfl | rfl | rfl <;> decide +kernel
  · exact ne_st (sta_ex S46.st E7) hp8
  · exact (S4.trans S46).free (Qg.free_of E7 hp8)
structure Dr (K : PySem.W.Frag) (H : Hp) (l sn dz wd : Addr) (sz : Sz) (ns : List Int) : Prop where
  st : ∃ s, H l = some (.lst [.int s])
  seen : H sn = some (.lst (ns.map V.int))
  seenL : ns.length ≤ 100
  seenP : ∀ x ∈ ns, isPlace (.int x) sz.l = true
  seenN : sn ≠ l
  sizes : SqT K H dz [.int sz.l, .int sz.tb, .int sz.ch]
  words : ∃ ws, Words K H wd ws
  wordsN : wd ≠ l
  pos : 0 < sz.l
theorem Dr.mv {K : PySem.W.Frag} {H H' : Hp} {l seen dz wd : Addr} {sz : Sz} {ns : List Int} (e : Dr K H l seen dz wd sz ns) (S : St1 l H H') : Dr K H' l seen dz wd sz ns := by
  obtain ⟨ws, W⟩ := e.words
  exact ⟨S.st, lst_st e.seen S e.seenN, e.seenL, e.seenP, e.seenN, sqt_st e.sizes S, ⟨ws, lst_st W.at_ S e.wordsN, W.one, W.few, W.good⟩, e.wordsN, e.pos⟩
abbrev inS (ns : List Int) : Key → Prop := fun k => k ∈ ns.map Sum.inl
theorem place_i {i n : Int} (h : 0 ≤ i) (h' : i < n) : isPlace (.int i) n = true := by
  show (decide (0 ≤ i) && decide (i ≤ n - 1)) = true
  simp; omega
theorem num_i {i : Int} (h : -1000000000 ≤ i) (h' : i ≤ 1000000000) : isNum (.int i) = true := by
  show (decide ((-1000000000 : Int) ≤ i) && decide (i ≤ 1000000000)) = true
  simp; omega
theorem pct_i {i : Int} (h : 0 ≤ i) (h' : i ≤ 100) : isPct (.int i) = true := by
  show (decide ((0 : Int) ≤ i) && decide (i ≤ 100)) = true
  simp; omega
def spPlain (K : PySem.W.Frag) : Sp := sp4 fun a b c d H Q => ∃ l seen dz wd sz ns, a = .ref l ∧ b = .ref seen ∧ c = .ref dz ∧ d = .ref wd ∧ Dr K H l seen dz wd sz ns ∧ ∀ v t H', Tv K H' v t → RB sz 1 (inS ns) t → St1 l H H' → Q v H'

theorem k__law_plain (T : Tx K w mg) (c__law_next : Cal P w K mg base "_law_next" 1 p_law_next (spNext K)) (c__law_number : Cal P w K mg base "_law_number" 2 p_law_number (spNumb K)) : Cal P w K mg base "_law_plain" 3 p_law_plain (spPlain K) := by
  refine cal4 T.F__law_plain sc_law_plain b_law_plain rfl fun g cdv A outer s H a b c d Q E hr h => ?_
  obtain ⟨l, seen, dz, wd, sz, ns, rfl, rfl, rfl, rfl, En, q⟩ := h
  refine ⟨_, (pss_cons (ps_set (i := 4) (sc_law_plain).nd rfl (by first | exact Or.inl rfl | exact Or.inr rfl) (pe_cal c__law_next (hr.mono (by omega)) (pa_cons (pv 0) (pa_cons pe_int pa_nil)))) (pss_cons (ps_if (pt_cmpR (op_eqA hr) (pv 4) pe_int (nomark _)) (pss_one (ps_ret (pe_tup (pa_cons pe_str (pa_cons (pe_cal c__law_number (hr.mono (by omega)) (pa_cons (pv 0) pa_nil)) pa_nil))))) pss_nil) (pss_cons (ps_if (PW.pt (pw_and (pt_cmpR op_lt (pv 4) pe_int (nomark _)) (pw_and1 (pt_cmpR op_gt (pe_callB cr_lenA (by rfl) T.m_len (by decide +kernel) (pa_cons (pv 1) pa_nil)) pe_int (nomark _))))) (pss_one (ps_ret (pe_tup (pa_cons pe_str (pa_cons (pe_ix ix_seq (pv 1) (pe_cal c__law_next (hr.mono (by omega)) (pa_cons (pv 0) (pa_cons (pe_callB cr_lenA (by rfl) T.m_len (by decide +kernel) (pa_cons (pv 1) pa_nil)) pa_nil))) (fun _ _ => rfl)) pa_nil))))) pss_nil) (pss_cons (ps_if (pt_cmpR (op_eqA hr) (pv 4) pe_int (nomark _)) (pss_one (ps_ret (pe_tup (pa_cons pe_str (pa_cons (pe_cal c__law_next (hr.mono (by omega)) (pa_cons (pv 0) (pa_cons (pe_ix ix_seq (pv 2) pe_int (fun _ _ => rfl)) pa_nil))) pa_nil))))) pss_nil) (pss_one (ps_ret (pe_tup (pa_cons pe_str (pa_cons (pe_ix ix_seq (pv 3) (pe_cal c__law_next (hr.mono (by omega)) (pa_cons (pv 0) (pa_cons (pe_callB cr_lenA (by rfl) T.m_len (by decide +kernel) (pa_cons (pv 3) pa_nil)) pa_nil))) (fun _ _ => rfl)) pa_nil))))))))), ?_⟩
  rw [t_law_plain]
  try dsimp only [cxOf, Cx.nox, Cx.wish]
  walk_at "rd"
  refine nx En.st (by decide) fun r1 H1 a1 b1 S1 => ?_
  have En1 := En.mv S1
  have hn := En1.seen
  have ln := En1.seenL
  obtain ⟨ws, W⟩ := En1.words
  walk_at "rd"
  refine rd_ite (fun h1 => ?_) (fun h1 => ?_)
  · walk_at "rd"
    refine rd_sp1 ⟨l, rfl, S1.st, fun r H2 a2 b2 S2 => ?_⟩
    walk_at "rd"
    refine new_tup fun p H3 hp E3 h3 => ?_
    exact q _ _ _ (.tup (.of h3) (.cons (.str _ (by decide)) (.cons (.int _) .nil))) (RB.number (num_i a2 b2)) ((S1.trans S2).trans (.ex S2.st E3))
  walk_at "rd"
  refine (fun rest => rd_ite (fun h2 => ?_) (fun _ => rest)) ?_
  · walk_at "rda"
    rw [List.length_map]
    refine rd_ite (fun h3 => ?_) (fun _ => rest)
    walk_at "rda"
    rw [List.length_map]
    refine nx En1.st h3 fun r2 H2 a2 b2 S2 => ?_
    walk_at "rda"
    have hn2 := (En1.mv S2).seen
    refine rd_ixLm (.of hn2) a2 (by rw [List.length_map]; omega) fun v hv => ?_
    obtain ⟨i, hi, rfl⟩ := List.mem_map.mp hv
    walk_at "rd"
    refine new_tup fun p H3 hp E3 h3 => ?_
    exact q _ _ _ (.tup (.of h3) (.cons (.str _ (by decide)) (.cons (.int _) .nil))) (RB.line (En1.seenP i hi) (List.mem_map.mpr ⟨i, hi, rfl⟩)) ((S1.trans S2).trans (.ex S2.st E3))
  walk_at "rd"
  refine rd_ite (fun h2 => ?_) (fun h2 => ?_)
  · walk_at "rd"
    have hz := En1.sizes
    walk_at "rda"
    refine nx En1.st En1.pos fun r2 H2 a2 b2 S2 => ?_
    walk_at "rd"
    refine new_tup fun p H3 hp E3 h3 => ?_
    exact q _ _ _ (.tup (.of h3) (.cons (.str _ (by decide)) (.cons (.int _) .nil))) (RB.earlier (place_i a2 b2)) ((S1.trans S2).trans (.ex S2.st E3))
  walk_at "rd"
  have hw1 := W.at_
  walk_at "rda"
  rw [List.length_map]
  have := W.one
  refine nx En1.st (by omega) fun r2 H2 a2 b2 S2 => ?_
  walk_at "rd"
  refine rd_ixLm (.of (lst_st hw1 S2 En1.wordsN)) a2 (by rw [List.length_map]; omega) fun v hv => ?_
  obtain ⟨z, hz, rfl⟩ := List.mem_map.mp hv
  have := word_len (W.good z hz)
  walk_at "rd"
  refine new_tup fun p H3 hp E3 h3 => ?_
  exact q _ _ _ (.tup (.of h3) (.cons (.str _ (by decide)) (.cons (.str _ (by omega)) .nil))) (RB.paper (W.good z hz)) ((S1.trans S2).trans (.ex S2.st E3))
def spRule (K : PySem.W.Frag) (N : Nat) : Sp := sp5 fun a b c d e H Q => ∃ l sn dz wd sz ns n, n ≤ N ∧ a = .ref l ∧ b = .int ((n : Nat) + 1 : Int) ∧ c = .ref sn ∧ d = .ref dz ∧ e = .ref wd ∧ Dr K H l sn dz wd sz ns ∧ ∀ v t H', Tv K H' v t → RB sz (n + 1) (inS ns) t → St1 l H H' → Q v H'

theorem k_lrule {N m : Nat} (T : Tx K w mg) (c__law_next : Cal P w K mg base "_law_next" 1 p_law_next (spNext K)) (c__law_plain : Cal P w K mg base "_law_plain" 3 p_law_plain (spPlain K)) (c__law_rule : Cal P w K mg base "_law_rule" m p_law_rule (spRule K N)) (hm : 3 ≤ m) :
    Cal P w K mg base "_law_rule" (m + 1) p_law_rule (spRule K (N + 1)) := by
  refine cal5 T.F__law_rule sc_law_rule b_law_rule rfl fun g cdv A outer s H a b c d e Q E hr h => ?_
  obtain ⟨l, sn, dz, wd, sz, ns, n, hn, rfl, rfl, rfl, rfl, rfl, En, q⟩ := h
  refine ⟨_, (pss_cons (ps_set (i := 5) (sc_law_rule).nd rfl (by first | exact Or.inl rfl | exact Or.inr rfl) (pe_cal c__law_next (hr.mono (by omega)) (pa_cons (pv 0) (pa_cons pe_int pa_nil)))) (pss_cons (ps_if (PW.pt (pw_or (pt_cmpR op_lt (pv 1) pe_int (nomark _)) (pw_or1 (pt_cmpR op_lt (pv 5) pe_int (nomark _))))) (pss_one (ps_ret (pe_cal c__law_plain (hr.mono (by omega)) (pa_cons (pv 0) (pa_cons (pv 2) (pa_cons (pv 3) (pa_cons (pv 4) pa_nil))))))) pss_nil) (pss_cons (ps_set (i := 6) (sc_law_rule).nd rfl (by first | exact Or.inl rfl | exact Or.inr rfl) (pe_cal c__law_rule (hr.mono (by omega)) (pa_cons (pv 0) (pa_cons (pe_op op_sub (pv 1) pe_int) (pa_cons (pv 2) (pa_cons (pv 3) (pa_cons (pv 4) pa_nil))))))) (pss_cons (ps_if (pt_cmpR (op_eqA hr) (pv 5) pe_int (nomark _)) (pss_one (ps_ret (pe_tup (pa_cons pe_str (pa_cons (pv 6) (pa_cons (pe_ix ix_seq (pe_lst (pa_cons pe_int (pa_cons pe_int (pa_cons (pe_cal c__law_next (hr.mono (by omega)) (pa_cons (pv 0) (pa_cons pe_int pa_nil))) pa_nil)))) (pe_cal c__law_next (hr.mono (by omega)) (pa_cons (pv 0) (pa_cons pe_int pa_nil))) (fun _ _ => rfl)) pa_nil)))))) pss_nil) (pss_cons (ps_if (PW.pt (pw_and (pt_cmpR (op_eqA hr) (pv 5) pe_int (nomark _)) (pw_and1 (pt_cmpR op_gt (pe_ix ix_seq (pv 3) pe_int (fun _ _ => rfl)) pe_int (nomark _))))) (pss_one (ps_ret (pe_tup (pa_cons pe_str (pa_cons (pe_cal c__law_next (hr.mono (by omega)) (pa_cons (pv 0) (pa_cons (pe_ix ix_seq (pv 3) pe_int (fun _ _ => rfl)) pa_nil))) (pa_cons (pv 6) pa_nil)))))) pss_nil) (pss_cons (ps_if (pt_cmpR (op_eqA hr) (pv 5) pe_int (nomark _)) (pss_one (ps_ret (pv 6))) pss_nil) (pss_cons (ps_set (i := 7) (sc_law_rule).nd rfl (by first | exact Or.inl rfl | exact Or.inr rfl) (pe_cal c__law_rule (hr.mono (by omega)) (pa_cons (pv 0) (pa_cons (pe_callB (cr_min2 rfl) (by rfl) T.m_min (by decide +kernel) (pa_cons (pe_op op_sub (pv 1) pe_int) (pa_cons pe_int pa_nil))) (pa_cons (pv 2) (pa_cons (pv 3) (pa_cons (pv 4) pa_nil))))))) (Evl.pss_cut (ps_if (pt_cmpR (op_eqA hr) (pe_cal c__law_next (hr.mono (by omega)) (pa_cons (pv 0) (pa_cons pe_int pa_nil))) pe_int (nomark _)) (pss_one (ps_par (i := 6) (j := 7) rfl (sc_law_rule).nd rfl rfl (by decide) rfl rfl (pa_cons (pv 7) (pa_cons (pv 6) pa_nil)) (by rfl))) pss_nil) (pss_cons (ps_if (pt_cmpR op_lt (pv 5) pe_int (nomark _)) (pss_one (ps_ret (pe_tup (pa_cons (pe_ix ix_seq (pe_lst (pa_cons pe_str (pa_cons pe_str (pa_cons pe_str (pa_cons pe_str pa_nil))))) (pe_op op_sub (pv 5) pe_int) (fun _ _ => rfl)) (pa_cons (pv 6) (pa_cons (pv 7) pa_nil)))))) pss_nil) (pss_cons (ps_if (pt_cmpR op_lt (pv 5) pe_int (nomark _)) (pss_one (ps_ret (pe_tup (pa_cons pe_str (pa_cons (pv 6) (pa_cons (pv 7) (pa_cons (pe_cal c__law_rule (hr.mono (by omega)) (pa_cons (pv 0) (pa_cons (pe_callB (cr_min2 rfl) (by rfl) T.m_min (by decide +kernel) (pa_cons (pe_op op_sub (pv 1) pe_int) (pa_cons pe_int pa_nil))) (pa_cons (pv 2) (pa_cons (pv 3) (pa_cons (pv 4) pa_nil)))))) pa_nil))))))) pss_nil) (pss_cons (ps_if (pt_cmpR op_gt (pe_ix ix_seq (pv 3) pe_int (fun _ _ => rfl)) pe_int (nomark _)) (pss_one (ps_ret (pe_tup (pa_cons pe_str (pa_cons (pe_cal c__law_next (hr.mono (by omega)) (pa_cons (pv 0) (pa_cons (pe_ix ix_seq (pv 3) pe_int (fun _ _ => rfl)) pa_nil))) (pa_cons (pv 6) (pa_cons (pv 7) pa_nil))))))) pss_nil) (pss_one (ps_ret (pe_tup (pa_cons pe_str (pa_cons (pv 7) (pa_cons (pv 6) pa_nil))))))))))))))))), ?_⟩
  rw [t_law_rule]
  try dsimp only [cxOf, Cx.nox, Cx.wish]
  walk_at "rd"
  refine nx En.st (by decide) fun kd H1 a1 b1 S1 => ?_
  have En1 := En.mv S1
  walk_at "rd"
  refine rd_ite (fun h1 => ?_) (fun h1 => ?_)
  · walk_at "rd"
    exact rd_sp4 ⟨l, sn, dz, wd, sz, ns, rfl, rfl, rfl, rfl, En1, fun v t H2 tv sh S2 => q v t H2 tv (RB.mono sh (by omega)) (S1.trans S2)⟩
  walk_at "rd"
  refine rd_ite (fun h2 => ?_) (fun h2 => ?_)
  · walk_at "rd"
    exact rd_sp4 ⟨l, sn, dz, wd, sz, ns, rfl, rfl, rfl, rfl, En1, fun v t H2 tv sh S2 => q v t H2 tv (RB.mono sh (by omega)) (S1.trans S2)⟩
  walk_at "rd"
  obtain ⟨k, rfl⟩ : ∃ k, n = k + 1 := ⟨n - 1, by omega⟩
  refine rd_sp5 ⟨l, sn, dz, wd, sz, ns, k, by omega, rfl, by congr 1; omega, rfl, rfl, rfl, En1, fun v1 t1 H2 tv1 sh1 S2 => ?_⟩
  have En2 := En1.mv S2
  have S02 := S1.trans S2
  have hz := En2.sizes
  walk_at "rd"
  refine rd_ite (fun h3 => ?_) (fun h3 => ?_)
  · walk_at "rd"
    refine nx En2.st (by decide) fun r3 H3 a3 b3 S3 => ?_
    walk_at "rd"
    refine new_lst fun o H4 ho E4 h4 => ?_
    walk_at "rd"
    refine nx (by walk_at "sta") (by decide) fun r5 H5 a5 b5 S5 => ?_
    walk_at "rd"
    refine rd_ixLm (.of (lst_st h4 S5 (ne_st S3.st ho))) a5 (by simp; omega) fun v hv => ?_
    have S25 : St1 l H2 H5 := (S3.trans (.ex S3.st E4)).trans S5
    obtain ⟨i, rfl, i0, i1⟩ : ∃ i, v = V.int i ∧ 0 ≤ i ∧ i ≤ 100 := by
      simp only [List.mem_cons, List.not_mem_nil, or_false] at hv
      rcases hv with rfl | rfl | rfl
      · exact ⟨_, rfl, by decide, by decide⟩
      · exact ⟨_, rfl, by decide, by decide⟩
      · exact ⟨_, rfl, by omega, by omega⟩
    walk_at "rd"
    refine new_tup fun p H6 hp E6 h6 => ?_
    exact q _ _ _ (.tup (.of h6) (.cons (.str _ (by decide)) (.cons (tv_ex (tv_st tv1 S25) E6) (.cons (.int i) .nil)))) (RB.part sh1 (pct_i i0 i1)) ((S02.trans S25).trans (.ex S25.st E6))
  walk_at "rd"
  refine (fun rest => rd_ite (fun h4 => ?_) (fun _ => rest)) ?_
  · walk_at "rda"
    refine rd_ite (fun h5 => ?_) (fun _ => rest)
    walk_at "rda"
    refine nx En2.st (by omega) fun r3 H3 a3 b3 S3 => ?_
    walk_at "rda"
    rename_i p H4 _ E4 h4
    exact q _ _ _ (.tup (.of h4) (.cons (.str _ (by decide)) (.cons (.int _) (.cons (tv_ex (tv_st tv1 S3) E4) .nil)))) (RB.table (place_i a3 b3) sh1) ((S02.trans S3).trans (.ex S3.st E4))
  walk_at "rd"
  refine rd_ite (fun h4 => ?_) (fun h4 => ?_)
  · walk_at "rd"
    exact q _ _ _ tv1 (RB.mono sh1 (by omega)) S02
  walk_at "rd"
  obtain ⟨j, hj, ej⟩ : ∃ j : Nat, j ≤ k ∧ (if (2 : Int) < ((k + 1 : Nat) : Int) + 1 - 1 then (2 : Int) else ((k + 1 : Nat) : Int) + 1 - 1) = (j : Nat) + 1 := by
    by_cases h : 2 < k + 1
    · exact ⟨1, by omega, by rw [if_pos (by omega)]; rfl⟩
    · exact ⟨k, by omega, by rw [if_neg (by omega)]; omega⟩
  rw [ej]
  refine rd_sp5 ⟨l, sn, dz, wd, sz, ns, j, by omega, rfl, rfl, rfl, rfl, rfl, En2, fun v2 t2 H3 tv2 sh2 S3 => ?_⟩
  have En3 := En2.mv S3
  have S03 := S02.trans S3
  walk_at "rd"
  refine rd_cut (fun σ H' => ∃ u v tu tv, σ = [some (.ref l), some (.int (((k + 1 : Nat) : Int) + 1)), some (.ref sn), some (.ref dz), some (.ref wd), some (.int kd), some u, some v] ∧ Tv K H' u tu ∧ Tv K H' v tv ∧ RB sz (k + 1) (inS ns) tu ∧ RB sz (k + 1) (inS ns) tv ∧ St1 l H H') ?_ ?_
  · walk_at "rd"
    refine nx En3.st (by decide) fun r4 H4 a4 b4 S4 => ?_
    walk_at "rd"
    have x1 := tv_st (tv_st tv1 S3) S4
    have x2 := tv_st tv2 S4
    refine rd_ite (fun h5 => ?_) (fun h5 => ?_)
    · walk_at "rd"
      refine rd_par2 rfl ?_
      exact ⟨_, _, _, _, rfl, x2, x1, RB.mono sh2 (by omega), sh1, S03.trans S4⟩
    · walk_at "rd"
      exact ⟨_, _, _, _, rfl, x1, x2, sh1, RB.mono sh2 (by omega), S03.trans S4⟩
  rintro σ H4 ⟨u, v, tu, tv, rfl, hu, hv, su, sv, S4⟩
  have En4 := En.mv S4
  have hz4 := En4.sizes
  walk_at "rd"
  refine rd_ite (fun h5 => ?_) (fun h5 => ?_)
  · walk_at "rd"
    refine new_lst fun o H5 ho E5 h5 => ?_
    walk_at "rd"
    refine rd_ixLm (.of h5) (by omega) (by simp; omega) fun y hy => ?_
    obtain ⟨z, rfl, hz, hz4⟩ : ∃ z : Str, y = V.str z ∧ z.length ≤ 1000 ∧ z ∈ (["add", "take", "least", "most"] : List Str) := by
      simp only [List.mem_cons, List.not_mem_nil, or_false] at hy
      rcases hy with rfl | rfl | rfl | rfl <;> exact ⟨_, rfl, by decide, by decide⟩
    walk_at "rd"
    refine new_tup fun p H6 hp E6 h6 => ?_
    have E46 : Ex H4 H6 := E5.trans E6
    exact q _ _ _ (.tup (.of h6) (.cons (.str z hz) (.cons (tv_ex hu E46) (.cons (tv_ex hv E46) .nil)))) (RB.two hz4 su sv) (S4.trans (.ex S4.st E46))
  walk_at "rd"
  refine rd_ite (fun h6 => ?_) (fun h6 => ?_)
  · walk_at "rd"
    rw [ej]
    refine rd_sp5 ⟨l, sn, dz, wd, sz, ns, j, by omega, rfl, rfl, rfl, rfl, rfl, En4, fun v3 t3 H5 tv3 sh3 S5 => ?_⟩
    walk_at "rd"
    refine new_tup fun p H6 hp E6 h6 => ?_
    exact q _ _ _ (.tup (.of h6) (.cons (.str _ (by decide)) (.cons (tv_ex (tv_st hu S5) E6) (.cons (tv_ex (tv_st hv S5) E6) (.cons (tv_ex tv3 E6) .nil))))) (RB.where_ su sv (RB.mono sh3 (by omega))) ((S4.trans S5).trans (.ex S5.st E6))
  walk_at "rda"
  refine rd_ite (fun h7 => ?_) (fun h7 => ?_)
  · walk_at "rda"
    refine nx En4.st (by omega) fun r5 H5 a5 b5 S5 => ?_
    walk_at "rd"
    refine new_tup fun p H6 hp E6 h6 => ?_
    exact q _ _ _ (.tup (.of h6) (.cons (.str _ (by decide)) (.cons (.int _) (.cons (tv_ex (tv_st hu S5) E6) (.cons (tv_ex (tv_st hv S5) E6) .nil))))) (RB.choose (place_i a5 b5) su sv) ((S4.trans S5).trans (.ex S5.st E6))
  · walk_at "rd"
    refine new_tup fun p H6 hp E6 h6 => ?_
    exact q _ _ _ (.tup (.of h6) (.cons (.str _ (by decide)) (.cons (tv_ex hv E6) (.cons (tv_ex hu E6) .nil)))) (RB.two (by decide) sv su) (S4.trans (.ex S4.st E6))
theorem k_lrule0 (T : Tx K w mg) (c__law_next : Cal P w K mg base "_law_next" 1 p_law_next (spNext K)) (c__law_plain : Cal P w K mg base "_law_plain" 3 p_law_plain (spPlain K)) : Cal P w K mg base "_law_rule" 4 p_law_rule (spRule K 0) := by
  have c__law_rule : Cal P w K mg base "_law_rule" 1 p_law_rule spNo := cal_no T.F__law_rule sc_law_rule b_law_rule
  refine cal5 T.F__law_rule sc_law_rule b_law_rule rfl fun g cdv A outer s H a b c d e Q E hr h => ?_
  obtain ⟨l, sn, dz, wd, sz, ns, n, hn, rfl, rfl, rfl, rfl, rfl, En, q⟩ := h
  obtain rfl : n = 0 := by omega
  refine ⟨_, (pss_cons (ps_set (i := 5) (sc_law_rule).nd rfl (by first | exact Or.inl rfl | exact Or.inr rfl) (pe_cal c__law_next (hr.mono (by omega)) (pa_cons (pv 0) (pa_cons pe_int pa_nil)))) (pss_cons (ps_if (PW.pt (pw_or (pt_cmpR op_lt (pv 1) pe_int (nomark _)) (pw_or1 (pt_cmpR op_lt (pv 5) pe_int (nomark _))))) (pss_one (ps_ret (pe_cal c__law_plain (hr.mono (by omega)) (pa_cons (pv 0) (pa_cons (pv 2) (pa_cons (pv 3) (pa_cons (pv 4) pa_nil))))))) pss_nil) (pss_cons (ps_set (i := 6) (sc_law_rule).nd rfl (by first | exact Or.inl rfl | exact Or.inr rfl) (pe_cal c__law_rule (hr.mono (by omega)) (pa_cons (pv 0) (pa_cons (pe_op op_sub (pv 1) pe_int) (pa_cons (pv 2) (pa_cons (pv 3) (pa_cons (pv 4) pa_nil))))))) (pss_cons (ps_if (pt_cmpR (op_eqA hr) (pv 5) pe_int (nomark _)) (pss_one (ps_ret (pe_tup (pa_cons pe_str (pa_cons (pv 6) (pa_cons (pe_ix ix_seq (pe_lst (pa_cons pe_int (pa_cons pe_int (pa_cons (pe_cal c__law_next (hr.mono (by omega)) (pa_cons (pv 0) (pa_cons pe_int pa_nil))) pa_nil)))) (pe_cal c__law_next (hr.mono (by omega)) (pa_cons (pv 0) (pa_cons pe_int pa_nil))) (fun _ _ => rfl)) pa_nil)))))) pss_nil) (pss_cons (ps_if (PW.pt (pw_and (pt_cmpR (op_eqA hr) (pv 5) pe_int (nomark _)) (pw_and1 (pt_cmpR op_gt (pe_ix ix_seq (pv 3) pe_int (fun _ _ => rfl)) pe_int (nomark _))))) (pss_one (ps_ret (pe_tup (pa_cons pe_str (pa_cons (pe_cal c__law_next (hr.mono (by omega)) (pa_cons (pv 0) (pa_cons (pe_ix ix_seq (pv 3) pe_int (fun _ _ => rfl)) pa_nil))) (pa_cons (pv 6) pa_nil)))))) pss_nil) (pss_cons (ps_if (pt_cmpR (op_eqA hr) (pv 5) pe_int (nomark _)) (pss_one (ps_ret (pv 6))) pss_nil) (pss_cons (ps_set (i := 7) (sc_law_rule).nd rfl (by first | exact Or.inl rfl | exact Or.inr rfl) (pe_cal c__law_rule (hr.mono (by omega)) (pa_cons (pv 0) (pa_cons (pe_callB (cr_min2 rfl) (by rfl) T.m_min (by decide +kernel) (pa_cons (pe_op op_sub (pv 1) pe_int) (pa_cons pe_int pa_nil))) (pa_cons (pv 2) (pa_cons (pv 3) (pa_cons (pv 4) pa_nil))))))) (Evl.pss_cut (ps_if (pt_cmpR (op_eqA hr) (pe_cal c__law_next (hr.mono (by omega)) (pa_cons (pv 0) (pa_cons pe_int pa_nil))) pe_int (nomark _)) (pss_one (ps_par (i := 6) (j := 7) rfl (sc_law_rule).nd rfl rfl (by decide) rfl rfl (pa_cons (pv 7) (pa_cons (pv 6) pa_nil)) (by rfl))) pss_nil) (pss_cons (ps_if (pt_cmpR op_lt (pv 5) pe_int (nomark _)) (pss_one (ps_ret (pe_tup (pa_cons (pe_ix ix_seq (pe_lst (pa_cons pe_str (pa_cons pe_str (pa_cons pe_str (pa_cons pe_str pa_nil))))) (pe_op op_sub (pv 5) pe_int) (fun _ _ => rfl)) (pa_cons (pv 6) (pa_cons (pv 7) pa_nil)))))) pss_nil) (pss_cons (ps_if (pt_cmpR op_lt (pv 5) pe_int (nomark _)) (pss_one (ps_ret (pe_tup (pa_cons pe_str (pa_cons (pv 6) (pa_cons (pv 7) (pa_cons (pe_cal c__law_rule (hr.mono (by omega)) (pa_cons (pv 0) (pa_cons (pe_callB (cr_min2 rfl) (by rfl) T.m_min (by decide +kernel) (pa_cons (pe_op op_sub (pv 1) pe_int) (pa_cons pe_int pa_nil))) (pa_cons (pv 2) (pa_cons (pv 3) (pa_cons (pv 4) pa_nil)))))) pa_nil))))))) pss_nil) (pss_cons (ps_if (pt_cmpR op_gt (pe_ix ix_seq (pv 3) pe_int (fun _ _ => rfl)) pe_int (nomark _)) (pss_one (ps_ret (pe_tup (pa_cons pe_str (pa_cons (pe_cal c__law_next (hr.mono (by omega)) (pa_cons (pv 0) (pa_cons (pe_ix ix_seq (pv 3) pe_int (fun _ _ => rfl)) pa_nil))) (pa_cons (pv 6) (pa_cons (pv 7) pa_nil))))))) pss_nil) (pss_one (ps_ret (pe_tup (pa_cons pe_str (pa_cons (pv 7) (pa_cons (pv 6) pa_nil))))))))))))))))), ?_⟩
  rw [t_law_rule]
  try dsimp only [cxOf, Cx.nox, Cx.wish]
  walk_at "rd"
  refine nx En.st (by decide) fun kd H1 a1 b1 S1 => ?_
  have En1 := En.mv S1
  walk_at "rd"
  first
  | exact rd_sp4 ⟨l, sn, dz, wd, sz, ns, rfl, rfl, rfl, rfl, En1, fun v t H2 tv sh S2 => q v t H2 tv (RB.mono sh (by omega)) (S1.trans S2)⟩
  | (refine rd_ite (fun h1 => ?_) (fun h1 => by omega)
     walk_at "rd"
     exact rd_sp4 ⟨l, sn, dz, wd, sz, ns, rfl, rfl, rfl, rfl, En1, fun v t H2 tv sh S2 => q v t H2 tv (RB.mono sh (by omega)) (S1.trans S2)⟩)
theorem k_lrulen (T : Tx K w mg) (c__law_next : Cal P w K mg base "_law_next" 1 p_law_next (spNext K)) (c__law_plain : Cal P w K mg base "_law_plain" 3 p_law_plain (spPlain K)) : ∀ n : Nat, Cal P w K mg base "_law_rule" (4 + n) p_law_rule (spRule K n)
  | 0 => k_lrule0 T c__law_next c__law_plain
  | n + 1 => k_lrule T c__law_next c__law_plain (k_lrulen T c__law_next c__law_plain n) (show 3 ≤ 4 + n by omega)
end
end KF
open PySem PySem.Spec PyProof.Rows L2 Qa Qr
open Qg


namespace KF
section
variable {P : Program} {w : World} {K : PySem.W.Frag} {mg : Str → Option Value} {base : Heap} {H : Hp} {Q : VK} {E : XK}
def spSizes (K : PySem.W.Frag) : Sp := sp2 fun a b H Q => ∃ (c : Int) (M : Nat), a = .int c ∧ b = .int M ∧ 7 ≤ M ∧ M ≤ 40 ∧ ∀ p H' (n tb ch : Nat), SqT K H' p [.int (n : Int), .int (tb : Int), .int (ch : Int)] → 1 ≤ n → n ≤ M → tb ≤ 5 → ch ≤ 8 → Ex H H' → Q (.ref p) H'
theorem k__law_sizes (T : Tx K w mg) : Cal P w K mg base "_law_sizes" 1 p_law_sizes (spSizes K) := by
  refine cal2 T.F__law_sizes sc_law_sizes b_law_sizes rfl fun g cdv A outer s H a b Q E hr h => ?_
  obtain ⟨c, M, rfl, rfl, hM, hM2, q⟩ := h
  refine ⟨_, (pss_cons (ps_set (i := 2) (sc_law_sizes).nd rfl (by first | exact Or.inl rfl | exact Or.inr rfl) (pe_op op_addA pe_int (pe_op op_mod (pv 0) pe_int))) (Evl.pss_cut (ps_if (pt_cmpR (op_eqA hr) (pe_op op_mod (pe_op op_fdiv (pv 0) pe_int) pe_int) pe_int (nomark _)) (pss_one (ps_set (i := 2) (sc_law_sizes).nd rfl (by first | exact Or.inl rfl | exact Or.inr rfl) (pe_op op_addA pe_int (pe_op op_mod (pe_op op_fdiv (pv 0) pe_int) (pe_op op_sub (pv 1) pe_int))))) pss_nil) (pss_cons (ps_set (i := 3) (sc_law_sizes).nd rfl (by first | exact Or.inl rfl | exact Or.inr rfl) (pe_op op_mod (pe_op op_fdiv (pv 0) pe_int) pe_int)) (Evl.pss_cut (ps_if (pt_cmpR (op_eqA hr) (pe_op op_mod (pe_op op_fdiv (pv 0) pe_int) pe_int) pe_int (nomark _)) (pss_one (ps_set (i := 3) (sc_law_sizes).nd rfl (by first | exact Or.inl rfl | exact Or.inr rfl) (pe_op op_addA pe_int (pe_op op_mod (pe_op op_fdiv (pv 0) pe_int) pe_int)))) pss_nil) (pss_cons (ps_set (i := 4) (sc_law_sizes).nd rfl (by first | exact Or.inl rfl | exact Or.inr rfl) (pe_op op_mod (pe_op op_fdiv (pv 0) pe_int) pe_int)) (Evl.pss_cut (ps_if (pt_cmpR (op_eqA hr) (pe_op op_mod (pe_op op_fdiv (pv 0) pe_int) pe_int) pe_int (nomark _)) (pss_one (ps_set (i := 4) (sc_law_sizes).nd rfl (by first | exact Or.inl rfl | exact Or.inr rfl) (pe_op op_addA pe_int (pe_op op_mod (pe_op op_fdiv (pv 0) pe_int) pe_int)))) pss_nil) (pss_one (ps_ret (pe_tup (pa_cons (pv 2) (pa_cons (pv 3) (pa_cons (pv 4) pa_nil)))))))))))), ?_⟩
  rw [t_law_sizes]
  try dsimp only [cxOf, Cx.nox, Cx.wish]
  walk_at "rd"
  refine rd_cut (fun σ H' => ∃ n : Nat, σ = [some (.int c), some (.int M), some (.int n), none, none] ∧ 1 ≤ n ∧ n ≤ M ∧ H = H') ?_ ?_
  · walk_at "rd"
    refine rd_ite (fun h => ?_) (fun h => ?_)
    · walk_at "rd"
      have a0 := Int.emod_nonneg (c / 36) (show (M : Int) - 6 ≠ 0 by omega)
      have a1 := Int.emod_lt_of_pos (c / 36) (show 0 < (M : Int) - 6 by omega)
      generalize c / 36 % ((M : Int) - 6) = x at a0 a1
      exact ⟨(7 + x).toNat, by rw [show (((7 + x).toNat : Nat) : Int) = 7 + x by omega], by omega, by omega, rfl⟩
    · walk_at "rd"
      exact ⟨(1 + c % 6).toNat, by rw [show (((1 + c % 6).toNat : Nat) : Int) = 1 + c % 6 by omega], by omega, by omega, rfl⟩
  rintro σ H1 ⟨n, rfl, n1, n2, rfl⟩
  walk_at "rd"
  refine rd_cut (fun σ H' => ∃ tb : Nat, σ = [some (.int c), some (.int M), some (.int n), some (.int tb), none] ∧ tb ≤ 5 ∧ H = H') ?_ ?_
  · walk_at "rd"
    refine rd_ite (fun h => ?_) (fun h => ?_)
    · walk_at "rd"
      exact ⟨(3 + c / 29376 % 3).toNat, by rw [show (((3 + c / 29376 % 3).toNat : Nat) : Int) = 3 + c / 29376 % 3 by omega], by omega, rfl⟩
    · walk_at "rd"
      exact ⟨(c / 1224 % 3).toNat, by rw [show (((c / 1224 % 3).toNat : Nat) : Int) = c / 1224 % 3 by omega], by omega, rfl⟩
  rintro σ H1 ⟨tb, rfl, t1, rfl⟩
  walk_at "rd"
  refine rd_cut (fun σ H' => ∃ ch : Nat, σ = [some (.int c), some (.int M), some (.int n), some (.int tb), some (.int ch)] ∧ ch ≤ 8 ∧ H = H') ?_ ?_
  · walk_at "rd"
    refine rd_ite (fun h => ?_) (fun h => ?_)
    · walk_at "rd"
      exact ⟨(4 + c / 2820096 % 5).toNat, by rw [show (((4 + c / 2820096 % 5).toNat : Nat) : Int) = 4 + c / 2820096 % 5 by omega], by omega, rfl⟩
    · walk_at "rd"
      exact ⟨(c / 88128 % 4).toNat, by rw [show (((c / 88128 % 4).toNat : Nat) : Int) = c / 88128 % 4 by omega], by omega, rfl⟩
  rintro σ H1 ⟨ch, rfl, c1, rfl⟩
  walk_at "rd"
  refine new_tup fun p H2 hp E2 h2 => ?_
  exact q p H2 n tb ch (.of h2) n1 n2 t1 c1 E2
theorem rg_iv (n : Nat) : rgV 0 (n : Int) = (List.range n).map iv := by
  unfold rgV
  rw [show ((n : Int) - 0).toNat = n by omega]
  refine List.map_congr_left fun i _ => ?_
  show V.int (0 + (i : Int)) = V.int (i : Int)
  rw [Int.zero_add]
theorem ixN_n {n j : Nat} (h : j < n) : ixN n (j : Int) = some j := by
  unfold ixN
  simp
  omega
theorem erase_perm : ∀ {L : List Nat} {i : Nat} (h : i < L.length), (L[i] :: L.eraseIdx i).Perm L
  | x :: L, 0, _ => .refl _
  | x :: L, i + 1, h => by
    have h' : i < L.length := Nat.lt_of_succ_lt_succ h
    show (L[i] :: x :: L.eraseIdx i).Perm (x :: L)
    exact (List.Perm.swap x L[i] (L.eraseIdx i)).trans (.cons x (erase_perm h'))
theorem map_erase (f : Nat → V) : ∀ (L : List Nat) (i : Nat), (L.map f).eraseIdx i = (L.eraseIdx i).map f
  | [], _ => rfl
  | _ :: _, 0 => rfl
  | x :: L, i + 1 => by show f x :: (L.map f).eraseIdx i = f x :: (L.eraseIdx i).map f; rw [map_erase f L i]
def spOrder (K : PySem.W.Frag) : Sp := sp2 fun a b H Q => ∃ (l : Addr) (n : Nat), a = .ref l ∧ b = .int n ∧ (∃ s, H l = some (.lst [.int s])) ∧ n ≤ 40 ∧ ∀ (p : Addr) (ord : List Nat) (H' : Hp), H' p = some (.lst (ord.map iv)) → ord.Perm (List.range n) → p ≠ l → H p = none → St1 l H H' → Q (.ref p) H'
theorem k__law_order (T : Tx K w mg) (c__law_next : Cal P w K mg base "_law_next" 1 p_law_next (spNext K)) : Cal P w K mg base "_law_order" 2 p_law_order (spOrder K) := by
  refine cal2 T.F__law_order sc_law_order b_law_order rfl fun g cdv A outer s H a b Q E hr h => ?_
  obtain ⟨l, n, rfl, rfl, hl, hn, q⟩ := h
  refine ⟨_, (pss_cons (ps_set (i := 2) (sc_law_order).nd rfl (by first | exact Or.inl rfl | exact Or.inr rfl) (pe_listRg rfl (by rfl) T.m_list (prg_1 (by rfl) T.m_range (pv 1)))) (pss_cons (ps_set (i := 3) (sc_law_order).nd rfl (by first | exact Or.inl rfl | exact Or.inr rfl) (pe_lst pa_nil)) (pss_cons (ps_while PassesOwn.never (pt_cmpR op_gt (pe_callB cr_lenA (by rfl) T.m_len (by decide +kernel) (pa_cons (pv 2) pa_nil)) pe_int (nomark _)) (pss_one (ps_expr (pe_bm PySem.F.plainAttrs_list PySem.F.slot_list_append PySem.F.type_list_append mt_append (pv 3) (pa_cons (pe_bm PySem.F.plainAttrs_list PySem.F.slot_list_pop PySem.F.type_list_pop mt_popAt (pv 2) (pa_cons (pe_cal c__law_next (hr.mono (by omega)) (pa_cons (pv 0) (pa_cons (pe_callB cr_lenA (by rfl) T.m_len (by decide +kernel) (pa_cons (pv 2) pa_nil)) pa_nil))) pa_nil)) pa_nil))))) (pss_one (ps_ret (pv 3)))))), ?_⟩
  rw [t_law_order]
  try dsimp only [cxOf, Cx.nox, Cx.wish]
  walk_at "rd"
  refine rd_lstRg ?_
  refine rd_rg1 ?_
  walk_at "rda"
  refine ⟨.of_le (by decide) (by omega) (by decide) (by omega), fun la hla => ?_⟩
  rw [rg_iv]
  generalize eH : upd H la (.lst ((List.range n).map iv)) = H1
  have h1 : H1 la = some (.lst ((List.range n).map iv)) := by rw [← eH]; exact upd_same
  have E1 : Ex H H1 := by rw [← eH]; exact Evl.Ex.new hla
  clear eH
  walk_at "rd"
  refine new_lst fun fo H2 hfo E2 h2 => ?_
  walk_at "rd"
  have nla : la ≠ l := ne_st hl hla
  have nfo : fo ≠ l := ne_st (sta_ex hl E1) hfo
  have nlf : la ≠ fo := by rintro rfl; rw [h1] at hfo; cases hfo
  have hfoH : H fo = none := free_of E1 hfo
  refine rd_while (m0 := n) (fun m σ H' => ∃ L F : List Nat, σ = [some (.ref l), some (.int n), some (.ref la), some (.ref fo)] ∧ m = L.length ∧ H' la = some (.lst (L.map iv)) ∧ H' fo = some (.lst (F.map iv)) ∧ (F ++ L).Perm (List.range n) ∧ St1 l H H') ?_ ?_
  · exact ⟨List.range n, [], rfl, by rw [List.length_range], E2 _ _ h1, h2, .refl _, .ex hl (E1.trans E2)⟩
  rintro m σ H3 ⟨L, F, rfl, rfl, hL, hF, pm, S3⟩
  have lm : F.length + L.length = n := by
    have := pm.length_eq
    rw [List.length_append, List.length_range] at this
    exact this
  walk_at "rd"
  refine rd_lenL (.of hL) ?_
  rw [List.length_map]
  walk_at "rd"
  refine rd_ite (fun h => ?_) (fun h => ?_)
  · refine rd_wN ?_
    walk_at "rd"
    refine rd_lenL (.of hL) ?_
    rw [List.length_map]
    walk_at "rd"
    refine nx S3.st h fun r H4 a4 b4 S4 => ?_
    walk_at "rd"
    have hL4 := lst_st hL S4 nla
    have hk : r.toNat < L.length := by omega
    refine rd_popN (n := r.toNat) (y := iv L[r.toNat]) hL4 (by omega) (by omega) (by rw [List.getElem?_map, List.getElem?_eq_getElem hk]; rfl) ?_
    generalize eH : upd H4 la _ = H5
    have h5 : H5 la = some (.lst ((L.eraseIdx r.toNat).map iv)) := by rw [← eH, upd_same, map_erase]
    have k5 : ∀ b, b ≠ la → H5 b = H4 b := fun b hb => by rw [← eH, upd_ne hb]
    have S5 : St1 l H H5 := by rw [← eH]; exact (S3.trans S4).upd hla hL4 nla
    clear eH
    have hF5 : H5 fo = some (.lst (F.map iv)) := by rw [k5 fo nlf.symm]; exact lst_st hF S4 nfo
    walk_at "rd"
    refine rd_append hF5 (by rw [List.length_map]; omega) ?_
    walk_at "rd"
    have pe := erase_perm hk
    refine ⟨(L.eraseIdx r.toNat).length, ?_, L.eraseIdx r.toNat, F ++ [L[r.toNat]], rfl, rfl, ?_, ?_, ?_, S5.upd hfoH hF5 nfo⟩
    · have := pe.length_eq
      rw [List.length_cons] at this
      omega
    · rw [upd_ne nlf]; exact h5
    · rw [upd_same, List.map_append]; rfl
    · refine List.Perm.trans ?_ pm
      rw [List.append_assoc]
      exact List.Perm.append_left F pe
  · have eL : L = [] := List.length_eq_zero_iff.mp (by omega)
    subst eL
    walk_at "rd"
    rw [List.append_nil] at pm
    exact q fo F H3 hF pm nfo hfoH S3
/-- x stands ahead of y -/
def Bf (ord : List Nat) (x y : Nat) : Prop := ∃ a b : Nat, a < b ∧ ord[a]? = some x ∧ ord[b]? = some y
/-- a drawn form -/
structure FormD (K : PySem.W.Frag) (H : Hp) (la ta : Addr) (vs tvs : List V) (ts : List T) (rows : List (List Qr.Row)) (ch : Nat) (ord : List Nat) : Prop where
  lat : H la = some (.lst vs)
  ltv : TvA K H vs ts
  few : 1 ≤ ts.length ∧ ts.length ≤ 40
  rule : ∀ t ∈ ts, isRule ⟨ts.length, rows.length, ch⟩ 8 t = true
  perm : ord.Perm (List.range ts.length)
  ahead : ∀ (j : Nat) (t : T), ts[j]? = some t → ∀ x : Nat, ik x ∈ beh "line" 8 t → Bf ord x j
  tat : H ta = some (.lst tvs)
  ttv : TvA K H tvs (rows.map fun r => .tup (r.map rowT))
  tgood : ∀ r ∈ rows, GoodTab r
  tfew : rows.length ≤ 5
  chf : ch ≤ 8
def spFormD (K : PySem.W.Frag) : Sp := sp2 fun a b H Q => ∃ (l : Addr) (ns : List Int) (M : Nat), a = .ref l ∧ b = .int M ∧ 7 ≤ M ∧ M ≤ 40 ∧ SqL K H l (ns.map V.int) ∧ ∀ (p la ta wd : Addr) (vs tvs : List V) (ts : List T) (rows : List (List Qr.Row)) (ch ow : Nat) (ord : List Nat) (ws : List Str) (H' : Hp), H' p = some (.lst [.ref la, .ref ta, .int ch, .int ow, .ref wd]) → FormD K H' la ta vs tvs ts rows ch ord → ts.length ≤ M → ow < ts.length → Words K H' wd ws →
  H p = none → H la = none → H ta = none → H wd = none → la ≠ ta → p ≠ la → p ≠ ta → wd ≠ la → wd ≠ ta → Ex H H' → Q (.ref p) H'
theorem TvA.set {K : PySem.W.Frag} {H : Hp} {v : V} {t : T} (h : Tv K H v t) : ∀ {vs : List V} {ts : List T} {i : Nat}, TvA K H vs ts → TvA K H (vs.set i v) (ts.set i t)
  | _, _, _, .nil => .nil
  | _, _, 0, .cons _ a => .cons h a
  | _, _, i + 1, .cons h0 a => .cons h0 (TvA.set h (i := i) a)
theorem TvA.rep {K : PySem.W.Frag} {H : Hp} {v : V} {t : T} (h : Tv K H v t) : ∀ n : Nat, TvA K H (List.replicate n v) (List.replicate n t)
  | 0 => .nil
  | n + 1 => by rw [List.replicate_succ, List.replicate_succ]; exact .cons h (TvA.rep h n)
theorem st_exc {l : Addr} {H0 H H' : Hp} (hl : H0 l = none) (e0 : Ex H0 H) (S : St1 l H H') : Ex H0 H' := fun b o h => S.fr b o (by rintro rfl; rw [hl] at h; cases h) (e0 b o h)
theorem k__law_form (T : Tx K w mg) (c__law_mixed : Cal P w K mg base "_law_mixed" 1 p_law_mixed (spMixed K)) (c__law_cell_at : Cal P w K mg base "_law_cell_at" 1 p_law_cell_at (spCell K)) (c__law_next : Cal P w K mg base "_law_next" 1 p_law_next (spNext K))
    (c__law_sizes : Cal P w K mg base "_law_sizes" 1 p_law_sizes (spSizes K)) (c__law_words : Cal P w K mg base "_law_words" 2 p_law_words (spWords K)) (c__law_order : Cal P w K mg base "_law_order" 2 p_law_order (spOrder K))
    (c__law_rule : Cal P w K mg base "_law_rule" 11 p_law_rule (spRule K 7)) (c__law_table : Cal P w K mg base "_law_table" 3 p_law_table (spTable K)) : Cal P w K mg base "_law_form" 12 p_law_form (spFormD K) := by
  refine cal2 T.F__law_form sc_law_form b_law_form rfl fun g cdv A outer s H a b Q E hr h => ?_
  obtain ⟨l, ns, M, rfl, rfl, hM, hM2, hl, q⟩ := h
  refine ⟨_, (pss_cons (ps_set (i := 2) (sc_law_form).nd rfl (by first | exact Or.inl rfl | exact Or.inr rfl) (pe_lst (pa_cons (pe_cal c__law_mixed (hr.mono (by omega)) (pa_cons (pe_cal c__law_cell_at (hr.mono (by omega)) (pa_cons (pv 0) (pa_cons pe_int pa_nil))) (pa_cons pe_int pa_nil))) pa_nil))) (pss_cons (ps_set (i := 3) (sc_law_form).nd rfl (by first | exact Or.inl rfl | exact Or.inr rfl) (pe_cal c__law_sizes (hr.mono (by omega)) (pa_cons (pe_cal c__law_mixed (hr.mono (by omega)) (pa_cons (pe_cal c__law_cell_at (hr.mono (by omega)) (pa_cons (pv 0) (pa_cons pe_int pa_nil))) (pa_cons pe_int pa_nil))) (pa_cons (pv 1) pa_nil)))) (pss_cons (ps_set (i := 4) (sc_law_form).nd rfl (by first | exact Or.inl rfl | exact Or.inr rfl) (pe_cal c__law_words (hr.mono (by omega)) (pa_cons (pv 2) pa_nil))) (pss_cons (ps_set (i := 5) (sc_law_form).nd rfl (by first | exact Or.inl rfl | exact Or.inr rfl) (pe_op op_rep (pe_lst (pa_cons (pe_tup (pa_cons pe_str (pa_cons pe_int pa_nil))) pa_nil)) (pe_ix ix_seq (pv 3) pe_int (fun _ _ => rfl)))) (pss_cons (ps_set (i := 6) (sc_law_form).nd rfl (by first | exact Or.inl rfl | exact Or.inr rfl) (pe_lst pa_nil)) (pss_cons (ps_for PassesOwn.never rfl (pi_seq (pe_cal c__law_order (hr.mono (by omega)) (pa_cons (pv 2) (pa_cons (pe_ix ix_seq (pv 3) pe_int (fun _ _ => rfl)) pa_nil)))) (pg_name (i := 7) (sc_law_form).nd rfl (by first | exact Or.inl rfl | exact Or.inr rfl)) (pss_cons (ps_set (i := 8) (sc_law_form).nd rfl (by first | exact Or.inl rfl | exact Or.inr rfl) (pe_op op_addA pe_int (pe_cal c__law_next (hr.mono (by omega)) (pa_cons (pv 2) (pa_cons pe_int pa_nil))))) (Evl.pss_cut (ps_if (pt_cmpR (op_eqA hr) (pe_cal c__law_next (hr.mono (by omega)) (pa_cons (pv 2) (pa_cons pe_int pa_nil))) pe_int (nomark _)) (pss_one (ps_set (i := 8) (sc_law_form).nd rfl (by first | exact Or.inl rfl | exact Or.inr rfl) (pe_op op_addA pe_int (pe_cal c__law_next (hr.mono (by omega)) (pa_cons (pv 2) (pa_cons pe_int pa_nil)))))) pss_nil) (pss_cons (ps_asg (pe_cal c__law_rule (hr.mono (by omega)) (pa_cons (pv 2) (pa_cons (pv 8) (pa_cons (pe_callTy cr_lstOf (by rfl) T.m_list (by decide +kernel) (pa_cons (pv 6) pa_nil)) (pa_cons (pv 3) (pa_cons (pv 4) pa_nil)))))) (pg_sub (pv 5) (pv 7) set_list)) (pss_one (ps_expr (pe_bm PySem.F.plainAttrs_list PySem.F.slot_list_append PySem.F.type_list_append mt_append (pv 6) (pa_cons (pv 7) pa_nil)))))))) (pss_cons (ps_setLc (i := 9) (own := [("_law_k", 10)]) rfl (sc_law_form).nd rfl rfl (sw_true rfl rfl rfl (by decide +kernel)) (pi_range1 (by rfl) T.m_range (pa_cons (pe_ix ix_seq (pv 3) pe_int (fun _ _ => rfl)) pa_nil)) (blkOk_by (N := n_law_form) (sc := defScope s_law_form) (by decide +kernel)) (fun _ _ _ _ _ => (pg_name (i := 10) (sc_law_form).nd rfl (by first | exact Or.inl rfl | exact Or.inr rfl))) (fun _ _ _ _ _ => pts_nil) (fun _ _ _ _ _ => (pe_cal c__law_table (hr.mono (by omega)) (pa_cons (pv 2) pa_nil)))) (pss_one (ps_ret (pe_lst (pa_cons (pv 5) (pa_cons (pv 9) (pa_cons (pe_ix ix_seq (pv 3) pe_int (fun _ _ => rfl)) (pa_cons (pe_cal c__law_next (hr.mono (by omega)) (pa_cons (pv 2) (pa_cons (pe_ix ix_seq (pv 3) pe_int (fun _ _ => rfl)) pa_nil))) (pa_cons (pv 4) pa_nil))))))))))))))), ?_⟩
  rw [t_law_form]
  try dsimp only [cxOf, Cx.nox, Cx.wish]
  walk_at "rd"
  refine rd_sp2 ⟨l, ns, 0, rfl, rfl, hl, fun r1 => ?_⟩
  walk_at "rd"
  refine rd_sp2 ⟨_, _, rfl, rfl, fun r2 r20 r21 => ?_⟩
  walk_at "rd"
  refine new_lst fun st H1 hst E1 h1 => ?_
  walk_at "rd"
  refine rd_sp2 ⟨l, ns, 1, rfl, rfl, sql_ex hl E1, fun r3 => ?_⟩
  walk_at "rd"
  refine rd_sp2 ⟨_, _, rfl, rfl, fun c c0 c1 => ?_⟩
  walk_at "rd"
  refine rd_sp2 ⟨c, M, rfl, rfl, hM, hM2, fun dz H2 n tb ch hz2 n1 nM tb5 ch8 E2 => ?_⟩
  walk_at "rd"
  have hs2 : ∃ s, H2 st = some (.lst [.int s]) := ⟨_, E2 _ _ h1⟩
  refine rd_sp1 ⟨st, rfl, hs2, fun wd ws H3 W nwd hwd S3 => ?_⟩
  have e03 : Ex H H3 := st_exc hst (E1.trans E2) S3
  have hwdH : H wd = none := free_of (E1.trans E2) hwd
  have hz3 := sqt_st hz2 S3
  walk_at "rd"
  refine new_tup fun p4 H4 hp4 E4 h4 => ?_
  walk_at "rd"
  refine new_lst fun p5 H5 hp5 E5 h5 => ?_
  walk_at "rd"
  refine rd_ixTk (n := 0) (sqt_ex (sqt_ex hz3 E4) E5) rfl rfl ?_
  walk_at "rd"
  refine rd_rep h5 (by omega) (by omega) (by show 1 ≤ 100; decide) fun la H6 hla E6 h6 => ?_
  rw [flat_one, Int.toNat_natCast] at h6
  walk_at "rd"
  refine new_lst fun sn H7 hsn E7 h7 => ?_
  walk_at "rd"
  have E37 : Ex H3 H7 := ((E4.trans E5).trans E6).trans E7
  have e07 : Ex H H7 := e03.trans E37
  have hs7 := sta_ex S3.st E37
  have hz7 := sqt_ex hz3 E37
  refine rd_ixTk (n := 0) hz7 rfl rfl ?_
  walk_at "rd"
  refine rd_sp2 ⟨st, n, rfl, rfl, hs7, by omega, fun po ord H8 h8 pm npo hpo S8 => ?_⟩
  walk_at "rd"
  have tv4 : Tv K H7 (.ref p4) (.tup [.str "number", .int 0]) := .tup (sqt_ex (sqt_ex (sqt_ex (.of h4) E5) E6) E7) (.cons (.str _ (by decide)) (.cons (.int _) .nil))
  have hlaH : H la = none := free_of e03 (free_of (E4.trans E5) hla)
  have hsnH : H sn = none := free_of e03 (free_of ((E4.trans E5).trans E6) hsn)
  have nla : la ≠ st := ne_st (sta_ex S3.st (E4.trans E5)) hla
  have nsn : sn ≠ st := ne_st (sta_ex S3.st ((E4.trans E5).trans E6)) hsn
  have nsl : sn ≠ la := by rintro rfl; rw [h6] at hsn; cases hsn
  have npol : po ≠ la := by rintro rfl; rw [E7 _ _ h6] at hpo; cases hpo
  have npos : po ≠ sn := by rintro rfl; rw [h7] at hpo; cases hpo
  have nwl : wd ≠ la := by rintro rfl; rw [(E4.trans E5) _ _ W.at_] at hla; cases hla
  have nws : wd ≠ sn := by rintro rfl; rw [((E4.trans E5).trans E6) _ _ W.at_] at hsn; cases hsn
  have W8 : H8 wd = some (.lst (ws.map V.str)) := lst_st (E37 _ _ W.at_) S8 nwd
  have hz8 := sqt_st hz7 S8
  have e08 : Ex H H8 := st_exc hst e07 S8
  have hpoH : H po = none := free_of e07 hpo
  have lord : ord.length = n := by rw [pm.length_eq, List.length_range]
  have mem : ∀ x, x ∈ ord ↔ x < n := fun x => by rw [pm.mem_iff, List.mem_range]
  have nd : ord.Nodup := pm.nodup_iff.mpr List.nodup_range
  refine forW_L (ord.map iv) (fun i σ H' => ∃ (vs : List V) (ts : List Qa.T) (x y : Option V), σ = [some (.ref l), some (.int M), some (.ref st), some (.ref dz), some (.ref wd), some (.ref la), some (.ref sn), x, y, none, none] ∧ Ex H H' ∧ (∃ s, H' st = some (.lst [.int s])) ∧ H' po = some (.lst (ord.map iv)) ∧ H' wd = some (.lst (ws.map V.str)) ∧ SqT K H' dz [.int n, .int tb, .int ch] ∧ H' la = some (.lst vs) ∧ TvA K H' vs ts ∧ ts.length = n ∧
    H' sn = some (.lst ((ord.take i).map iv)) ∧ (∀ t ∈ ts, isRule ⟨n, tb, ch⟩ 8 t = true) ∧ (∀ (j : Nat) (t : Qa.T), ts[j]? = some t → ∀ x : Nat, ik x ∈ beh "line" 8 t → Bf ord x j)) ?_ ?_ ?_ ?_
  · refine ⟨List.replicate n (.ref p4), List.replicate n (.tup [.str "number", .int 0]), _, _, rfl, e08, S8.st, h8, W8, hz8, lst_st (E7 _ _ h6) S8 nla, TvA.rep (tv_st tv4 S8) n, List.length_replicate, lst_st h7 S8 nsn, fun t ht => ?_, fun j t ht x hx => ?_⟩
    · rw [List.eq_of_mem_replicate ht]
      exact isRule_mono (n := 1) (by rw [R_number]; decide) (by decide)
    · rw [List.eq_of_mem_replicate (List.mem_of_getElem? ht)] at hx
      have hx : ik x ∈ ([] : List Key) := hx
      cases hx
  · rintro i σ H' hi ⟨vs, ts, x, y, rfl, _, _, h, _⟩
    exact .of h
  · rintro i u σ H9 hu ⟨vs, ts, x0, y0, rfl, E9, st9, hpo9, hwd9, hz9, hla9, tv9, lts, hsn9, hru, hbf⟩
    rw [List.getElem?_map] at hu
    cases eu : ord[i]? with
    | none => rw [eu] at hu; cases hu
    | some y =>
    rw [eu] at hu
    cases (Option.some.inj hu)
    have hi : i < ord.length := (List.getElem?_eq_some_iff.mp eu).1
    have hy : y < n := (mem y).mp (List.mem_of_getElem? eu)
    have et : ord.take (i + 1) = ord.take i ++ [y] := by rw [List.take_add_one, eu]; rfl
    walk_at "rd"
    refine nx st9 (by decide) fun r10 H10 a10 b10 S10 => ?_
    walk_at "rd"
    refine rd_cut (fun σ H' => ∃ m : Nat, m ≤ 7 ∧ σ = [some (.ref l), some (.int M), some (.ref st), some (.ref dz), some (.ref wd), some (.ref la), some (.ref sn), some (iv y), some (.int ((m : Nat) + 1 : Int)), none, none] ∧ St1 st H9 H') ?_ ?_
    · walk_at "rd"
      refine nx S10.st (by decide) fun r11 H11 a11 b11 S11 => ?_
      walk_at "rd"
      refine rd_ite (fun h => ?_) (fun h => ?_)
      · walk_at "rd"
        refine nx S11.st (by decide) fun r12 H12 a12 b12 S12 => ?_
        walk_at "rd"
        exact ⟨(3 + r12).toNat, by omega, by rw [show (((3 + r12).toNat : Nat) : Int) + 1 = 4 + r12 by omega], (S10.trans S11).trans S12⟩
      · walk_at "rd"
        exact ⟨r10.toNat, by omega, by rw [show ((r10.toNat : Nat) : Int) + 1 = 1 + r10 by omega], S10.trans S11⟩
    rintro σ H11 ⟨m, hm, rfl, S11⟩
    walk_at "rd"
    refine rd_lstOfL (.of (lst_st hsn9 S11 nsn)) fun s2 H12 hs2' E12 h12 => ?_
    walk_at "rd"
    have ns2 : s2 ≠ st := ne_st S11.st hs2'
    have h12' : H12 s2 = some (.lst (((ord.take i).map fun x : Nat => (x : Int)).map V.int)) := by rw [h12, iv_int]
    have D12 : Dr K H12 st s2 dz wd ⟨n, tb, ch⟩ ((ord.take i).map fun x : Nat => (x : Int)) := by
      refine ⟨sta_ex S11.st E12, h12', by rw [List.length_map, List.length_take]; omega, fun x hx => ?_, ns2, sqt_ex (sqt_st hz9 S11) E12, ⟨ws, E12 _ _ (lst_st hwd9 S11 nwd), W.one, W.few, W.good⟩, nwd, by show (0 : Int) < (n : Int); omega⟩
      obtain ⟨z, hz, rfl⟩ := List.mem_map.mp hx
      have := (mem z).mp (List.mem_of_mem_take hz)
      exact place_i (by omega) (by show (z : Int) < (n : Int); omega)
    refine rd_sp5 ⟨st, s2, dz, wd, _, _, m, hm, rfl, rfl, rfl, rfl, rfl, D12, fun v t H13 tv13 rb S13 => ?_⟩
    have S : St1 st H9 H13 := (S11.trans (St1.ex S11.st E12)).trans S13
    have E13 : Ex H H13 := st_exc hst E9 S
    have hla13 : H13 la = some (.lst vs) := lst_st hla9 S nla
    have hsn13 : H13 sn = some (.lst ((ord.take i).map iv)) := lst_st hsn9 S nsn
    have lvs : vs.length = n := by rw [tv9.len, lts]
    walk_at "rd"
    refine rd_setL hla13 (j := y) (ixN_n (by omega)) ?_
    have tm := Tame.upd (ys := vs.set y v) hla13
    generalize eH : upd H13 la (.lst (vs.set y v)) = H14 at tm
    have hla14 : H14 la = some (.lst (vs.set y v)) := by rw [← eH]; exact upd_same
    have k14 : ∀ b, b ≠ la → H14 b = H13 b := fun b hb => by rw [← eH, upd_ne hb]
    have E14 : Ex H H14 := by rw [← eH]; exact ex_new hlaH E13
    clear eH
    have hsn14 : H14 sn = some (.lst ((ord.take i).map iv)) := by rw [k14 sn nsl]; exact hsn13
    walk_at "rd"
    refine rd_append hsn14 (by rw [List.length_map, List.length_take]; omega) ?_
    walk_at "rd"
    have tm2 := Tame.upd (ys := (ord.take i).map iv ++ [iv y]) hsn14
    have tvn : TvA K H14 (vs.set y v) (ts.set y t) := TvA.set (tm.tv tv13) (tm.tvA (tva_st tv9 S))
    have lset : (ts.set y t).length = n := by rw [List.length_set, lts]
    have st14 : ∃ s, H14 st = some (.lst [.int s]) := by rw [k14 st nla.symm]; exact S.st
    refine ⟨vs.set y v, ts.set y t, _, _, rfl, ex_new hsnH E14, by rw [upd_ne nsn.symm]; exact st14, by rw [upd_ne npos, k14 po npol]; exact lst_st hpo9 S npo, by rw [upd_ne nws, k14 wd nwl]; exact lst_st hwd9 S nwd, tm2.sqT (tm.sqT (sqt_st hz9 S)), by rw [upd_ne nsl.symm]; exact hla14, tm2.tvA tvn, lset, by rw [upd_same, et, List.map_append]; rfl, fun t' ht' => ?_, fun j t' ht' x hx => ?_⟩
    · rcases List.mem_or_eq_of_mem_set ht' with h | rfl
      · exact hru t' h
      · exact isRule_mono rb.ru (by omega)
    · rw [List.getElem?_set] at ht'
      by_cases ej : y = j
      · subst ej
        rw [if_pos rfl, if_pos (by omega)] at ht'
        cases ht'
        rw [beh_mono rb.ru (show m + 1 ≤ 8 by omega)] at hx
        have := rb.nm _ hx
        obtain ⟨z, hz, e⟩ := List.mem_map.mp this
        obtain ⟨z', hz', rfl⟩ := List.mem_map.mp hz
        have ez : z' = x := by have := Sum.inl.inj e; omega
        subst ez
        obtain ⟨a, ha⟩ := List.getElem?_of_mem hz'
        rw [List.getElem?_take] at ha
        split at ha
        · exact ⟨a, i, by assumption, ha, eu⟩
        · cases ha
      · rw [if_neg ej] at ht'
        exact hbf j t' ht' x hx
  · rintro σ H9 ⟨vs, ts, x0, y0, rfl, E9, st9, hpo9, hwd9, hz9, hla9, tv9, lts, hsn9, hru, hbf⟩
    walk_at "rd"
    refine rd_ixTk (n := 1) hz9 rfl rfl ?_
    walk_at "rd"
    refine lcW_R (fun D i H' => ∃ (tvs : List V) (rows : List (List Qr.Row)), H' D = some (.lst tvs) ∧ TvA K H' tvs (rows.map fun r => .tup (r.map rowT)) ∧ rows.length = i ∧ (∀ r ∈ rows, GoodTab r) ∧ Ex H H' ∧ St1 st H9 H' ∧ D ≠ st) ?_ ?_ ?_
    · exact fun D H' hD e h => ⟨[], [], h, .nil, rfl, (fun r h => by cases h), E9.trans e, .ex st9 e, ne_st st9 hD⟩
    · rintro D i H10 hD hi ⟨tvs, rows, hD10, tv10, lr, hg, E10, S10, nD⟩
      rw [Int.toNat_natCast] at hi
      walk_at "lcn"
      walk_at "rd"
      refine rd_sp1 ⟨st, rfl, S10.st, fun v r H11 gr tv11 S11 => ?_⟩
      have hD11 := lst_st hD10 S11 nD
      have hDH : H D = none := free_of E9 hD
      have tm := Tame.upd (ys := tvs ++ [v]) hD11
      refine ⟨tvs, hD11, by rw [tv10.len, List.length_map, sizeLine_eq]; omega, tvs ++ [v], rows ++ [r], upd_same, ?_, by rw [List.length_append, lr]; rfl, fun r' hr' => ?_, ex_new hDH (st_exc hst E10 S11), (S10.trans S11).upd hD hD11 nD, nD⟩
      · rw [List.map_append]
        exact tm.tvA ((tva_st tv10 S11).append (.cons tv11 .nil))
      · rcases List.mem_append.mp hr' with h | h
        · exact hg r' h
        · rw [List.mem_singleton] at h
          subst h
          exact gr
    · rintro ta H10 hta ⟨tvs, rows, hta10, tv10, lr, hg, E10, S10, nta⟩
      rw [Int.toNat_natCast] at lr
      walk_at "rd"
      have hz10 := sqt_st hz9 S10
      refine rd_ixTk (n := 2) hz10 rfl rfl ?_
      walk_at "rd"
      refine rd_ixTk (n := 0) hz10 rfl rfl ?_
      walk_at "rd"
      refine nx S10.st (by omega) fun r11 H11 a11 b11 S11 => ?_
      walk_at "rd"
      refine new_lst fun p H12 hp E12 h12 => ?_
      have S911 := S10.trans S11
      have hta11 := lst_st hta10 S11 nta
      have nlt : la ≠ ta := by rintro rfl; rw [hla9] at hta; cases hta
      have E11 : Ex H H11 := st_exc hst E10 S11
      refine q p la ta wd vs tvs ts rows ch r11.toNat ord ws H12 ?_ ⟨E12 _ _ (lst_st hla9 S911 nla), tva_ex (tva_st tv9 S911) E12, by omega, by rw [lts, lr]; exact hru, by rw [lts]; exact pm, hbf, E12 _ _ hta11, tva_ex (tva_st tv10 S11) E12, hg, by omega, ch8⟩ (by omega) (by omega) ⟨E12 _ _ (lst_st hwd9 S911 nwd), W.one, W.few, W.good⟩ (free_of E11 hp) hlaH (free_of E9 hta) hwdH nlt (by rintro rfl; rw [lst_st hla9 S911 nla] at hp; cases hp) (by rintro rfl; rw [hta11] at hp; cases hp) nwl (by rintro rfl; rw [hwd9] at hta; cases hta) (E11.trans E12)
      rw [h12, show ((r11.toNat : Nat) : Int) = r11 by omega]
end
end KF
open PySem PySem.Spec PyProof.Rows L2 Qa Qr
open Qg


namespace KF
section
variable {P : Program} {w : World} {K : PySem.W.Frag} {mg : Str → Option Value} {base : Heap} {H : Hp} {Q : VK} {E : XK}
def spNeedT (K : PySem.W.Frag) : Sp := sp1 fun a H Q => ∃ ta tvs tts, a = .ref ta ∧ SqL K H ta tvs ∧ TvA K H tvs tts ∧ (∀ t ∈ tts, isTable t = true) ∧ tts.length ≤ 5 ∧ ∀ H', Ex H H' → Q .non H'
theorem k__need_tables (T : Tx K w mg) (c_is_table : Cal P w K mg base "is_table" 5 pis_table (spTab K)) : Cal P w K mg base "_need_tables" 6 p_need_tables (spNeedT K) := by
  refine cal1 T.F__need_tables sc_need_tables b_need_tables rfl fun g cdv A outer s H a Q E hr h => ?_
  obtain ⟨ta, tvs, tts, rfl, hl, htv, hg, hn, q⟩ := h
  refine ⟨_, (pss_cons (ps_if (pt_cmpR op_gt (pe_callB cr_lenA (by rfl) T.m_len (by decide +kernel) (pa_cons (pv 0) pa_nil)) (pe_gint T.g_MOST_TABLES) (nomark _)) (pss_one ps_never) pss_nil) (pss_one (ps_for PassesOwn.never rfl (pi_seq (pv 0)) (pg_name (i := 1) (sc_need_tables).nd rfl (by first | exact Or.inl rfl | exact Or.inr rfl)) (pss_one (ps_if (pt_not (pt_tru (pe_cal c_is_table (hr.mono (by omega)) (pa_cons (pv 1) pa_nil)))) (pss_one ps_never) pss_nil))))), ?_⟩
  rw [t_need_tables]
  try dsimp only [cxOf, Cx.nox, Cx.wish]
  have lv : tvs.length = tts.length := htv.len
  walk_at "rda"
  refine rd_ite (fun h => by omega) (fun _ => ?_)
  walk_at "rd"
  refine forW_Lx hl (fun i σ H' => (∃ x, σ = [some (.ref ta), x]) ∧ Ex H H') ?_ ?_ ?_ ?_
  · exact ⟨⟨_, rfl⟩, Evl.Ex.refl _⟩
  · rintro i σ H' hi ⟨_, e⟩
    exact sql_ex hl e
  · rintro i v σ H1 hv ⟨⟨x, rfl⟩, e⟩
    obtain ⟨t, ht, vt⟩ := htv.getV hv
    walk_at "rd"
    refine rd_sp1 ⟨t, tv_ex vt e, fun H2 e2 => ?_⟩
    rw [hg t (List.mem_of_getElem? ht)]
    walk_at "rd"
    exact ⟨⟨_, rfl⟩, e.trans e2⟩
  · rintro σ H1 ⟨⟨x, rfl⟩, e⟩
    walk_at "rd"
    exact q H1 e
def spNeedS (K : PySem.W.Frag) : Sp := sp3 fun a b c H Q => ∃ (la : Addr) (vs : List V) (ch ow : Nat), a = .ref la ∧ b = .int ch ∧ c = .int ow ∧ SqL K H la vs ∧ 1 ≤ vs.length ∧ vs.length ≤ 40 ∧ ch ≤ 8 ∧ ow < vs.length ∧ Q .non H
theorem k__need_sizes (T : Tx K w mg) (c_is_within : Cal P w K mg base "is_within" 2 pis_within (spWithin K)) (c_is_place : Cal P w K mg base "is_place" 3 pis_place (spPlace K)) : Cal P w K mg base "_need_sizes" 4 p_need_sizes (spNeedS K) := by
  refine cal3 T.F__need_sizes sc_need_sizes b_need_sizes rfl fun g cdv A outer s H a b c Q E hr h => ?_
  obtain ⟨la, vs, ch, ow, rfl, rfl, rfl, hl, h1, h2, h3, h4, q⟩ := h
  refine ⟨_, (pss_cons (ps_if (pt_not (pt_tru (pe_cal c_is_within (hr.mono (by omega)) (pa_cons (pe_callB cr_lenA (by rfl) T.m_len (by decide +kernel) (pa_cons (pv 0) pa_nil)) (pa_cons pe_int (pa_cons (pe_gint T.g_MOST_LINES) pa_nil)))))) (pss_one ps_never) pss_nil) (pss_cons (ps_if (pt_not (pt_tru (pe_cal c_is_within (hr.mono (by omega)) (pa_cons (pv 1) (pa_cons pe_int (pa_cons (pe_gint T.g_MOST_CHOICES) pa_nil)))))) (pss_one ps_never) pss_nil) (pss_one (ps_if (pt_not (pt_tru (pe_cal c_is_place (hr.mono (by omega)) (pa_cons (pv 2) (pa_cons (pe_callB cr_lenA (by rfl) T.m_len (by decide +kernel) (pa_cons (pv 0) pa_nil)) pa_nil))))) (pss_one ps_never) pss_nil)))), ?_⟩
  rw [t_need_sizes]
  try dsimp only [cxOf, Cx.nox, Cx.wish]
  walk_at "rda"
  refine rd_sp3 ⟨.int vs.length, 1, 40, .int _, rfl, rfl, ?_⟩
  rw [show within (.int (vs.length : Int)) 1 40 = true by show (decide ((1 : Int) ≤ vs.length) && decide ((vs.length : Int) ≤ 40)) = true; simp; omega]
  walk_at "rd"
  refine rd_sp3 ⟨.int ch, 0, 8, .int _, rfl, rfl, ?_⟩
  rw [show within (.int (ch : Int)) 0 8 = true by show (decide ((0 : Int) ≤ ch) && decide ((ch : Int) ≤ 8)) = true; simp; omega]
  walk_at "rda"
  refine rd_sp2 ⟨.int ow, _, .int _, rfl, ?_⟩
  rw [show isPlace (.int (ow : Int)) (vs.length : Int) = true by show (decide ((0 : Int) ≤ ow) && decide ((ow : Int) ≤ (vs.length : Int) - 1)) = true; simp; omega]
  walk_at "rd"
  exact q
def spNeedR (K : PySem.W.Frag) : Sp := sp3 fun a b c H Q => ∃ (la : Addr) (vs : List V) (ts : List T) (tb ch : Int), a = .ref la ∧ b = .int tb ∧ c = .int ch ∧ SqL K H la vs ∧ TvA K H vs ts ∧ (∀ t ∈ ts, isRule ⟨ts.length, tb, ch⟩ 8 t = true) ∧ ∀ H', Ex H H' → Q .non H'
theorem k__need_rules (T : Tx K w mg) (c_is_rule : Cal P w K mg base "is_rule" 20 pis_rule (spIsRule K)) : Cal P w K mg base "_need_rules" 21 p_need_rules (spNeedR K) := by
  refine cal3 T.F__need_rules sc_need_rules b_need_rules rfl fun g cdv A outer s H a b c Q E hr h => ?_
  obtain ⟨la, vs, ts, tb, ch, rfl, rfl, rfl, hl, htv, hg, q⟩ := h
  refine ⟨_, (pss_one (ps_for PassesOwn.never rfl (pi_seq (pv 0)) (pg_name (i := 3) (sc_need_rules).nd rfl (by first | exact Or.inl rfl | exact Or.inr rfl)) (pss_one (ps_if (pt_not (pt_tru (pe_cal c_is_rule (hr.mono (by omega)) (pa_cons (pv 3) (pa_cons (pe_callB cr_lenA (by rfl) T.m_len (by decide +kernel) (pa_cons (pv 0) pa_nil)) (pa_cons (pv 1) (pa_cons (pv 2) pa_nil))))))) (pss_one ps_never) pss_nil)))), ?_⟩
  rw [t_need_rules]
  try dsimp only [cxOf, Cx.nox, Cx.wish]
  have lv : vs.length = ts.length := htv.len
  walk_at "rd"
  refine forW_Lx hl (fun i σ H' => (∃ x, σ = [some (.ref la), some (.int tb), some (.int ch), x]) ∧ Ex H H') ?_ ?_ ?_ ?_
  · exact ⟨⟨_, rfl⟩, Evl.Ex.refl _⟩
  · rintro i σ H' hi ⟨_, e⟩
    exact sql_ex hl e
  · rintro i v σ H1 hv ⟨⟨x, rfl⟩, e⟩
    obtain ⟨t, ht, vt⟩ := htv.getV hv
    walk_at "rd"
    refine rd_lenL (sql_ex hl e) ?_
    walk_at "rd"
    refine rd_sp4 ⟨t, ⟨ts.length, tb, ch⟩, tv_ex vt e, by rw [lv], rfl, rfl, fun H2 e2 => ?_⟩
    rw [hg t (List.mem_of_getElem? ht)]
    walk_at "rd"
    exact ⟨⟨_, rfl⟩, e.trans e2⟩
  · rintro σ H1 ⟨⟨x, rfl⟩, e⟩
    walk_at "rd"
    exact q H1 e
/-- a form, as it stands -/
structure FormAt (K : PySem.W.Frag) (H : Hp) (p : Addr) (ts : List T) (tts : List T) (ch ow : Nat) : Prop where
  at_ : ∃ lt tt vs tvs, SqT K H p [.ref lt, .ref tt, .int ch, .int ow] ∧ SqT K H lt vs ∧ TvA K H vs ts ∧ SqT K H tt tvs ∧ TvA K H tvs tts
theorem FormAt.tame {H H' : Hp} {p : Addr} {ts tts : List T} {ch ow : Nat} (h : FormAt K H p ts tts ch ow) (e : Tame H H') : FormAt K H' p ts tts ch ow := by
  obtain ⟨lt, tt, vs, tvs, h1, h2, h3, h4, h5⟩ := h.at_
  exact ⟨lt, tt, vs, tvs, e.sqT h1, e.sqT h2, e.tvA h3, e.sqT h4, e.tvA h5⟩
def spFormOf (K : PySem.W.Frag) : Sp := sp4 fun a b c d H Q => ∃ (la ta : Addr) (vs tvs : List V) (ts tts : List T) (ch ow : Nat), a = .ref la ∧ b = .ref ta ∧ c = .int ch ∧ d = .int ow ∧ SqL K H la vs ∧ TvA K H vs ts ∧ SqL K H ta tvs ∧ TvA K H tvs tts ∧ 1 ≤ ts.length ∧ ts.length ≤ 40 ∧ ch ≤ 8 ∧ ow < ts.length ∧
  (∀ t ∈ tts, isTable t = true) ∧ tts.length ≤ 5 ∧ (∀ t ∈ ts, isRule ⟨ts.length, tts.length, ch⟩ 8 t = true) ∧ Acyc (nmOf ts) ∧ ∀ p H', FormAt K H' p ts tts ch ow → H p = none → Ex H H' → Q (.ref p) H'
theorem k_form_of (T : Tx K w mg) (c__need_tables : Cal P w K mg base "_need_tables" 6 p_need_tables (spNeedT K)) (c__need_sizes : Cal P w K mg base "_need_sizes" 4 p_need_sizes (spNeedS K)) (c__need_rules : Cal P w K mg base "_need_rules" 21 p_need_rules (spNeedR K)) (c_ring_of : Cal P w K mg base "ring_of" 12 pring_of (spRingOf K)) : Cal P w K mg base "form_of" 22 pform_of (spFormOf K) := by
  refine cal4 T.F_form_of scform_of bform_of rfl fun g cdv A outer s H a b c d Q E hr h => ?_
  obtain ⟨la, ta, vs, tvs, ts, tts, ch, ow, rfl, rfl, rfl, rfl, hl, htv, htl, httv, h1, h2, h3, h4, h5, h6, h7, h8, q⟩ := h
  refine ⟨_, (pss_cons (ps_expr (pe_cal c__need_tables (hr.mono (by omega)) (pa_cons (pv 1) pa_nil))) (pss_cons (ps_expr (pe_cal c__need_sizes (hr.mono (by omega)) (pa_cons (pv 0) (pa_cons (pv 2) (pa_cons (pv 3) pa_nil))))) (pss_cons (ps_expr (pe_cal c__need_rules (hr.mono (by omega)) (pa_cons (pv 0) (pa_cons (pe_callB cr_lenA (by rfl) T.m_len (by decide +kernel) (pa_cons (pv 1) pa_nil)) (pa_cons (pv 2) pa_nil))))) (pss_cons (ps_if (pt_tru (pe_cal c_ring_of (hr.mono (by omega)) (pa_cons (pv 0) pa_nil))) (pss_one ps_never) pss_nil) (pss_one (ps_ret (pe_tup (pa_cons (pe_callTy cr_tupOf (by rfl) T.m_tuple (by decide +kernel) (pa_cons (pv 0) pa_nil)) (pa_cons (pe_callTy cr_tupOf (by rfl) T.m_tuple (by decide +kernel) (pa_cons (pv 1) pa_nil)) (pa_cons (pv 2) (pa_cons (pv 3) pa_nil))))))))))), ?_⟩
  rw [tform_of]
  try dsimp only [cxOf, Cx.nox, Cx.wish]
  have lv : vs.length = ts.length := htv.len
  have ltv : tvs.length = tts.length := httv.len
  walk_at "rd"
  refine rd_sp1 ⟨ta, tvs, tts, rfl, htl, httv, h5, h6, fun H1 e1 => ?_⟩
  walk_at "rd"
  refine rd_sp3 ⟨la, vs, ch, ow, rfl, rfl, rfl, sql_ex hl e1, by omega, by omega, h3, by omega, ?_⟩
  walk_at "rd"
  refine rd_lenL (sql_ex htl e1) ?_
  walk_at "rd"
  refine rd_sp3 ⟨la, vs, ts, tvs.length, ch, rfl, rfl, rfl, sql_ex hl e1, tva_ex htv e1, by rw [ltv]; exact h7, fun H2 e2 => ?_⟩
  walk_at "rd"
  have e02 := e1.trans e2
  refine rd_sp1 ⟨la, vs, ts, _, rfl, sql_ex hl e02, tva_ex htv e02, h7, h2, fun p r H3 hb hp e3 h3' => ?_⟩
  rw [acyc_best h8 hb] at h3'
  have e03 := e02.trans e3
  walk_at "rd"
  refine rd_truL (.of h3') ?_
  rw [List.map_nil]
  walk_at "rd"
  refine rd_tupOfL (sql_ex hl e03) fun lt H4 hlt E4 h4' => ?_
  walk_at "rd"
  refine rd_tupOfL (sql_ex (sql_ex htl e03) E4) fun tt H5 htt E5 h5' => ?_
  walk_at "rd"
  refine new_tup fun p6 H6 hp6 E6 h6' => ?_
  have e46 := E5.trans E6
  exact q p6 H6 ⟨lt, tt, vs, tvs, .of h6', sqt_ex (.of h4') e46, tva_ex (tva_ex (tva_ex htv e03) E4) e46, sqt_ex (.of h5') E6, tva_ex (tva_ex (tva_ex (tva_ex httv e03) E4) E5) E6⟩ (free_of ((e03.trans E4).trans E5) hp6) (((e03.trans E4).trans E5).trans E6)
end
end KF
open PySem PySem.Spec PyProof.Rows L2 Qa Qr
open Qg


namespace KF
section
variable {P : Program} {w : World} {K : PySem.W.Frag} {mg : Str → Option Value} {base : Heap} {H : Hp} {Q : VK} {E : XK}
def wl (n : Nat) (f : Nat → Nat) : List V := (List.range n).map fun z => iv (f z)
theorem wl_len (n : Nat) (f : Nat → Nat) : (wl n f).length = n := by unfold wl; rw [List.length_map, List.length_range]
theorem wl_get {n : Nat} {f : Nat → Nat} {k : Nat} (h : k < n) : (wl n f)[k]? = some (iv (f k)) := by
  unfold wl
  rw [List.getElem?_map, List.getElem?_range h]
  rfl
theorem wl_congr {n : Nat} {f f' : Nat → Nat} (h : ∀ z, z < n → f z = f' z) : wl n f = wl n f' := by
  unfold wl
  refine List.map_congr_left fun z hz => ?_
  rw [h z (List.mem_range.mp hz)]
theorem wl_set {n : Nat} {f : Nat → Nat} {k v : Nat} : (wl n f).set k (iv v) = wl n (fun z => if z = k then v else f z) := by
  refine List.ext_getElem? fun i => ?_
  rw [List.getElem?_set, wl_len]
  by_cases h : i < n
  · rw [wl_get h, wl_get h]
    by_cases e : k = i
    · subst e
      rw [if_pos rfl, if_pos h, if_pos rfl]
    · rw [if_neg e, if_neg (Ne.symm e)]
  · have e1 : (wl n f)[i]? = none := List.getElem?_eq_none (by rw [wl_len]; omega)
    have e2 : (wl n (fun z => if z = k then v else f z))[i]? = none := List.getElem?_eq_none (by rw [wl_len]; omega)
    rw [e1, e2]
    by_cases e : k = i
    · rw [if_pos e, if_neg (by omega)]
    · rw [if_neg e]
/-- which lines can stand next -/
def Rdy (nm : List (List Nat)) (ok : Nat → Prop) (ns : List Int) : Prop := ns.Nodup ∧ ∀ x : Int, x ∈ ns ↔ ∃ z : Nat, x = z ∧ z < nm.length ∧ ok z
theorem Rdy.len {nm : List (List Nat)} {ok : Nat → Prop} {ns : List Int} (h : Rdy nm ok ns) : ns.length ≤ nm.length := by
  have := nodup_sub (m := (List.range nm.length).map fun z : Nat => (z : Int)) h.1 fun x hx => by
    obtain ⟨z, rfl, hz, _⟩ := (h.2 x).mp hx
    exact List.mem_map.mpr ⟨z, List.mem_range.mpr hz, rfl⟩
  rw [List.length_map, List.length_range] at this
  exact this
theorem hp_sorted {ns : List Int} (h : ns.Pairwise (· ≤ ·)) : hpL ns := by
  intro i h0 h1
  rw [List.getD_eq_getElem?_getD, List.getD_eq_getElem?_getD, List.getElem?_eq_getElem h1, List.getElem?_eq_getElem (show (i - 1) / 2 < ns.length by omega)]
  exact List.pairwise_iff_getElem.mp h _ _ (by omega) h1 (by omega)
def spOrderOf (K : PySem.W.Frag) : Sp := sp1 fun a H Q => ∃ p ts tts ch ow sz, a = .ref p ∧ FormAt K H p ts tts ch ow ∧ (∀ t ∈ ts, isRule sz 8 t = true) ∧ ts.length ≤ 40 ∧ Acyc (nmOf ts) ∧ ∀ (r : Addr) (ord : List Nat) (H' : Hp), Topo (nmOf ts) ord → ord.length = ts.length → H r = none → Ex H H' → H' r = some (.lst (ord.map iv)) → Q (.ref r) H'
theorem k_order_of (T : Tx K w mg) (c__lines_named : Cal P w K mg base "_lines_named" 11 p_lines_named (spLinesNamedT K)) : Cal P w K mg base "order_of" 12 porder_of (spOrderOf K) := by
  refine cal1 T.F_order_of scorder_of border_of rfl fun g cdv A outer s H a Q E hr h => ?_
  obtain ⟨p, ts, tts, ch, ow, sz, rfl, hF, hru, hn, hac, q⟩ := h
  refine ⟨_, (pss_cons (ps_set (i := 1) (scorder_of).nd rfl (by first | exact Or.inl rfl | exact Or.inr rfl) (pe_cal c__lines_named (hr.mono (by omega)) (pa_cons (pe_ix ix_seq (pv 0) (pe_gint T.g_LINES) (fun _ _ => rfl)) pa_nil))) (pss_cons (ps_setLc (i := 2) (own := [("row", 3)]) rfl (scorder_of).nd rfl rfl (sw_true rfl rfl rfl (by decide +kernel)) (pi_seq (pv 1)) (blkOk_by (N := norder_of) (sc := defScope sorder_of) (by decide +kernel)) (fun _ _ _ _ _ => (pg_name (i := 3) (scorder_of).nd rfl (by first | exact Or.inl rfl | exact Or.inr rfl))) (fun _ _ _ _ _ => pts_nil) (fun _ _ _ _ _ => (pe_callB (lenK (K := K) rfl) (by rfl) T.m_len (by decide +kernel) (pa_cons (pv 3) pa_nil)))) (pss_cons (ps_setLc (i := 4) (own := [("line", 5), ("many", 6)]) rfl (scorder_of).nd rfl rfl (sw_true rfl rfl rfl (by decide +kernel)) (pi_enum (by rfl) T.m_enumerate (pa_cons (pv 2) pa_nil)) (blkOk_by (N := norder_of) (sc := defScope sorder_of) (by decide +kernel)) (fun _ _ _ _ _ => (pg_tupK (K := K) rfl (n := 2) rfl (pgs_cons (pg_name (i := 5) (scorder_of).nd rfl (by first | exact Or.inl rfl | exact Or.inr rfl)) (pgs_cons (pg_name (i := 6) (scorder_of).nd rfl (by first | exact Or.inl rfl | exact Or.inr rfl)) pgs_nil)))) (fun _ _ _ _ _ => (pts_one (pt_cmpR (eqK (K := K) rfl hr) (pv 6) pe_int (nomark _)))) (fun _ _ _ _ _ => (pv 5))) (pss_cons (ps_set (i := 7) (scorder_of).nd rfl (by first | exact Or.inl rfl | exact Or.inr rfl) (pe_lst pa_nil)) (pss_cons (ps_while PassesOwn.never (pt_tru (pv 4)) (pss_cons (ps_set (i := 5) (scorder_of).nd rfl (by first | exact Or.inl rfl | exact Or.inr rfl) (pe_callG cr_pop (by rfl) T.g_heappop (pa_cons (pv 4) pa_nil))) (pss_cons (ps_expr (pe_bm PySem.F.plainAttrs_list PySem.F.slot_list_append PySem.F.type_list_append mt_append (pv 7) (pa_cons (pv 5) pa_nil))) (pss_one (ps_for PassesOwn.never rfl (pi_enum (by rfl) T.m_enumerate (pa_cons (pv 1) pa_nil)) (pg_tup (n := 2) rfl (pgs_cons (pg_name (i := 8) (scorder_of).nd rfl (by first | exact Or.inl rfl | exact Or.inr rfl)) (pgs_cons (pg_name (i := 3) (scorder_of).nd rfl (by first | exact Or.inl rfl | exact Or.inr rfl)) pgs_nil))) (pss_one (ps_if (pt_cmpR op_in_seq (pv 5) (pv 3) (by rfl)) (pss_cons (ps_augS (pv 2) (pv 8) get_list pe_int ip_sub set_list) (pss_one (ps_if (pt_cmpR (op_eqA hr) (pe_ix ix_seq (pv 2) (pv 8) (fun _ _ => rfl)) pe_int (nomark _)) (pss_one (ps_expr (pe_callG cr_push (by rfl) T.g_heappush (pa_cons (pv 4) (pa_cons (pv 8) pa_nil))))) pss_nil))) pss_nil))))))) (pss_one (ps_ret (pv 7)))))))), ?_⟩
  rw [torder_of]
  try dsimp only [cxOf, Cx.nox, Cx.wish]
  obtain ⟨lt, tt, vs, tvs, f1, f2, f3, f4, f5⟩ := hF.at_
  walk_at "rd"
  refine rd_ixTk (n := 0) f1 rfl rfl ?_
  walk_at "rd"
  refine rd_sp1 ⟨lt, vs, ts, sz, rfl, f2, f3, hru, hn, fun nl H1 hnm hnl E1 => ?_⟩
  have hN := nmOf_len ts
  have hrows := rows_nmOf ts
  generalize hm : nmOf ts = nm at q hac hnm hN hrows
  obtain ⟨as, hnl1, las, hrw⟩ := hnm
  have hrow : ∀ k, k < nm.length → ∃ a, as[k]? = some a ∧ H1 a = some (.lst ((row nm k).map iv)) := fun k hk => by
    obtain ⟨a, h1, h2⟩ := hrw k _ (List.getElem?_eq_getElem hk)
    have erow : nm[k] = row nm k := by unfold row; rw [List.getElem?_eq_getElem hk]; rfl
    rw [erow] at h2
    exact ⟨a, h1, h2⟩
  walk_at "rd"
  refine lcW_L (as.map V.ref) (fun D i H' => H' D = some (.lst ((wl nm.length fun z => (row nm z).length).take i)) ∧ Ex H1 H') ?_ ?_ ?_ ?_
  · exact fun D H' hD e h => ⟨h, e⟩
  · rintro D i H' hD hi ⟨_, e⟩
    exact .of (e _ _ hnl1)
  · rintro D i v H2 hD hv ⟨h2, E2⟩
    rw [List.getElem?_map] at hv
    cases ea : as[i]? with
    | none => rw [ea] at hv; cases hv
    | some a =>
    rw [ea] at hv
    cases (Option.some.inj hv)
    have hi : i < nm.length := by rw [← las]; exact (List.getElem?_eq_some_iff.mp ea).1
    obtain ⟨a', ha', hra⟩ := hrow i hi
    rw [ea] at ha'
    cases ha'
    walk_at "lcn"
    walk_at "rd"
    refine rd_lenL (.of (E2 _ _ hra)) ?_
    refine ⟨_, h2, by rw [List.length_take, wl_len, sizeLine_eq]; omega, ?_, ex_new hD E2⟩
    rw [upd_same, List.take_add_one, wl_get hi, List.length_map]
    rfl
  rintro wa H2 hwa ⟨h2, E2⟩
  rw [List.length_map, las, List.take_of_length_le (by rw [wl_len]; exact Nat.le_refl _)] at h2
  walk_at "rd"
  refine rd_enA (.of h2) ?_
  refine lcW_E (wl nm.length fun z => (row nm z).length) (fun D i H' => H' D = some (.lst ((((List.range nm.length).take i).filter fun z => decide ((row nm z).length = 0)).map iv)) ∧ Ex H2 H') ?_ ?_ ?_ ?_
  · exact fun D H' hD e h => ⟨h, e⟩
  · rintro D i H' hD hi ⟨_, e⟩
    exact .of (e _ _ h2)
  · rintro D i v T2 H3 H4 hD hv ⟨h3, E3⟩ hT2 E4 h4
    have hi : i < nm.length := by have := (List.getElem?_eq_some_iff.mp hv).1; rw [wl_len] at this; exact this
    rw [wl_get hi] at hv
    cases (Option.some.inj hv)
    have et : (List.range nm.length).take (i + 1) = (List.range nm.length).take i ++ [i] := by rw [List.take_add_one, List.getElem?_range hi]; rfl
    refine rd_gtup (SqT.of h4) rfl ?_
    walk_at "rd"
    refine ⟨rfl, ?_⟩
    walk_at "rd"
    have e0 : decide ((((row nm i).length : Nat) : Int) = 0) = decide ((row nm i).length = 0) := by rw [decide_eq_decide]; omega
    rw [e0]
    refine rd_ite (fun h5 => ?_) (fun h5 => ?_)
    · walk_at "rd"
      refine ⟨_, E4 _ _ h3, ?_, ?_, ex_new hD (E3.trans E4)⟩
      · rw [List.length_map, sizeLine_eq]
        have := List.length_filter_le (fun z => decide ((row nm z).length = 0)) ((List.range nm.length).take i)
        rw [List.length_take] at this
        omega
      · rw [upd_same, et, List.filter_append, List.filter_cons_of_pos (p := fun z => decide ((row nm z).length = 0)) (decide_eq_true h5), List.filter_nil, List.map_append]
        rfl
    · walk_at "rd"
      refine ⟨?_, E3.trans E4⟩
      rw [et, List.filter_append, List.filter_cons_of_neg (p := fun z => decide ((row nm z).length = 0)) (by rw [decide_eq_false h5]; exact Bool.false_ne_true), List.filter_nil, List.append_nil]
      exact E4 _ _ h3
  rintro ra H3 hra ⟨h3, E3⟩
  rw [wl_len, List.take_of_length_le (by rw [List.length_range]; exact Nat.le_refl _), ← iv_int] at h3
  generalize ens : (((List.range nm.length).filter fun z => decide ((row nm z).length = 0)).map fun z : Nat => (z : Int)) = ns0 at h3
  have rdy0 : Rdy nm (fun z => z ∉ ([] : List Nat) ∧ nyet nm [] z = 0) ns0 := by
    rw [← ens]
    refine ⟨?_, fun x => ?_⟩
    · rw [List.Nodup, List.pairwise_map]
      exact (List.Pairwise.filter _ List.nodup_range).imp fun h e => h (by omega)
    · rw [List.mem_map]
      constructor
      · rintro ⟨z, hz, rfl⟩
        rw [List.mem_filter, List.mem_range, decide_eq_true_iff] at hz
        exact ⟨z, rfl, hz.1, by simp, by rw [nyet_nil]; exact hz.2⟩
      · rintro ⟨z, rfl, hz, _, h0⟩
        exact ⟨z, by rw [List.mem_filter, List.mem_range, decide_eq_true_iff]; exact ⟨hz, by rw [nyet_nil] at h0; exact h0⟩, rfl⟩
  have hp0 : hpL ns0 := by
    rw [← ens]
    refine hp_sorted ?_
    rw [List.pairwise_map]
    exact (List.Pairwise.filter _ List.pairwise_lt_range).imp fun h => by omega
  walk_at "rd"
  refine new_lst fun oa H4 hoa E4 h4 => ?_
  walk_at "rd"
  have hwaH : H1 wa = none := hwa
  have nrw : ra ≠ wa := by rintro rfl; rw [h2] at hra; cases hra
  have now_ : oa ≠ wa := by rintro rfl; rw [E3 _ _ h2] at hoa; cases hoa
  have nor : oa ≠ ra := by rintro rfl; rw [h3] at hoa; cases hoa
  have hraH : H1 ra = none := free_of E2 hra
  have hoaH : H1 oa = none := free_of (E2.trans E3) hoa
  have hdd : ∀ z, (row nm z).Nodup := fun z => (hrows.at z).2.imp fun h => by omega
  refine rd_while (m0 := nm.length) (fun m σ H' => ∃ (ord : List Nat) (ns : List Int), ∃ x y z u, σ = [some (.ref p), some (.ref nl), some (.ref wa), x, some (.ref ra), y, z, some (.ref oa), u] ∧ m = nm.length - ord.length ∧ Ex H1 H' ∧ H' wa = some (.lst (wl nm.length (nyet nm ord))) ∧ H' ra = some (.lst (ns.map V.int)) ∧ H' oa = some (.lst (ord.map iv)) ∧ Topo nm ord ∧ Rdy nm (fun z => z ∉ ord ∧ nyet nm ord z = 0) ns ∧ hpL ns) ?_ ?_
  · refine ⟨[], ns0, _, _, _, _, rfl, rfl, (E2.trans E3).trans E4, ?_, E4 _ _ h3, h4, .nil, rdy0, hp0⟩
    rw [wl_congr (f' := fun z => (row nm z).length) fun z _ => nyet_nil]
    exact E4 _ _ (E3 _ _ h2)
  rintro m σ H5 ⟨ord, ns, x0, y0, z0, u0, rfl, rfl, E5, hw5, hr5, ho5, tp, rdy, hp⟩
  walk_at "rd"
  refine rd_truL (.of hr5) ?_
  cases ens2 : ns with
  | nil =>
    rw [List.map_nil]
    walk_at "rd"
    have tl := topo_len tp
    have full : ord.length = nm.length := by
      by_cases e : ord.length < nm.length
      · exfalso
        have td := topo_nodup tp
        obtain ⟨z, hz, hzo, hall⟩ := acyc_next hac (fun x y hy => (hrows.at x).1 y hy) ord (missing td.1 (fun x hx => (td.2 x hx).1) e)
        have := (rdy.2 (z : Int)).mpr ⟨z, rfl, hz, hzo, nyet_zero.mpr hall⟩
        rw [ens2] at this
        cases this
      · omega
    exact q oa ord H5 tp (by rw [full, hN]) (free_of E1 hoaH) (E1.trans E5) ho5
  | cons n0 ns1 =>
    rw [List.map_cons]
    walk_at "rd"
    refine rd_wN ?_
    have hlen := rdy.len
    walk_at "rd"
    refine rd_hpop hr5 (by rw [ens2]; exact Nat.succ_pos _) (by omega) hp fun mi ns' pm hle hp' => ?_
    have hmi : mi ∈ ns := pm.mem_iff.mp List.mem_cons_self
    obtain ⟨z, rfl, hz, hzo, hz0⟩ := (rdy.2 mi).mp hmi
    have ndc : ((z : Int) :: ns').Nodup := pm.nodup_iff.mpr rdy.1
    have nd' := (List.nodup_cons.mp ndc)
    have tp' : Topo nm (ord ++ [z]) := .snoc tp hzo hz (nyet_zero.mp hz0) fun z' h1 h2 h3 => by
      have := hle _ ((rdy.2 (z' : Int)).mpr ⟨z', rfl, h1, h2, nyet_zero.mpr h3⟩)
      omega
    generalize eH : upd H5 ra (.lst (ns'.map V.int)) = H6
    have hr6 : H6 ra = some (.lst (ns'.map V.int)) := by rw [← eH]; exact upd_same
    have k6 : ∀ b, b ≠ ra → H6 b = H5 b := fun b hb => by rw [← eH, upd_ne hb]
    have E6 : Ex H1 H6 := by rw [← eH]; exact ex_new hraH E5
    clear eH
    have ho6 : H6 oa = some (.lst (ord.map iv)) := by rw [k6 oa nor]; exact ho5
    have hw6 : H6 wa = some (.lst (wl nm.length (nyet nm ord))) := by rw [k6 wa nrw.symm]; exact hw5
    have tl := topo_len tp
    walk_at "rd"
    refine rd_append ho6 (by rw [List.length_map]; omega) ?_
    generalize eH : upd H6 oa _ = H7
    have ho7 : H7 oa = some (.lst ((ord ++ [z]).map iv)) := by rw [← eH, upd_same, List.map_append]; rfl
    have k7 : ∀ b, b ≠ oa → H7 b = H6 b := fun b hb => by rw [← eH, upd_ne hb]
    have E7 : Ex H1 H7 := by rw [← eH]; exact ex_new hoaH E6
    clear eH
    have hr7 : H7 ra = some (.lst (ns'.map V.int)) := by rw [k7 ra nor.symm]; exact hr6
    have hw7 : H7 wa = some (.lst (wl nm.length (nyet nm ord))) := by rw [k7 wa now_.symm]; exact hw6
    walk_at "rd"
    refine rd_enA (.of (E7 _ _ hnl1)) ?_
    have rdy1 : Rdy nm (fun z' => z' ∉ ord ++ [z] ∧ (nyet nm ord z' = 0 ∨ (z' < 0 ∧ nyet nm (ord ++ [z]) z' = 0))) ns' := by
      refine ⟨nd'.2, fun x => ?_⟩
      constructor
      · intro hx
        obtain ⟨z', rfl, a1, a2, a3⟩ := (rdy.2 x).mp (pm.mem_iff.mp (List.mem_cons_of_mem _ hx))
        refine ⟨z', rfl, a1, ?_, .inl a3⟩
        intro hm
        rcases List.mem_append.mp hm with hm | hm
        · exact a2 hm
        · have e : z' = z := by simpa using hm
          subst e
          exact nd'.1 hx
      · rintro ⟨z', rfl, a1, a2, a3⟩
        have a3 : nyet nm ord z' = 0 := a3.resolve_right fun h => Nat.not_lt_zero _ h.1
        have h1 : (z' : Int) ∈ ns := (rdy.2 _).mpr ⟨z', rfl, a1, fun h => a2 (List.mem_append.mpr (.inl h)), a3⟩
        rcases List.mem_cons.mp (pm.mem_iff.mpr h1) with h | h
        · exfalso
          apply a2
          rw [show z' = z by omega]
          simp
        · exact h
    have tdn := topo_nodup tp
    refine forW_E (as.map V.ref) (fun k σ H' => ∃ (ns : List Int), ∃ x y u, σ = [some (.ref p), some (.ref nl), some (.ref wa), x, some (.ref ra), some (iv z), y, some (.ref oa), u] ∧ Ex H1 H' ∧ H' wa = some (.lst (wl nm.length fun z' => if z' < k then nyet nm (ord ++ [z]) z' else nyet nm ord z')) ∧ H' ra = some (.lst (ns.map V.int)) ∧ H' oa = some (.lst ((ord ++ [z]).map iv)) ∧
      Rdy nm (fun z' => z' ∉ ord ++ [z] ∧ (nyet nm ord z' = 0 ∨ (z' < k ∧ nyet nm (ord ++ [z]) z' = 0))) ns ∧ hpL ns) ?_ ?_ ?_ ?_
    · exact ⟨ns', _, _, _, rfl, E7, hw7, hr7, ho7, rdy1, hp'⟩
    · rintro k σ H' hk ⟨_, _, _, _, _, e, _⟩
      exact .of (e _ _ hnl1)
    · rintro k v T2 σ H8 H9 hv ⟨nsk, x1, y1, u1, rfl, E8, hw8, hr8, ho8, rdyk, hpk⟩ hT2 E9 h9
      rw [List.getElem?_map] at hv
      cases ea : as[k]? with
      | none => rw [ea] at hv; cases hv
      | some a =>
      rw [ea] at hv
      cases (Option.some.inj hv)
      have hk : k < nm.length := by rw [← las]; exact (List.getElem?_eq_some_iff.mp ea).1
      obtain ⟨a', ha', hra⟩ := hrow k hk
      rw [ea] at ha'
      cases ha'
      have E89 := E8.trans E9
      have hw9 := E9 _ _ hw8
      have hr9 := E9 _ _ hr8
      have ho9 := E9 _ _ ho8
      refine rd_gtup (SqT.of h9) rfl ?_
      walk_at "rd"
      refine rd_inN (.of (E89 _ _ hra)) ?_
      walk_at "rd"
      have hcl := nyet_less (ord := ord) (hdd k) hzo
      refine rd_ite (fun h10 => ?_) (fun h10 => ?_)
      · rw [if_pos h10] at hcl
        walk_at "rd"
        refine rd_gIxL (.of hw9) (by rw [wl_get hk, if_neg (Nat.lt_irrefl k)]) ?_
        walk_at "rd"
        refine rd_setL hw9 (j := k) (ixN_k (by rw [wl_len]; exact hk)) ?_
        rw [show V.int (((nyet nm ord k : Nat) : Int) - 1) = iv (nyet nm (ord ++ [z]) k) by rw [hcl]; congr 1; omega, wl_set]
        rw [wl_congr (f := fun z' => if z' = k then nyet nm (ord ++ [z]) k else if z' < k then nyet nm (ord ++ [z]) z' else nyet nm ord z') (f' := fun z' => if z' < k + 1 then nyet nm (ord ++ [z]) z' else nyet nm ord z') (fun z' _ => by
          by_cases e1 : z' = k
          · subst e1
            rw [if_pos rfl, if_pos (Nat.lt_succ_self _)]
          · rw [if_neg e1]
            by_cases e2 : z' < k
            · rw [if_pos e2, if_pos (by omega)]
            · rw [if_neg e2, if_neg (by omega)])]
        generalize eH : upd H9 wa _ = H10
        have hw10 : H10 wa = some (.lst (wl nm.length fun z' => if z' < k + 1 then nyet nm (ord ++ [z]) z' else nyet nm ord z')) := by rw [← eH]; exact upd_same
        have k10 : ∀ b, b ≠ wa → H10 b = H9 b := fun b hb => by rw [← eH, upd_ne hb]
        have E10 : Ex H1 H10 := by rw [← eH]; exact ex_new hwaH E89
        clear eH
        have hr10 : H10 ra = some (.lst (nsk.map V.int)) := by rw [k10 ra nrw]; exact hr9
        have ho10 : H10 oa = some (.lst ((ord ++ [z]).map iv)) := by rw [k10 oa now_]; exact ho9
        walk_at "rd"
        refine rd_ixL (.of hw10) (atI_nat (j := k) (by rw [wl_get hk, if_pos (Nat.lt_succ_self k)])) ?_
        walk_at "rd"
        have kno : k ∉ ord ++ [z] := by
          intro hm
          rcases List.mem_append.mp hm with hm | hm
          · exact hzo ((tdn.2 k hm).2 z h10)
          · have e : k = z := by simpa using hm
            subst e
            exact acyc_self hac k h10
        refine rd_ite (fun h11 => ?_) (fun h11 => ?_)
        · have hk0 : nyet nm (ord ++ [z]) k = 0 := by omega
          have kns : (k : Int) ∉ nsk := fun hm => by
            obtain ⟨z', e, _, _, h⟩ := (rdyk.2 _).mp hm
            have e : k = z' := by omega
            subst e
            rcases h with h | h
            · omega
            · exact Nat.lt_irrefl _ h.1
          have hlk := rdyk.len
          walk_at "rd"
          refine rd_push hr10 (by omega) hpk fun ns2 pm2 hp2 => ?_
          walk_at "rd"
          refine ⟨ns2, _, _, _, rfl, ex_new hraH E10, by rw [upd_ne nrw.symm]; exact hw10, upd_same, by rw [upd_ne nor]; exact ho10, ⟨pm2.nodup_iff.mpr ?_, fun x => ?_⟩, hp2⟩
          · rw [List.nodup_append]
            refine ⟨rdyk.1, by simp, fun a ha b hb => ?_⟩
            have e : b = (k : Int) := by simpa using hb
            subst e
            rintro rfl
            exact kns ha
          · rw [pm2.mem_iff, List.mem_append, rdyk.2, List.mem_singleton]
            constructor
            · rintro (⟨z', rfl, a1, a2, a3⟩ | rfl)
              · exact ⟨z', rfl, a1, a2, a3.imp id fun h => ⟨by omega, h.2⟩⟩
              · exact ⟨k, rfl, hk, kno, .inr ⟨Nat.lt_succ_self _, hk0⟩⟩
            · rintro ⟨z', rfl, a1, a2, a3⟩
              by_cases e : z' = k
              · exact .inr (by rw [e])
              · exact .inl ⟨z', rfl, a1, a2, a3.imp id fun h => ⟨by omega, h.2⟩⟩
        · walk_at "rd"
          refine ⟨nsk, _, _, _, rfl, E10, hw10, hr10, ho10, ⟨rdyk.1, fun x => ?_⟩, hpk⟩
          rw [rdyk.2]
          constructor
          · rintro ⟨z', rfl, a1, a2, a3⟩
            exact ⟨z', rfl, a1, a2, a3.imp id fun h => ⟨by omega, h.2⟩⟩
          · rintro ⟨z', rfl, a1, a2, a3⟩
            refine ⟨z', rfl, a1, a2, a3.imp id fun h => ⟨?_, h.2⟩⟩
            by_cases e : z' = k
            · subst e
              exact (h11 (by rw [h.2]; rfl)).elim
            · have := h.1
              omega
      · rw [if_neg h10, Nat.add_zero] at hcl
        walk_at "rd"
        rw [wl_congr (f := fun z' => if z' < k then nyet nm (ord ++ [z]) z' else nyet nm ord z') (f' := fun z' => if z' < k + 1 then nyet nm (ord ++ [z]) z' else nyet nm ord z') (fun z' _ => by
          by_cases e1 : z' = k
          · subst e1
            rw [if_neg (Nat.lt_irrefl _), if_pos (Nat.lt_succ_self _), hcl]
          · by_cases e2 : z' < k
            · rw [if_pos e2, if_pos (by omega)]
            · rw [if_neg e2, if_neg (by omega)])] at hw9
        refine ⟨nsk, _, _, _, rfl, E89, hw9, hr9, ho9, ⟨rdyk.1, fun x => ?_⟩, hpk⟩
        rw [rdyk.2]
        constructor
        · rintro ⟨z', rfl, a1, a2, a3⟩
          exact ⟨z', rfl, a1, a2, a3.imp id fun h => ⟨by omega, h.2⟩⟩
        · rintro ⟨z', rfl, a1, a2, a3⟩
          refine ⟨z', rfl, a1, a2, ?_⟩
          rcases a3 with a3 | a3
          · exact .inl a3
          · by_cases e : z' = k
            · subst e
              exact .inl (by rw [hcl]; exact a3.2)
            · exact .inr ⟨by have := a3.1; omega, a3.2⟩
    · rintro σ H8 ⟨nsk, x1, y1, u1, rfl, E8, hw8, hr8, ho8, rdyk, hpk⟩
      walk_at "rd"
      rw [List.length_map, las] at hw8 rdyk
      rw [wl_congr (f' := nyet nm (ord ++ [z])) fun z' hz' => if_pos hz'] at hw8
      have tl' := topo_len tp'
      rw [List.length_append] at tl'
      have tl' : ord.length + 1 ≤ nm.length := tl'
      refine ⟨nm.length - (ord ++ [z]).length, ?_, ord ++ [z], nsk, _, _, _, _, rfl, rfl, E8, hw8, hr8, ho8, tp', ⟨rdyk.1, fun x => ?_⟩, hpk⟩
      · rw [List.length_append]
        show nm.length - (ord.length + 1) < _
        omega
      · rw [rdyk.2]
        constructor
        · rintro ⟨z', rfl, a1, a2, a3⟩
          refine ⟨z', rfl, a1, a2, ?_⟩
          rcases a3 with a3 | a3
          · have := nyet_less (ord := ord) (hdd z') hzo
            omega
          · exact a3.2
        · rintro ⟨z', rfl, a1, a2, a3⟩
          exact ⟨z', rfl, a1, a2, .inr ⟨a1, a3⟩⟩
end
end KF
namespace RT
open PySem PySem.Spec PyProof.Rows L2
section
variable {prog : Program} {w : World} {A : Around} {E : Value → Shared → Prop} {s : Shared}
theorem ext_rev {R : Result → Shared → Prop} {it l : Addr} {items : Array Value} (hh : A.handled = none) (hit : s.heap.IsRevIter it l ((items.size : Int) - 1)) (hl : s.heap.IsList l items) (hne : l ≠ it) (hn : items.size ≤ sizeLine)
    (S : Addr) (res : Value) (c₀ : Nat) (hS : s.heap.get? S = some { cls := .type "list", data := .seq #[] c₀ }) (hSi : S ≠ it) (hSl : S ≠ l)
    (hR : ∀ h' tk acc' c', (∀ b o, b ≠ S → b ≠ it → s.heap.get? b = some o → h'.get? b = some o) → h'.get? S = some { cls := .type "list", dict := none, data := .seq acc' c', slots := #[] } →
      ItemsOf (fun i v => items[items.size - 1 - i]? = some v) acc' items.size → R (.ok (.ret res)) { s with heap := h', toks := tk }) :
    wpAny (model prog w) A.in1 (Builtin.List.listExtendWith (.ref S) (.ref it) res)
      (fun fin s' => match fin with | .done f => R (.ok f) s' | .again c' => c'.quiet = true ∧ codeAny (model prog w) A c' R s') (fun e s' => R (.error e) s') s := by
  have W := (Walks.listRev (prog := prog) (w := w) (A := A.in1) hh it l hne items).toS
  have hSf : S ∉ [it, l] := by simp only [List.mem_cons, List.not_mem_nil, or_false, not_or]; exact ⟨hSi, hSl⟩
  have hT : s.TypeIs (.ref it) "list_reverseiterator" := hit.typeIs
  have h1 : Builtin.List.listSameRef (.ref S) (.ref it) = false := by simp [Builtin.List.listSameRef, hSi]
  unfold Builtin.List.listExtendWith
  refine wpAny_bind (wpAny_typeOf hT ?_)
  rw [if_neg (by rw [h1]; decide)]
  refine wpAny_bind (wpAny_pyIter_revIter hit ?_)
  refine wpAny_bind (wpAny_holding ?_)
  unfold Builtin.List.listLengthHint
  refine wpAny_bind (wpAny_specialOf hT nolen_lri ?_)
  show wpAny _ A.in1 (specialOf (Value.ref it) (Str.ofString "__length_hint__") >>= _) _ _ _
  refine wpAny_bind (wpAny_specialOf hT hint_lri ?_)
  generalize hid : ("list_reverseiterator.__length_hint__" : String) = id0
  wp_delta
  rw [show splitId id0 = some ("list_reverseiterator", "__length_hint__") from by subst hid; decide +kernel]
  subst hid
  refine wpAny_bind (wpAny_isInstance (b := true) hT (by rw [isSubtype_type]; kernel_rfl) ?_)
  refine wpAny_pure ?_
  rw [if_neg (by decide)]
  have e0 : ((items.size : Nat) : Int) - 1 - ((0 : Nat) : Int) = (items.size : Int) - 1 := by omega
  refine wpAny_pure ⟨plainId_quiet F.plain_extend_loop _, codeAny_extend_loopS W hn _ hSf _ items.size 0 _ _ _ rfl (Nat.zero_le _) ⟨Nat.zero_le _, by rw [e0]; exact hit, hl⟩ hS (ItemsOf.nil _) fun s' acc' c' hm hS' hacc => ?_⟩
  rw [Moved.eq_with hm]
  refine hR s'.heap s'.toks acc' c' (fun b o hb hb2 e => hm.heap b o (fun hmem => ?_) e) hS' hacc
  rcases List.mem_cons.mp hmem with e' | hmem
  · exact hb e'
  · exact hb2 (List.mem_singleton.mp hmem)
theorem init_rev {R : Result → Shared → Prop} {it l : Addr} {items : Array Value} (hh : A.handled = none) (hit : s.heap.IsRevIter it l ((items.size : Int) - 1)) (hl : s.heap.IsList l items) (hne : l ≠ it) (hn : items.size ≤ sizeLine)
    (S : Addr) (hS : s.heap.get? S = some { cls := .type "list", data := .seq #[] }) (hSi : S ≠ it) (hSl : S ≠ l)
    (hR : ∀ h' tk acc' c', (∀ b o, b ≠ S → b ≠ it → s.heap.get? b = some o → h'.get? b = some o) → h'.get? S = some { cls := .type "list", dict := none, data := .seq acc' c', slots := #[] } →
      ItemsOf (fun i v => items[items.size - 1 - i]? = some v) acc' items.size → R (.ok (.ret .none)) { s with heap := h', toks := tk }) :
    wpAny (model prog w) A.in1 (Builtin.«list.__init__» ⟨[.ref S, .ref it], []⟩)
      (fun fin s' => match fin with | .done f => R (.ok f) s' | .again c' => c'.quiet = true ∧ codeAny (model prog w) A c' R s') (fun e s' => R (.error e) s') s := by
  show wpAny _ _ (do let old ← Builtin.List.listItems (.ref S); Builtin.List.listUpdate (.ref S) (fun _ => #[]); letGo old.toList.reverse; Builtin.List.listExtendWith (.ref S) (.ref it) .none) _ _ s
  refine wpAny_bind ?_
  unfold Builtin.List.listItems
  refine wpAny_bind (wpAny_seqItems hS rfl (wpAny_pure ?_))
  show wpAny _ _ (updateSeq S (fun _ => #[]) >>= fun _ => letGo (#[] : Array Value).toList.reverse >>= fun _ => Builtin.List.listExtendWith (.ref S) (.ref it) .none) _ _ s
  refine wpAny_bind (wpAny_updateSeq hS rfl ?_)
  have hS₂ := Heap.get?_update_self (Obj.mapSeq (fun _ => (#[] : Array Value))) hS rfl
  have oth : ∀ b o, b ≠ S → s.heap.get? b = some o → (s.heap.update S (Obj.mapSeq (fun _ => (#[] : Array Value)))).get? b = some o :=
    fun b o hb e => (Heap.get?_update_other _ _ (Ne.symm hb)).trans e
  refine wpAny_bind (wpAny_letGo ?_)
  have hl2 : (s.heap.update S (Obj.mapSeq (fun _ => (#[] : Array Value)))).IsList l items := by
    obtain ⟨o, ho, hc, r⟩ := hl
    exact ⟨o, oth l o hSl.symm ho, hc, r⟩
  refine ext_rev (s := { s with heap := s.heap.update S (Obj.mapSeq (fun _ => (#[] : Array Value))) }) hh (hit.at fun o e => oth it o hSi.symm e) hl2 hne hn S .none _ hS₂ hSi hSl fun h' tk acc' c' hk hS' hacc => ?_
  exact hR h' tk acc' c' (fun b o hb hb2 e => hk b o hb hb2 (oth b o hb e)) hS' hacc
theorem call_list_rev {Q : Value → Shared → Prop} {it l : Addr} {items : Array Value} (hh : A.handled = none) (hit : s.heap.IsRevIter it l ((items.size : Int) - 1)) (hl : s.heap.IsList l items) (hne : l ≠ it) (hn : items.size ≤ sizeLine)
    (hQ : ∀ h' tk acc' c', (∀ b o, b ≠ it → s.heap.get? b = some o → h'.get? b = some o) → h'.get? s.heap.objs.size = some { cls := .type "list", dict := none, data := .seq acc' c', slots := #[] } →
      ItemsOf (fun i v => items[items.size - 1 - i]? = some v) acc' items.size → Q (.ref s.heap.objs.size) { s with heap := h', toks := tk }) :
    wpAny (model prog w) A (call (.type "list") [.ref it]) Q E s := by
  obtain ⟨oi, hoi, _⟩ := id hit
  obtain ⟨ol, hol, _⟩ := id hl
  have hSi : s.heap.objs.size ≠ it := Nat.ne_of_gt (Heap.lt_size hoi)
  have hSl : s.heap.objs.size ≠ l := Nat.ne_of_gt (Heap.lt_size hol)
  refine callType_codes (Q₁ := fun obj s₁ => obj = .ref s.heap.objs.size ∧ s₁ = { s with heap := s.heap.push { cls := .type "list", data := .seq #[] } }) F.called_list (F.typeCall_list_1 _) F.entry_list_init
    (code_list_new _ ⟨rfl, rfl⟩) fun obj s₁ h₁ => ?_
  obtain ⟨rfl, rfl⟩ := h₁
  have hS : (s.heap.push { cls := .type "list", data := .seq #[] }).get? s.heap.objs.size = some { cls := .type "list", data := .seq #[] } := Heap.get?_push_size _ rfl
  refine ⟨⟨_, hS, rfl⟩, F.args_list_init_2 _ _, init_rev (A := A.in1) hh (hit.at fun o e => Heap.get?_push_of_some _ e) (hl.push _) hne hn _ hS hSi hSl fun h' tk acc' c' hk hS' hacc => ?_⟩
  exact ⟨rfl, hQ h' tk acc' c' (fun b o hb e => hk b o (Nat.ne_of_lt (Heap.lt_size e)) hb (Heap.get?_push_of_some _ e)) hS' hacc⟩
end
/-- list(reversed(x)), x a list: a new list -/
def tLstRev (K : PySem.W.Frag) (te : TE) : TE := fun σ H Q => te σ H fun v H1 => ∃ (a : Addr) (xs : List V), v = .ref a ∧ SqL K H1 a xs ∧ ∀ q, H1 q = none → Q (.ref q) (upd H1 q (.lst xs.reverse))
section
variable {X : Cx}
theorem pe_lstRev {e : Expr} {te : TE} {p p2 pos pos2 : Pos} (hc : X.calm = true) (hg : Gl X "list") (hm : X.mg "list" = none) (hg2 : Gl X "reversed") (hm2 : X.mg "reversed" = none) (he : PE X e te)
    (hs : starEach [e] X.env = (false, eval e X.env) :: starEach [] X.env := by rfl)
    (hs2 : starEach [.Call (.Name "reversed" p2) [e] [] pos2] X.env = (false, eval (.Call (.Name "reversed" p2) [e] [] pos2) X.env) :: starEach [] X.env := by rfl) :
    PE X (.Call (.Name "list" p) [.Call (.Name "reversed" p2) [e] [] pos2] [] pos) (tLstRev X.K te) := by
  refine ⟨fun pins s σ H Q I h => ?_⟩
  refine Call_ (ld_blt I hg hm boot_list (PyProof.Rows.callWith_type1 (args_cons (Call_ (ld_blt I hg2 hm2 PyProof.Rows.boot_reversed (PyProof.Rows.callWith_type1 (args_cons (thn (he.run pins s σ H _ I h) fun u s1 ⟨v, H1, I1, r1, q1⟩ => args_nil ?_) hs) hs rfl))) hs2) hs2 rfl))
  obtain ⟨a, xs, ev, hq, q⟩ := q1
  subst ev
  obtain rfl : u = Value.ref a := r1
  obtain ⟨its, rv, p', hz⟩ := I1.list hq
  refine call_reversed_list p'.isList (args_nil ?_)
  have k0 : ∀ b o, s1.heap.get? b = some o → (s1.heap.push (revObj a ((its.toArray.size : Int) - 1))).get? b = some o := fun b o e => Heap.get?_push_of_some _ e
  have I2 : Inv X pins σ H1 { s1 with heap := s1.heap.push (revObj a ((its.toArray.size : Int) - 1)) } := I1.kept (t' := s1.toks) k0
  obtain ⟨f0, f1, f2, f3, f4, f5⟩ := I1.fpOk (H' := H1) (b := s1.heap.objs.size) (Nat.le_refl _) (I1.hok.fresh (Nat.le_refl _))
  have hl := p'.isList
  obtain ⟨ol, hol, _⟩ := id hl
  have hne : a ≠ s1.heap.objs.size := Nat.ne_of_lt (Heap.lt_size hol)
  have hn : its.toArray.size ≤ sizeLine := by rw [List.size_toArray, ← rv.length]; exact hz
  refine call_list_rev (s := { s1 with heap := s1.heap.push (revObj a ((its.toArray.size : Int) - 1)) }) (I1.ok.hd hc) ⟨_, Heap.get?_push_size _ rfl, rfl, rfl⟩ (hl.push _) hne hn fun h' tk acc c' hk hS hi => ?_
  have esz : (s1.heap.push (revObj a ((its.toArray.size : Int) - 1))).objs.size = s1.heap.objs.size + 1 := Heap.size_push ..
  have hS : h'.get? (s1.heap.push (revObj a ((its.toArray.size : Int) - 1))).objs.size = some { cls := .type "list", dict := none, data := .seq acc c', slots := #[] } := hS
  show EP X pins σ Q (Value.ref (s1.heap.push (revObj a ((its.toArray.size : Int) - 1))).objs.size) _
  rw [esz] at hS ⊢
  refine ⟨.ref (s1.heap.objs.size + 1), upd H1 (s1.heap.objs.size + 1) (.lst xs.reverse), I1.laid (t' := tk) (fun b o e => hk b o (Nat.ne_of_lt (Heap.lt_size e)) (k0 b o e)) (Nat.le_succ _) (show ObjOk X.prog X.w _ _ _ (.lst xs.reverse) from ⟨by rw [List.length_reverse]; exact hz, acc.toList, c', vals_rev rv hi, by rw [Array.toArray_toList]; exact hS⟩), rfl, q _ (I1.hok.fresh (Nat.le_succ _))⟩
end
theorem rd_lstRev {K : PySem.W.Frag} {σ : L2.St} {H : Hp} {Q : VK} {te : TE} (q : te σ H fun v H1 => ∃ (a : Addr) (xs : List V), v = .ref a ∧ SqL K H1 a xs ∧ ∀ q, H1 q = none → Q (.ref q) (upd H1 q (.lst xs.reverse))) : tLstRev K te σ H Q := q
theorem rd_lstRevL {K : PySem.W.Frag} {H : Hp} {Q : VK} {a : Addr} {xs : List V} (h : SqL K H a xs) (q : ∀ p H', H p = none → Qa.Ex H H' → H' p = some (.lst xs.reverse) → Q (.ref p) H') : ∃ (b : Addr) (ys : List V), V.ref a = .ref b ∧ SqL K H b ys ∧ ∀ q, H q = none → Q (.ref q) (upd H q (.lst ys.reverse)) := ⟨a, xs, rfl, h, fun p hp => q p _ hp (Evl.Ex.new hp) upd_same⟩
end RT
namespace Qa
open PySem PySem.Spec PyProof.Rows L2
theorem rd_bm0 {K : PySem.W.Frag} {σ : L2.St} {H : Hp} {Q : VK} {T' : String} {r : V → List V → Hp → VK → Prop} {to : TE} (q : to σ H fun x H1 => tyV K T' x H1 ∧ r x [] H1 Q) : tBM0 K T' r to σ H Q := q
theorem rd_rev {H : Hp} {Q : VK} {l : Addr} {xs : List V} (h : H l = some (.lst xs)) (q : Q .non (upd H l (.lst xs.reverse))) : rReverse (.ref l) [] H Q := ⟨l, xs, rfl, rfl, h, q⟩
theorem rd_clear {H : Hp} {Q : VK} {l : Addr} {xs : List V} (h : H l = some (.lst xs)) (q : Q .non (upd H l (.lst []))) : rClear (.ref l) [] H Q := ⟨l, xs, rfl, rfl, h, q⟩
end Qa
open PySem PySem.Spec PyProof.Rows L2 Qa Qr
open Qg
namespace KF
section
variable {P : Program} {w : World} {K : PySem.W.Frag} {mg : Str → Option Value} {base : Heap} {H : Hp} {Q : VK} {E : XK}
/-- an order of lines in which each stands behind those that it names -/
def rk : List Nat → Nat → Nat
  | [], _ => 0
  | a :: l, x => if a = x then 0 else rk l x + 1
theorem rk_get : ∀ {l : List Nat} {i x : Nat}, l.Nodup → l[i]? = some x → rk l x = i
  | [], i, x, _, h => by simp at h
  | a :: l, 0, x, _, h => by
    have e : a = x := Option.some.inj h
    unfold rk
    rw [if_pos e]
  | a :: l, i + 1, x, hd, h => by
    have h : l[i]? = some x := h
    have hd' := List.nodup_cons.mp hd
    have ne : a ≠ x := by
      rintro rfl
      exact hd'.1 (List.mem_of_getElem? h)
    unfold rk
    rw [if_neg ne, rk_get hd'.2 h]
theorem acyc_of {ts : List T} {ord : List Nat} (hd : ord.Nodup) (h : ∀ (j : Nat) (t : T), ts[j]? = some t → ∀ x : Nat, ik x ∈ beh "line" 8 t → Bf ord x j) : Acyc (nmOf ts) := by
  refine ⟨rk ord, fun x y hy => ?_⟩
  unfold row at hy
  rw [nmOf_get] at hy
  cases et : ts[x]? with
  | none => rw [et] at hy; cases hy
  | some t =>
    rw [et] at hy
    obtain ⟨a, b, hab, ha, hb⟩ := h x t et y (mem_rowK.mp hy).2
    rw [rk_get hd ha, rk_get hd hb]
    exact hab
end
end KF
open PySem PySem.Spec PyProof.Rows L2 Qa Qr
open Qg Qe Qi Qm Qw


namespace KF
section
variable {P : Program} {w : World} {K : PySem.W.Frag} {mg : Str → Option Value} {base : Heap} {H : Hp} {Q : VK} {E : XK}
def spIsPaper (K : PySem.W.Frag) : Sp := sp2 fun a b H Q => ∃ t u, Tv K H a t ∧ Tv K H b u ∧ Q (.bl (pOk (t, u))) H
theorem k_is_paper (T : Tx K w mg) (c_is_word : Cal P w K mg base "is_word" 1 pis_word (spWord K)) (c_is_number : Cal P w K mg base "is_number" 3 pis_number (spNum K)) : Cal P w K mg base "is_paper" 4 pis_paper (spIsPaper K) := by
  refine cal2 T.F_is_paper scis_paper bis_paper rfl fun g cdv A outer s H a b Q E hr h => ?_
  obtain ⟨t, u, ht, hu, q⟩ := h
  refine ⟨_, (pss_one (ps_ret (pe_and (pe_cal c_is_word (hr.mono (by omega)) (pa_cons (pv 0) pa_nil)) (pe_one (pe_cal c_is_number (hr.mono (by omega)) (pa_cons (pv 1) pa_nil)))))), ?_⟩
  rw [tis_paper]
  try dsimp only [cxOf, Cx.nox, Cx.wish]
  unfold pOk at q
  walk_at "rd"
  refine rd_sp1 ⟨t, ht, ?_⟩
  walk_at "rd"
  refine rd_iteB (fun e => ?_) (fun e => ?_)
  · walk_at "rd"
    refine rd_sp1 ⟨u, hu, ?_⟩
    dsimp only at q
    rw [e] at q
    exact q
  · dsimp only at q
    rw [e] at q
    exact q
def spPapersX (K : PySem.W.Frag) (mg : Str → Option Value) : Sp := spX1 fun a H Q E => ∃ l vs ps, a = .ref l ∧ SqL K H l vs ∧ TvA K H vs (psT ps) ∧ ps.length ≤ 1000 ∧
  (papOk ps [] = false → ∀ H', Ex H H' → E (.ref (clsA mg "NoPaper")) none H') ∧ (papOk ps [] = true → ∀ d H', Ex H H' → H d = none → H' d = some (.dK (pkv (pzOf ps))) → Q (.ref d) H')
theorem kx_papers_of (T : Tx K w mg) (c_is_paper : Cal P w K mg base "is_paper" 4 pis_paper (spIsPaper K)) : CalX P w K mg base "papers_of" 5 ppapers_of (spPapersX K mg) := by
  refine calX1 T.F_papers_of scpapers_of bpapers_of rfl fun g cdv A outer s H a Q E hr h => ?_
  obtain ⟨l, vs, ps, rfl, hl, htv, hn, qx, q⟩ := h
  refine ⟨_, (pss_cons (ps_set (i := 1) (scpapers_of).nd rfl (by first | exact Or.inl rfl | exact Or.inr rfl) pe_dnewK) (pss_cons (ps_for (passes_of rfl) rfl (pi_seq (pv 0)) (pg_tup (n := 2) rfl (pgs_cons (pg_name (i := 2) (scpapers_of).nd rfl (by first | exact Or.inl rfl | exact Or.inr rfl)) (pgs_cons (pg_name (i := 3) (scpapers_of).nd rfl (by first | exact Or.inl rfl | exact Or.inr rfl)) pgs_nil))) (pss_cons (ps_if (pt_not (pt_tru (pe_cal c_is_paper (hr.mono (by omega)) (pa_cons (pv 2) (pa_cons (pv 3) pa_nil))))) (pss_one (Qe.ps_raiseC rfl (takes_of rfl rfl rfl rfl) T.err_NoPaper)) pss_nil) (pss_cons (ps_if (pt_cmp (pc_din (hu_of hr) (pv 2) (pv 1))) (pss_one (Qe.ps_raiseC rfl (takes_of rfl rfl rfl rfl) T.err_NoPaper)) pss_nil) (pss_one (ps_dput (hu_of hr) (pv 1) (pv 2) (pv 3) rfl))))) (pss_one (ps_ret (pv 1))))), ?_⟩
  rw [tpapers_of]
  try dsimp only [cxOf, Cx.nox, Cx.wish]
  have lv : vs.length = ps.length := by rw [htv.len]; exact List.length_map ..
  walk_at "rd"
  refine rd_dnew fun d H1 hd E1 h1 => ?_
  have hl1 := sql_ex hl E1
  have E1' : Ex H H1 ∧ True := ⟨E1, trivial⟩
  clear E1
  walk_at "rd"
  obtain ⟨E1, _⟩ := E1'
  refine forW_Lx hl1 (fun i σ H' => ((∃ x y, σ = [some (.ref l), some (.ref d), x, y]) ∧ Ex H H') ∧ H' d = some (.dK (pkv (pzOf (ps.take i)))) ∧ ∃ seen, (∀ z, z ∈ seen ↔ ∃ p ∈ pzOf (ps.take i), p.1 = z) ∧ papOk ps [] = papOk (ps.drop i) seen) ?_ ?_ ?_ ?_
  · exact ⟨⟨⟨_, _, rfl⟩, E1⟩, h1, [], (fun z => ⟨fun h => (by cases h), fun ⟨p, h, _⟩ => (by cases h)⟩), rfl⟩
  · rintro i σ H' hi ⟨⟨_, e⟩, _⟩
    exact sql_ex hl e
  · rintro i v σ H2 hv ⟨⟨⟨x, y, rfl⟩, e⟩, h2, seen, hseen, hok⟩
    obtain ⟨t, ht, vt⟩ := htv.getV hv
    have ht' : (psT ps)[i]? = some t := ht
    unfold psT at ht'
    rw [List.getElem?_map] at ht'
    cases ep : ps[i]? with
    | none => rw [ep] at ht'; cases ht'
    | some p =>
    rw [ep] at ht'
    cases (Option.some.inj ht')
    obtain ⟨a, xs, rfl, hs, ha⟩ := (tv_ex vt e).tupE
    obtain ⟨x1, xs, rfl, hx1, ha⟩ := ha.consE
    obtain ⟨x2, xs, rfl, hx2, ha⟩ := ha.consE
    cases ha.nilE
    have hi : i < ps.length := (List.getElem?_eq_some_iff.mp ep).1
    have et : ps.take (i + 1) = ps.take i ++ [p] := by rw [List.take_add_one, ep]; rfl
    rw [papOk_drop ep] at hok
    refine rd_gtup hs rfl ?_
    walk_at "rd"
    refine rd_sp2 ⟨p.1, p.2, hx1, hx2, ?_⟩
    cases hp : pOk p with
    | false =>
      walk_at "rd"
      exact qx (by rw [hok, hp]; rfl) _ e
    | true =>
    obtain ⟨z, k, rfl, hw, hk⟩ := pOk_ex hp
    cases hx1
    cases hx2
    walk_at "rd"
    refine rd_dinS h2 ?_
    by_cases hin : z ∈ seen
    · rw [pkv_some (fun h => by obtain ⟨p, hp, e⟩ := (hseen z).mp hin; exact h p hp e)]
      walk_at "rd"
      exact qx (by rw [hok, hp, show decide (sT (Qa.T.str z, Qa.T.int k).1 ∉ seen) = false from decide_eq_false (fun h => h hin)]; rfl) _ e
    · have hno : ∀ p ∈ pzOf (ps.take i), p.1 ≠ z := fun p hp e => hin ((hseen z).mpr ⟨p, hp, e⟩)
      rw [pkv_none hno]
      walk_at "rd"
      have lp : (pkv (pzOf (ps.take i))).length < 4000 := by unfold pkv pzOf; rw [List.length_map, List.length_map, List.length_take]; omega
      refine rd_dputS h2 lp ?_
      rw [putK_new _ (pkv_none hno)]
      walk_at "rd"
      refine ⟨⟨⟨_, _, rfl⟩, ex_new hd e⟩, ?_, z :: seen, fun y => ?_, ?_⟩
      · rw [upd_same, et]
        unfold pzOf
        rw [List.map_append]
        unfold pkv
        rw [List.map_append]
        rfl
      · rw [et]
        unfold pzOf
        rw [List.map_append, List.mem_cons]
        constructor
        · rintro (rfl | h)
          · exact ⟨(y, k), List.mem_append_right _ (List.mem_singleton_self _), rfl⟩
          · obtain ⟨p, hp, e⟩ := (hseen y).mp h
            exact ⟨p, List.mem_append_left _ hp, e⟩
        · rintro ⟨p, hp, e⟩
          rcases List.mem_append.mp hp with hp | hp
          · exact .inr ((hseen y).mpr ⟨p, hp, e⟩)
          · have := List.mem_singleton.mp hp
            subst this
            exact .inl e.symm
      · rw [hok, hp, show decide (sT (Qa.T.str z, Qa.T.int k).1 ∉ seen) = true from decide_eq_true hin]
        rfl
  · rintro σ H2 ⟨⟨⟨x, y, rfl⟩, e⟩, h2, seen, hseen, hok⟩
    walk_at "rd"
    rw [lv, List.take_length] at h2
    refine q ?_ d H2 e hd h2
    rw [hok, List.drop_eq_nil_of_le (by omega)]
    rfl
/-! ### what rules are reckoned by -/
def shF (tt pp ee kk ll : V) : List (Str × V) := [("tables", tt), ("papers", pp), ("earlier", ee), ("taken", kk), ("lines", ll)]
/-- what a year is reckoned by, as it stands -/
structure YearAt (K : PySem.W.Frag) (H : Hp) (n ch : Nat) (dp el tl : Addr) (Y : Yr) : Prop where
  pap : ∃ pz, H dp = some (.dK (pkv pz)) ∧ Y.papers = papF pz
  ear : ∃ es : List Int, SqL K H el (es.map V.int) ∧ (∀ k, Y.earlier k = es.getD k 0) ∧ (es = [] ∨ es.length = n)
  tak : ∃ bs : List Bool, SqLT K H tl (bs.map V.bl) ∧ (∀ k, Y.taken k = bs.getD k false) ∧ bs.length = ch
theorem YearAt.ex {H H' : Hp} {n ch : Nat} {dp el tl : Addr} {Y : Yr} (h : YearAt K H n ch dp el tl Y) (e : Ex H H') : YearAt K H' n ch dp el tl Y := by
  obtain ⟨⟨pz, h1, h2⟩, ⟨es, h3, h4⟩, ⟨bs, h5, h6⟩⟩ := h
  exact ⟨⟨pz, e _ _ h1, h2⟩, ⟨es, sql_ex h3 e, h4⟩, ⟨bs, h5.ex e, h6⟩⟩
structure SheetAt (K : PySem.W.Frag) (mg : Str → Option Value) (H : Hp) (p ll : Addr) (n ch : Nat) (Y : Yr) (L : List Int) : Prop where
  at_ : ∃ dx tt tvs dp el tl, H p = some (.ins (clsA mg "Sheet") dx (shF (.ref tt) (.ref dp) (.ref el) (.ref tl) (.ref ll))) ∧ SqT K H tt tvs ∧ TvA K H tvs (Y.tables.map fun r => .tup (r.map rowT)) ∧ YearAt K H n ch dp el tl Y
  lin : H ll = some (.lst (L.map V.int))
  len : L.length = n
  pct : ∀ r ∈ Y.tables, pcts r
def spWorth (K : PySem.W.Frag) (mg : Str → Option Value) (m : Nat) : Sp := sp2 fun a b H Q => ∃ t p ll n ch Y L, ∃ sz : Sz, b = .ref p ∧ Tv K H a t ∧ SheetAt K mg H p ll n ch Y L ∧ sz.l = n ∧ sz.tb = Y.tables.length ∧ sz.ch = ch ∧ isRule sz m t = true ∧ Q (.int (worth (Y.at_ L) m t)) H
def spBoth : Sp := sp3 fun a b c H Q => ∃ x i j, a = .str x ∧ b = .int i ∧ c = .int j ∧ x ∈ four ∧ Q (.int (both x i j)) H
theorem k__of_both (T : Tx K w mg) : Cal P w K mg base "_of_both" 1 p_of_both spBoth := by
  refine cal3 T.F__of_both sc_of_both b_of_both rfl fun g cdv A outer s H a b c Q E hr h => ?_
  obtain ⟨x, i, j, rfl, rfl, rfl, hx, q⟩ := h
  refine ⟨_, (pss_cons (ps_if (pt_cmpR (op_eqA hr) (pv 0) pe_str (nomark _)) (pss_one (ps_ret (pe_op op_addA (pv 1) (pv 2)))) pss_nil) (pss_cons (ps_if (pt_cmpR (op_eqA hr) (pv 0) pe_str (nomark _)) (pss_one (ps_ret (pe_op op_sub (pv 1) (pv 2)))) pss_nil) (pss_cons (ps_if (pt_cmpR (op_eqA hr) (pv 0) pe_str (nomark _)) (pss_one (ps_ret (pe_callB (cr_min2 rfl) (by rfl) T.m_min (by decide +kernel) (pa_cons (pv 1) (pa_cons (pv 2) pa_nil))))) pss_nil) (pss_one (ps_ret (pe_callB (cr_max2 rfl) (by rfl) T.m_max (by decide +kernel) (pa_cons (pv 1) (pa_cons (pv 2) pa_nil)))))))), ?_⟩
  rw [t_of_both]
  try dsimp only [cxOf, Cx.nox, Cx.wish]
  simp only [four, List.mem_cons, List.not_mem_nil, or_false] at hx
  rcases hx with rfl | rfl | rfl | rfl <;> (walk_at "rd"; exact q)
theorem at_dec {xs : List V} {i : Nat} {v : V} (h : xs[i]? = some v) : atI xs (i : Int) = some v := atI_nat h
theorem ints_at {L : List Int} {k : Nat} (h : k < L.length) : (L.map V.int)[k]? = some (.int (L.getD k 0)) := by
  rw [List.getElem?_map, List.getElem?_eq_getElem h, List.getD_eq_getElem?_getD, List.getElem?_eq_getElem h]
  rfl
theorem bls_at {L : List Bool} {k : Nat} (h : k < L.length) : (L.map V.bl)[k]? = some (.bl (L.getD k false)) := by
  rw [List.getElem?_map, List.getElem?_eq_getElem h, List.getD_eq_getElem?_getD, List.getElem?_eq_getElem h]
  rfl
theorem tv2 {H : Hp} {v : V} {x : Str} {t1 : Qa.T} (h : Tv K H v (.tup [.str x, t1])) : ∃ a v1, v = .ref a ∧ SqT K H a [.str x, v1] ∧ Tv K H v1 t1 := by
  obtain ⟨a, xs, rfl, hs, ha⟩ := h.tupE
  obtain ⟨y0, xs, rfl, h0, ha⟩ := ha.consE
  obtain ⟨y1, xs, rfl, h1, ha⟩ := ha.consE
  cases ha.nilE
  cases h0
  exact ⟨a, y1, rfl, hs, h1⟩
theorem tv3 {H : Hp} {v : V} {x : Str} {t1 t2 : Qa.T} (h : Tv K H v (.tup [.str x, t1, t2])) : ∃ a v1 v2, v = .ref a ∧ SqT K H a [.str x, v1, v2] ∧ Tv K H v1 t1 ∧ Tv K H v2 t2 := by
  obtain ⟨a, xs, rfl, hs, ha⟩ := h.tupE
  obtain ⟨y0, xs, rfl, h0, ha⟩ := ha.consE
  obtain ⟨y1, xs, rfl, h1, ha⟩ := ha.consE
  obtain ⟨y2, xs, rfl, h2, ha⟩ := ha.consE
  cases ha.nilE
  cases h0
  exact ⟨a, y1, y2, rfl, hs, h1, h2⟩
theorem tv4 {H : Hp} {v : V} {x : Str} {t1 t2 t3 : Qa.T} (h : Tv K H v (.tup [.str x, t1, t2, t3])) : ∃ a v1 v2 v3, v = .ref a ∧ SqT K H a [.str x, v1, v2, v3] ∧ Tv K H v1 t1 ∧ Tv K H v2 t2 ∧ Tv K H v3 t3 := by
  obtain ⟨a, xs, rfl, hs, ha⟩ := h.tupE
  obtain ⟨y0, xs, rfl, h0, ha⟩ := ha.consE
  obtain ⟨y1, xs, rfl, h1, ha⟩ := ha.consE
  obtain ⟨y2, xs, rfl, h2, ha⟩ := ha.consE
  obtain ⟨y3, xs, rfl, h3, ha⟩ := ha.consE
  cases ha.nilE
  cases h0
  exact ⟨a, y1, y2, y3, rfl, hs, h1, h2, h3⟩
theorem k_worth {m lv : Nat} (T : Tx K w mg) (c__worth : Cal P w K mg base "_worth" lv p_worth (spWorth K mg m)) (hlv : 2 ≤ lv) (c_hundredths : Cal P w K mg base "hundredths" 1 phundredths (spHun K)) (c_at_number : Cal P w K mg base "at_number" 2 pat_number (spAt K)) (c__of_both : Cal P w K mg base "_of_both" 1 p_of_both spBoth) :
    Cal P w K mg base "_worth" (lv + 1) p_worth (spWorth K mg (m + 1)) := by
  refine cal2 T.F__worth sc_worth b_worth rfl fun g cdv A outer s H a b Q E hr h => ?_
  obtain ⟨t, p, ll, n, ch, Y, L, sz, rfl, ht, hS, z1, z2, z3, hR, q⟩ := h
  refine ⟨_, (pss_one (Qm.ps_match (pv 0) (Qm.pm_lead rfl (sc_worth).nd (.cons (i := 2) rfl (by first | exact Or.inl rfl | exact Or.inr rfl) (by first | exact .inl rfl | exact .inr rfl) Qm.PCaps.nil) (pss_one (ps_ret (pv 2))) (Qm.pm_lead rfl (sc_worth).nd (.cons (i := 3) rfl (by first | exact Or.inl rfl | exact Or.inr rfl) (by first | exact .inl rfl | exact .inr rfl) Qm.PCaps.nil) (pss_one (ps_ret (pe_dget2 (hu_of hr) (pe_fld (pv 1) rfl) (pv 3) pe_int ⟨rfl, rfl, rfl, rfl⟩))) (Qm.pm_lead rfl (sc_worth).nd (.cons (i := 4) rfl (by first | exact Or.inl rfl | exact Or.inr rfl) (by first | exact .inl rfl | exact .inr rfl) Qm.PCaps.nil) (pss_one (ps_ret (pe_ix ix_seq (pe_fld (pv 1) rfl) (pv 4) (fun _ _ => rfl)))) (Qm.pm_lead rfl (sc_worth).nd (.cons (i := 4) rfl (by first | exact Or.inl rfl | exact Or.inr rfl) (by first | exact .inl rfl | exact .inr rfl) Qm.PCaps.nil) (pss_one (ps_ret (pe_ifExp (pt_tru (pe_fld (pv 1) rfl)) (pe_ix ix_seq (pe_fld (pv 1) rfl) (pv 4) (fun _ _ => rfl)) pe_int))) (Qm.pm_lead rfl (sc_worth).nd (.cons (i := 5) rfl (by first | exact Or.inl rfl | exact Or.inr rfl) (by first | exact .inl rfl | exact .inr rfl) (.cons (i := 6) rfl (by first | exact Or.inl rfl | exact Or.inr rfl) (by first | exact .inl rfl | exact .inr rfl) Qm.PCaps.nil)) (pss_one (ps_ret (pe_cal c_hundredths (hr.mono (by omega)) (pa_cons (pe_cal c__worth (hr.mono (by omega)) (pa_cons (pv 5) (pa_cons (pv 1) pa_nil))) (pa_cons (pv 6) pa_nil))))) (Qm.pm_lead rfl (sc_worth).nd (.cons (i := 7) rfl (by first | exact Or.inl rfl | exact Or.inr rfl) (by first | exact .inl rfl | exact .inr rfl) (.cons (i := 5) rfl (by first | exact Or.inl rfl | exact Or.inr rfl) (by first | exact .inl rfl | exact .inr rfl) Qm.PCaps.nil)) (pss_one (ps_ret (pe_cal c_at_number (hr.mono (by omega)) (pa_cons (pe_ix ix_seq (pe_fld (pv 1) rfl) (pv 7) (fun _ _ => rfl)) (pa_cons (pe_cal c__worth (hr.mono (by omega)) (pa_cons (pv 5) (pa_cons (pv 1) pa_nil))) pa_nil))))) (Qm.pm_lead rfl (sc_worth).nd (.cons (i := 5) rfl (by first | exact Or.inl rfl | exact Or.inr rfl) (by first | exact .inl rfl | exact .inr rfl) (.cons (i := 8) rfl (by first | exact Or.inl rfl | exact Or.inr rfl) (by first | exact .inl rfl | exact .inr rfl) (.cons (i := 9) rfl (by first | exact Or.inl rfl | exact Or.inr rfl) (by first | exact .inl rfl | exact .inr rfl) Qm.PCaps.nil))) (pss_one (ps_ret (pe_cal c__worth (hr.mono (by omega)) (pa_cons (pe_ifExp (pt_cmpR op_gt (pe_cal c__worth (hr.mono (by omega)) (pa_cons (pv 5) (pa_cons (pv 1) pa_nil))) pe_int (nomark _)) (pv 8) (pv 9)) (pa_cons (pv 1) pa_nil))))) (Qm.pm_lead rfl (sc_worth).nd (.cons (i := 10) rfl (by first | exact Or.inl rfl | exact Or.inr rfl) (by first | exact .inl rfl | exact .inr rfl) (.cons (i := 5) rfl (by first | exact Or.inl rfl | exact Or.inr rfl) (by first | exact .inl rfl | exact .inr rfl) (.cons (i := 8) rfl (by first | exact Or.inl rfl | exact Or.inr rfl) (by first | exact .inl rfl | exact .inr rfl) Qm.PCaps.nil))) (pss_one (ps_ret (pe_cal c__worth (hr.mono (by omega)) (pa_cons (pe_ifExp (pt_tru (pe_ix ix_seq (pe_fld (pv 1) rfl) (pv 10) (fun _ _ => rfl))) (pv 8) (pv 5)) (pa_cons (pv 1) pa_nil))))) (Qm.pm_bare rfl (sc_worth).nd (.cons (i := 3) rfl (by first | exact Or.inl rfl | exact Or.inr rfl) (by first | exact .inl rfl | exact .inr rfl) (.cons (i := 5) rfl (by first | exact Or.inl rfl | exact Or.inr rfl) (by first | exact .inl rfl | exact .inr rfl) (.cons (i := 8) rfl (by first | exact Or.inl rfl | exact Or.inr rfl) (by first | exact .inl rfl | exact .inr rfl) Qm.PCaps.nil))) (pss_one (ps_ret (pe_cal c__of_both (hr.mono (by omega)) (pa_cons (pv 3) (pa_cons (pe_cal c__worth (hr.mono (by omega)) (pa_cons (pv 5) (pa_cons (pv 1) pa_nil))) (pa_cons (pe_cal c__worth (hr.mono (by omega)) (pa_cons (pv 8) (pa_cons (pv 1) pa_nil))) pa_nil)))))) Qm.pm_nil))))))))))), ?_⟩
  rw [t_worth]
  try dsimp only [cxOf, Cx.nox, Cx.wish]
  obtain ⟨dx, tt, tvs, dp, el, tl, hp, htt, httv, ⟨pz, hpz, epz⟩, ⟨es, hes, ees, les⟩, ⟨bs, hbs, ebs, lbs⟩⟩ := id hS.at_
  have hll := hS.lin
  have lL := hS.len
  have rec_ : ∀ {x : V} {u : Qa.T} {R : VK}, Tv K H x u → isRule sz m u = true → R (.int (worth (Y.at_ L) m u)) H → spWorth K mg m [x, .ref p] H R E0 := fun {x u R} hx hu hq => rd_sp2 ⟨u, p, ll, n, ch, Y, L, sz, rfl, hx, hS, z1, z2, z3, hu, hq⟩
  cases view hR with
  | @number i hi =>
    obtain ⟨a0, v1, rfl, hs, h1⟩ := tv2 ht
    cases h1
    walk_at "rd"
    refine rd_mt hs (rd_mhit rfl ?_)
    walk_at "rd"
    exact q
  | @paper z hz =>
    obtain ⟨a0, v1, rfl, hs, h1⟩ := tv2 ht
    cases h1
    walk_at "rd"
    refine rd_mt hs (rd_mmiss (by decide) (rd_mhit rfl ?_))
    walk_at "rd"
    refine rd_at hp T.c_Sheet T.na_Sheet_papers rfl ?_
    refine rd_dget2D hpz ?_
    walk_at "rd"
    refine rd_dgetOS hpz ?_
    rw [pkv_get]
    rw [w_paper] at q
    rw [show (Y.at_ L).papers z = papF pz z by show Y.papers z = _; rw [epz]] at q
    exact q
  | @line k hk =>
    obtain ⟨a0, v1, rfl, hs, h1⟩ := tv2 ht
    cases h1
    walk_at "rd"
    refine rd_mt hs (rd_mmiss (by decide) (rd_mmiss (by decide) (rd_mhit rfl ?_)))
    walk_at "rd"
    refine rd_at hp T.c_Sheet T.na_Sheet_lines rfl ?_
    walk_at "rd"
    refine rd_ixL (.of hll) (atI_nat (ints_at (by omega))) ?_
    exact q
  | @earlier k hk =>
    obtain ⟨a0, v1, rfl, hs, h1⟩ := tv2 ht
    cases h1
    walk_at "rd"
    refine rd_mt hs (rd_mmiss (by decide) (rd_mmiss (by decide) (rd_mmiss (by decide) (rd_mhit rfl ?_))))
    walk_at "rd"
    refine rd_at hp T.c_Sheet T.na_Sheet_earlier rfl ?_
    refine rd_truL hes ?_
    rw [w_earlier] at q
    have q : Q (.int (Y.earlier k)) H := q
    rw [ees k] at q
    cases es with
    | nil =>
      walk_at "rd"
      exact q
    | cons e0 er =>
      rw [List.map_cons]
      walk_at "rd"
      refine rd_at hp T.c_Sheet T.na_Sheet_earlier rfl ?_
      walk_at "rd"
      refine rd_ixL hes (atI_nat (ints_at (by have := les.resolve_left (List.cons_ne_nil _ _); omega))) ?_
      exact q
  | @part u pc p0 p1 hu =>
    obtain ⟨a0, v1, v2, rfl, hs, h1, h2⟩ := tv3 ht
    cases h2
    walk_at "rd"
    refine rd_mt hs (rd_mmiss (by decide) (rd_mmiss (by decide) (rd_mmiss (by decide) (rd_mmiss (by decide) (rd_mhit rfl ?_)))))
    walk_at "rd"
    refine rec_ h1 hu ?_
    walk_at "rd"
    exact rd_sp2 ⟨_, _, rfl, rfl, p0, p1, q⟩
  | @table k u hk hu =>
    obtain ⟨a0, v1, v2, rfl, hs, h1, h2⟩ := tv3 ht
    cases h1
    walk_at "rd"
    refine rd_mt hs (rd_mmiss (by decide) (rd_mmiss (by decide) (rd_mmiss (by decide) (rd_mmiss (by decide) (rd_mmiss (by decide) (rd_mhit rfl ?_))))))
    walk_at "rd"
    refine rd_at hp T.c_Sheet T.na_Sheet_tables rfl ?_
    walk_at "rd"
    have hk' : k < Y.tables.length := by omega
    obtain ⟨v, hv, tv⟩ := httv.get (i := k) (t := .tup ((Y.tables.getD k []).map rowT)) (by rw [List.getElem?_map, List.getElem?_eq_getElem hk', List.getD_eq_getElem?_getD, List.getElem?_eq_getElem hk']; rfl)
    refine rd_ixT htt (atI_nat hv) ?_
    walk_at "rd"
    refine rec_ h2 hu ?_
    walk_at "rd"
    exact rd_sp2 ⟨Y.tables.getD k [], _, tv, rfl, hS.pct _ (by rw [List.getD_eq_getElem?_getD, List.getElem?_eq_getElem hk']; exact List.getElem_mem hk'), q⟩
  | @where_ u1 u2 u3 r1 r2 r3 =>
    obtain ⟨a0, v1, v2, v3, rfl, hs, h1, h2, h3⟩ := tv4 ht
    walk_at "rd"
    refine rd_mt hs (rd_mmiss (by decide) (rd_mmiss (by decide) (rd_mmiss (by decide) (rd_mmiss (by decide) (rd_mmiss (by decide) (rd_mmiss (by decide) (rd_mhit rfl ?_)))))))
    walk_at "rd"
    refine rec_ h1 r1 ?_
    walk_at "rd"
    rw [w_where] at q
    refine rd_ite (fun h => ?_) (fun h => ?_)
    · walk_at "rd"
      rw [if_pos h] at q
      exact rec_ h2 r2 q
    · walk_at "rd"
      rw [if_neg h] at q
      exact rec_ h3 r3 q
  | @choose k u1 u2 hk r1 r2 =>
    obtain ⟨a0, v1, v2, v3, rfl, hs, h1, h2, h3⟩ := tv4 ht
    cases h1
    walk_at "rd"
    refine rd_mt hs (rd_mmiss (by decide) (rd_mmiss (by decide) (rd_mmiss (by decide) (rd_mmiss (by decide) (rd_mmiss (by decide) (rd_mmiss (by decide) (rd_mmiss (by decide) (rd_mhit rfl ?_))))))))
    walk_at "rd"
    refine rd_at hp T.c_Sheet T.na_Sheet_taken rfl ?_
    walk_at "rd"
    refine rd_ixLT hbs (atI_nat (bls_at (by omega))) ?_
    rw [w_choose, show (Y.at_ L).taken k = bs.getD k false from ebs k] at q
    walk_at "rd"
    cases hb : bs.getD k false with
    | true =>
      walk_at "rd"
      rw [hb, if_pos rfl] at q
      exact rec_ h3 r2 q
    | false =>
      walk_at "rd"
      rw [hb, if_neg (by decide)] at q
      exact rec_ h2 r1 q
  | @two x u1 u2 hx r1 r2 =>
    obtain ⟨a0, v1, v2, rfl, hs, h1, h2⟩ := tv3 ht
    rw [w_two hx] at q
    have nx_ : ∀ z : Str, z ∉ four → x ≠ z := fun z hz e => hz (e ▸ hx)
    walk_at "rd"
    refine rd_mt hs (rd_mmiss (nx_ _ (by decide)) (rd_mmiss (nx_ _ (by decide)) (rd_mmiss (nx_ _ (by decide)) (rd_mmiss (nx_ _ (by decide)) (rd_mmiss (nx_ _ (by decide)) (rd_mmiss (nx_ _ (by decide)) (rd_mmiss (nx_ _ (by decide)) (rd_mmiss (nx_ _ (by decide)) (rd_mbare rfl ?_)))))))))
    walk_at "rd"
    refine rec_ h1 r1 ?_
    walk_at "rd"
    refine rec_ h2 r2 ?_
    walk_at "rd"
    exact rd_sp3 ⟨x, _, _, rfl, rfl, rfl, hx, q⟩
theorem k_worth0 (T : Tx K w mg) : Cal P w K mg base "_worth" 2 p_worth (spWorth K mg 0) :=
  (cal_mk T.F__worth sc_worth b_worth (sp := spWorth K mg 0) (fun _ _ _ _ h => by obtain ⟨a, b, rfl, _⟩ := h; rfl) fun f cdv A outer s H vs Q E hr h => by
    obtain ⟨a, b, rfl, t, p, ll, n, ch, Y, L, sz, _, _, _, _, _, _, hR, _⟩ := h
    cases hR).mono (by omega : 1 ≤ 2)
theorem k_worthn (T : Tx K w mg) (c_hundredths : Cal P w K mg base "hundredths" 1 phundredths (spHun K)) (c_at_number : Cal P w K mg base "at_number" 2 pat_number (spAt K)) : ∀ m : Nat, Cal P w K mg base "_worth" (2 + m) p_worth (spWorth K mg m)
  | 0 => k_worth0 T
  | m + 1 => k_worth T (k_worthn T c_hundredths c_at_number m) (by show 2 ≤ 2 + m; omega) c_hundredths c_at_number (k__of_both T)
end
end KF
open PySem PySem.Spec PyProof.Rows L2 Qa Qr
open Qg Qe Qi Qm Qw


namespace KF
section
variable {P : Program} {w : World} {K : PySem.W.Frag} {mg : Str → Option Value} {base : Heap} {H : Hp} {Q : VK} {E : XK}
theorem Tame.ins {H : Hp} {x C dx : Addr} {fs : List (Str × V)} (h : H x = some (.ins C dx fs)) (o : HO) : Tame H (upd H x o) := by
  have ne : ∀ b u, H b = some u → (∀ C dx fs, u ≠ .ins C dx fs) → b ≠ x := fun b u e z => by
    rintro rfl
    rw [h] at e
    cases e
    exact z _ _ _ rfl
  refine ⟨fun b zs q => ?_, fun b zs q => ⟨zs, ?_⟩⟩
  · rcases q with q | ⟨o', q⟩
    · exact .inl (by rw [upd_ne (ne b _ q (by intro _ _ _ z; cases z))]; exact q)
    · exact .inr ⟨o', by rw [upd_ne (ne b _ q (by intro _ _ _ z; cases z))]; exact q⟩
  · rcases q with q | ⟨o', q⟩
    · exact .inl (by rw [upd_ne (ne b _ q (by intro _ _ _ z; cases z))]; exact q)
    · exact .inr ⟨o', by rw [upd_ne (ne b _ q (by intro _ _ _ z; cases z))]; exact q⟩
/-- a form that is one -/
structure FormG (K : PySem.W.Frag) (H : Hp) (f : Addr) (ts : List T) (rows : List (List Qr.Row)) (ch ow : Nat) : Prop where
  at_ : FormAt K H f ts (rows.map fun r => (T.tup (r.map rowT))) ch ow
  rule : ∀ t ∈ ts, isRule ⟨ts.length, rows.length, ch⟩ 8 t = true
  few : 1 ≤ ts.length ∧ ts.length ≤ 40
  acyc : Acyc (nmOf ts)
  tabs : ∀ r ∈ rows, GoodTab r
  own : ow < ts.length
  chf : ch ≤ 8
theorem FormG.tame {H H' : Hp} {f : Addr} {ts : List T} {rows : List (List Qr.Row)} {ch ow : Nat} (h : FormG K H f ts rows ch ow) (e : Tame H H') : FormG K H' f ts rows ch ow := ⟨h.at_.tame e, h.rule, h.few, h.acyc, h.tabs, h.own, h.chf⟩
theorem FormG.ex {H H' : Hp} {f : Addr} {ts : List T} {rows : List (List Qr.Row)} {ch ow : Nat} (h : FormG K H f ts rows ch ow) (e : Ex H H') : FormG K H' f ts rows ch ow := h.tame (Tame.ex e)
theorem good_pcts {rows : List (List Qr.Row)} (h : ∀ r ∈ rows, GoodTab r) : ∀ r ∈ rows, pcts r := fun r hr x hx => ⟨((h r hr).row x hx).c0, ((h r hr).row x hx).c1⟩
def spSheetI (K : PySem.W.Frag) (mg : Str → Option Value) : Sp := sp5 fun a b c d e H Q => ∃ (x dx f lt tt : Addr) (ch ow : V) (vs : List V), a = .ref x ∧ b = .ref f ∧ H x = some (.ins (clsA mg "Sheet") dx []) ∧ SqT K H f [.ref lt, .ref tt, ch, ow] ∧ SqT K H lt vs ∧ vs.length ≤ 1000 ∧
  ∀ ll H', H ll = none → (∀ b o, b ≠ x → H b = some o → H' b = some o) → H' x = some (.ins (clsA mg "Sheet") dx (shF (.ref tt) c d e (.ref ll))) → H' ll = some (.lst (List.replicate vs.length (.int 0))) → Q .non H'
abbrev fs1 (a : V) : List (Str × V) := [("tables", a)]
abbrev fs2 (a b : V) : List (Str × V) := [("tables", a), ("papers", b)]
abbrev fs3 (a b c : V) : List (Str × V) := [("tables", a), ("papers", b), ("earlier", c)]
abbrev fs4 (a b c d : V) : List (Str × V) := [("tables", a), ("papers", b), ("earlier", c), ("taken", d)]
theorem sh1 {a b : V} : putF "papers" b (fs1 a) = fs2 a b := by
  simp only [putF]
  rw [if_neg (by decide +kernel)]
theorem sh2 {a b c : V} : putF "earlier" c (fs2 a b) = fs3 a b c := by
  simp only [putF]
  rw [if_neg (by decide +kernel), if_neg (by decide +kernel)]
theorem sh3 {a b c d : V} : putF "taken" d (fs3 a b c) = fs4 a b c d := by
  simp only [putF]
  rw [if_neg (by decide +kernel), if_neg (by decide +kernel), if_neg (by decide +kernel)]
theorem sh4 {a b c d e : V} : putF "lines" e (fs4 a b c d) = shF a b c d e := by
  unfold shF
  simp only [putF]
  rw [if_neg (by decide +kernel), if_neg (by decide +kernel), if_neg (by decide +kernel), if_neg (by decide +kernel)]
theorem k_Sheet___init__ (T : Tx K w mg) : CalI P w K mg base "Sheet" 1 pSheet___init__ (spSheetI K mg) := by
  refine calI_mk T.F_Sheet___init__ scSheet___init__ bSheet___init__ (fun vs H Q E h => by obtain ⟨a, b, c, d, e, rfl, _⟩ := h; rfl) fun g cdv A outer s H vs Q E hr h => ?_
  obtain ⟨a, b, c, d, e, rfl, x, dx, f, lt, tt, ch, ow, vs, rfl, rfl, hx, hf, hlt, hv, q⟩ := h
  refine ⟨_, (pss_cons (ps_fld (pv 0) (pe_ix ix_seq (pv 1) (pe_gint T.g_TABLES) (fun _ _ => rfl)) rfl) (pss_cons (ps_fld (pv 0) (pv 2) rfl) (pss_cons (ps_fld (pv 0) (pv 3) rfl) (pss_cons (ps_fld (pv 0) (pv 4) rfl) (pss_one (ps_fld (pv 0) (pe_op op_rep (pe_lst (pa_cons pe_int pa_nil)) (pe_callB cr_lenA (by rfl) T.m_len (by decide +kernel) (pa_cons (pe_ix ix_seq (pv 1) (pe_gint T.g_LINES) (fun _ _ => rfl)) pa_nil))) rfl)))))), ?_⟩
  rw [tSheet___init__]
  try dsimp only [cxOf, Cx.nox, Cx.wish]
  walk_at "rd"
  refine rd_ixT hf (atI_nat (j := 1) rfl) ?_
  walk_at "rd"
  refine rd_put hx T.c_Sheet T.na_Sheet_tables (by decide) ?_
  rw [show putF "tables" (V.ref tt) [] = fs1 (V.ref tt) from rfl]
  generalize e1 : upd H x _ = H1
  have h1 : H1 x = some (.ins (clsA mg "Sheet") dx (fs1 (V.ref tt))) := by rw [← e1]; exact upd_same
  have k1 : ∀ b, b ≠ x → H1 b = H b := fun b hb => by rw [← e1, upd_ne hb]
  have m1 : Tame H H1 := by rw [← e1]; exact Tame.ins hx _
  clear e1
  walk_at "rd"
  refine rd_put h1 T.c_Sheet T.na_Sheet_papers (by show 1 < 1000; decide) ?_
  rw [sh1]
  generalize e2 : upd H1 x _ = H2
  have h2 : H2 x = some (.ins (clsA mg "Sheet") dx (fs2 (V.ref tt) c)) := by rw [← e2]; exact upd_same
  have k2 : ∀ b, b ≠ x → H2 b = H b := fun b hb => by rw [← e2, upd_ne hb, k1 b hb]
  have m2 : Tame H H2 := m1.trans (by rw [← e2]; exact Tame.ins h1 _)
  clear e2
  walk_at "rd"
  refine rd_put h2 T.c_Sheet T.na_Sheet_earlier (by show 2 < 1000; decide) ?_
  rw [sh2]
  generalize e3 : upd H2 x _ = H3
  have h3 : H3 x = some (.ins (clsA mg "Sheet") dx (fs3 (V.ref tt) c d)) := by rw [← e3]; exact upd_same
  have k3 : ∀ b, b ≠ x → H3 b = H b := fun b hb => by rw [← e3, upd_ne hb, k2 b hb]
  have m3 : Tame H H3 := m2.trans (by rw [← e3]; exact Tame.ins h2 _)
  clear e3
  walk_at "rd"
  refine rd_put h3 T.c_Sheet T.na_Sheet_taken (by show 3 < 1000; decide) ?_
  rw [sh3]
  generalize e4 : upd H3 x _ = H4
  have h4 : H4 x = some (.ins (clsA mg "Sheet") dx (fs4 (V.ref tt) c d e)) := by rw [← e4]; exact upd_same
  have k4 : ∀ b, b ≠ x → H4 b = H b := fun b hb => by rw [← e4, upd_ne hb, k3 b hb]
  have m4 : Tame H H4 := m3.trans (by rw [← e4]; exact Tame.ins h3 _)
  clear e4
  walk_at "rd"
  refine new_lst fun p5 H5 hp5 E5 h5 => ?_
  walk_at "rd"
  refine rd_ixT (sqt_ex (m4.sqT hf) E5) (atI_nat (j := 0) rfl) ?_
  walk_at "rd"
  refine rd_lenT (sqt_ex (m4.sqT hlt) E5) ?_
  refine rd_rep h5 (by omega) (by omega) (by show 1 ≤ 100; decide) fun ll H6 hll E6 h6 => ?_
  rw [flat_one, Int.toNat_natCast] at h6
  walk_at "rd"
  have E46 := E5.trans E6
  refine rd_put (E46 _ _ h4) T.c_Sheet T.na_Sheet_lines (by show 4 < 1000; decide) ?_
  rw [sh4]
  walk_at "rd"
  have nxl : ll ≠ x := by rintro rfl; rw [E5 _ _ h4] at hll; cases hll
  have hllH : H ll = none := by rw [← k4 ll nxl]; exact free_of E5 hll
  refine q ll _ hllH (fun b o nb hb => ?_) upd_same (by rw [upd_ne nxl]; exact h6)
  rw [upd_ne nb]
  exact E46 _ _ (by rw [k4 b nb]; exact hb)
def spLinesOf (K : PySem.W.Frag) (mg : Str → Option Value) : Sp := sp5 fun a b c d e H Q => ∃ (f o dp el tl : Addr) (ts : List T) (rows : List (List Qr.Row)) (ch ow : Nat) (ord : List Nat) (Y : Yr), a = .ref f ∧ b = .ref o ∧ c = .ref dp ∧ d = .ref el ∧ e = .ref tl ∧
  FormG K H f ts rows ch ow ∧ SqL K H o (ord.map iv) ∧ Topo (nmOf ts) ord ∧ ord.length = ts.length ∧ Y.tables = rows ∧ YearAt K H ts.length ch dp el tl Y ∧ ∀ (p : Addr) (L : List Int) (H' : Hp), Ex H H' → H p = none → H' p = some (.lst (L.map V.int)) → Reck Y ts L → Q (.ref p) H'
theorem k_lines_of (T : Tx K w mg) (i_Sheet : CalI P w K mg base "Sheet" 1 pSheet___init__ (spSheetI K mg)) (c__worth : Cal P w K mg base "_worth" 10 p_worth (spWorth K mg 8)) : Cal P w K mg base "lines_of" 11 plines_of (spLinesOf K mg) := by
  refine cal5 T.F_lines_of sclines_of blines_of rfl fun g cdv A outer s H a b c d e Q E hr h => ?_
  obtain ⟨f, o, dp, el, tl, ts, rows, ch, ow, ord, Y, rfl, rfl, rfl, rfl, rfl, F, ho, tp, lord, et, hY, q⟩ := h
  refine ⟨_, (pss_cons (ps_set (i := 5) (sclines_of).nd rfl (by first | exact Or.inl rfl | exact Or.inr rfl) (Qi.pe_mk i_Sheet (hr.mono (by omega)) (pa_cons (pv 0) (pa_cons (pv 2) (pa_cons (pv 3) (pa_cons (pv 4) pa_nil)))))) (pss_cons (ps_for PassesOwn.never rfl (pi_seq (pv 1)) (pg_name (i := 6) (sclines_of).nd rfl (by first | exact Or.inl rfl | exact Or.inr rfl)) (pss_one (ps_asg (pe_cal c__worth (hr.mono (by omega)) (pa_cons (pe_ix ix_seq (pe_ix ix_seq (pv 0) (pe_gint T.g_LINES) (fun _ _ => rfl)) (pv 6) (fun _ _ => rfl)) (pa_cons (pv 5) pa_nil))) (pg_sub (pe_fld (pv 5) rfl) (pv 6) set_list)))) (pss_one (ps_ret (pe_fld (pv 5) rfl))))), ?_⟩
  rw [tlines_of]
  try dsimp only [cxOf, Cx.nox, Cx.wish]
  obtain ⟨lt, tt, vs, tvs, f1, f2, f3, f4, f5⟩ := F.at_.at_
  have lv : vs.length = ts.length := f3.len
  have few := F.few
  walk_at "rd"
  intro x dx hx hdx nxd
  have keep0 : ∀ b o, H b = some o → upd (upd H dx (.own x)) x (.ins (clsA mg "Sheet") dx []) b = some o := fun b o hb => by
    rw [upd_ne (by rintro rfl; rw [hx] at hb; cases hb), upd_ne (by rintro rfl; rw [hdx] at hb; cases hb)]
    exact hb
  have E0_ : Ex H (upd (upd H dx (.own x)) x (.ins (clsA mg "Sheet") dx [])) := keep0
  refine rd_sp5 ⟨x, dx, f, lt, tt, _, _, vs, rfl, rfl, upd_same, sqt_ex f1 E0_, sqt_ex f2 E0_, by omega, fun ll H1 hll k1 h1 hz => ⟨rfl, ?_⟩⟩
  have E1 : Ex H H1 := fun b o hb => k1 b o (by rintro rfl; rw [hx] at hb; cases hb) (keep0 b o hb)
  have hllH : H ll = none := free_of E0_ hll
  clear E0_ keep0 k1
  have ho1 := sql_ex ho E1
  have E1' : Ex H H1 ∧ True := ⟨E1, trivial⟩
  clear E1
  walk_at "rd"
  obtain ⟨E1, _⟩ := E1'
  rw [lv] at hz
  have td := topo_nodup tp
  have lnm := nmOf_len ts
  refine forW_Lx ho1 (fun i σ H' => ((∃ y, σ = [some (.ref f), some (.ref o), some (.ref dp), some (.ref el), some (.ref tl), some (.ref x), y]) ∧ Ex H H') ∧ ∃ L : List Int, H' x = some (.ins (clsA mg "Sheet") dx (shF (.ref tt) (.ref dp) (.ref el) (.ref tl) (.ref ll))) ∧ H' ll = some (.lst (L.map V.int)) ∧ Qw.Part Y ts (ord.take i) L) ?_ ?_ ?_ ?_
  · refine ⟨⟨⟨_, rfl⟩, E1⟩, List.replicate ts.length 0, h1, by rw [List.map_replicate]; exact hz, List.length_replicate, fun k t hk => by cases hk⟩
  · rintro i σ H' hi ⟨⟨_, e⟩, _⟩
    exact sql_ex ho e
  · rintro i v σ H2 hv ⟨⟨⟨y, rfl⟩, e⟩, L, hx2, hll2, hP⟩
    rw [List.getElem?_map] at hv
    cases ek : ord[i]? with
    | none => rw [ek] at hv; cases hv
    | some k =>
    rw [ek] at hv
    cases (Option.some.inj hv)
    have hi : i < ord.length := (List.getElem?_eq_some_iff.mp ek).1
    have hk : k < ts.length := by have := (td.2 k (List.mem_of_getElem? ek)).1; omega
    have eti : ord.take (i + 1) = ord.take i ++ [k] := by rw [List.take_add_one, ek]; rfl
    obtain ⟨vk, hvk, tvk⟩ := f3.get (List.getElem?_eq_getElem hk)
    walk_at "rd"
    refine rd_ixT (sqt_ex f1 e) (atI_nat (j := 0) rfl) ?_
    walk_at "rd"
    refine rd_ixT (sqt_ex f2 e) (atI_nat hvk) ?_
    walk_at "rd"
    have hS : SheetAt K mg H2 x ll ts.length ch Y L := ⟨⟨dx, tt, tvs, dp, el, tl, hx2, sqt_ex f4 e, by rw [et]; exact tva_ex f5 e, hY.ex e⟩, hll2, hP.len, by rw [et]; exact good_pcts F.tabs⟩
    refine rd_sp2 ⟨ts[k], x, ll, ts.length, ch, Y, L, ⟨ts.length, rows.length, ch⟩, rfl, tv_ex tvk e, hS, rfl, by rw [et], rfl, F.rule _ (List.getElem_mem hk), ?_⟩
    walk_at "rd"
    refine rd_at hx2 T.c_Sheet T.na_Sheet_lines rfl ?_
    walk_at "rd"
    refine rd_setL hll2 (j := k) (ixN_k (by rw [List.length_map, hP.len]; exact hk)) ?_
    have nxl : x ≠ ll := by rintro rfl; rw [hx2] at hll2; cases hll2
    obtain ⟨up, hn⟩ := topo_split tp ek
    refine ⟨⟨⟨_, rfl⟩, ex_new hllH e⟩, L.set k (worth (Y.at_ L) 8 ts[k]), by rw [upd_ne nxl]; exact hx2, by rw [upd_same, List.map_set], ?_⟩
    rw [eti]
    exact part_step F.rule rfl hP (fun z => by
      obtain ⟨j, hj⟩ := List.getElem?_of_mem z
      rw [List.getElem?_take] at hj
      split at hj
      · have := (List.getElem?_inj (by omega) td.1).mp (hj.trans ek.symm)
        omega
      · cases hj) (List.getElem?_eq_getElem hk) up hn
  · rintro σ H2 ⟨⟨⟨y, rfl⟩, e⟩, L, hx2, hll2, hP⟩
    walk_at "rd"
    refine rd_at hx2 T.c_Sheet T.na_Sheet_lines rfl ?_
    refine q ll L H2 e hllH hll2 (part_end hP fun k hk => ?_)
    rw [List.take_of_length_le (by rw [List.length_map]; exact Nat.le_refl _)]
    by_cases hm : k ∈ ord
    · exact hm
    · exfalso
      have hl : ∀ z, z ∈ k :: ord → z < ts.length := fun z hz => by
        rcases List.mem_cons.mp hz with rfl | hz
        · exact hk
        · have := (td.2 z hz).1
          omega
      have := nodup_lt (List.nodup_cons.mpr ⟨hm, td.1⟩) hl
      rw [List.length_cons] at this
      omega
end
end KF
open PySem PySem.Spec PyProof.Rows L2 Qa Qr
open Qg Qe Qi Qm Qw


namespace KF
section
variable {P : Program} {w : World} {K : PySem.W.Frag} {mg : Str → Option Value} {base : Heap} {H : Hp} {Q : VK} {E : XK}
theorem isLT {H H' : Hp} {a tp : Addr} {bs : List Bool} (h : SqLT K H a (bs.map V.bl)) (ht : H tp = some (.tup [.ty "list", .ty "tuple"])) {Q : VK} (q : Q (.bl true) H) : rIsiT K [.ref a, .ref tp] H Q := by
  rcases h with h | h
  · refine ⟨.ref a, tp, [.ty "list", .ty "tuple"], .type "list", [.type "list", .type "tuple"], true, rfl, ht, .cons (.ty "list") (.cons (.ty "tuple") .nil), (Tv.lst h).ty, ?_, q⟩
    unfold PySem.W.kitAny
    rw [show PySem.W.kitOne K (.type "list") (.type "list") = some true from isT_kit (K := K) .lst (by decide)]
  · have tv : Tv K H (.ref a) (.tup (bs.map T.bl)) := .tup h (by
      clear h ht q
      induction bs with
      | nil => exact .nil
      | cons b bs ih => exact .cons (.bl b) ih)
    refine ⟨.ref a, tp, [.ty "list", .ty "tuple"], .type "tuple", [.type "list", .type "tuple"], true, rfl, ht, .cons (.ty "list") (.cons (.ty "tuple") .nil), tv.ty, ?_, q⟩
    unfold PySem.W.kitAny
    rw [show PySem.W.kitOne K (.type "tuple") (.type "list") = some false from isT_kit (K := K) (.tup []) (by decide)]
    show PySem.W.kitAny K (.type "tuple") [.type "tuple"] = some true
    unfold PySem.W.kitAny
    rw [show PySem.W.kitOne K (.type "tuple") (.type "tuple") = some true from isT_kit (K := K) (.tup []) (by decide)]
/-- what a year is reckoned by, from what is handed in -/
def yrOf (ps : Ps) (es : List Int) (rows : List (List Qr.Row)) (bs : List Bool) : Yr := ⟨papF (pzOf ps), fun k => es.getD k 0, rows, fun k => bs.getD k false⟩
end
end KF
open PySem PySem.Spec PyProof.Rows L2 Qa Qr
open Qg Qe Qi Qm Qw


namespace KF
section
variable {P : Program} {w : World} {K : PySem.W.Frag} {mg : Str → Option Value} {base : Heap} {H : Hp} {Q : VK} {E : XK}
theorem k__law_whole (T : Tx K w mg) : Cal P w K mg base "_law_whole" 1 p_law_whole (spWhole K) := by
  refine cal1 T.F__law_whole sc_law_whole b_law_whole rfl fun g cdv A outer s H a Q E hr h => ?_
  obtain ⟨t, ht, q⟩ := h
  refine ⟨_, (pss_one (ps_ret (pe_and (pe_callB call_isi (by rfl) T.m_isinstance (by decide +kernel) (pa_cons (pv 0) (pa_cons (pe_ty (n := "int") T.m_int (by decide +kernel)) pa_nil))) (pe_one (pe_not (pe_callB call_isi (by rfl) T.m_isinstance (by decide +kernel) (pa_cons (pv 0) (pa_cons (pe_ty (n := "bool") T.m_bool (by decide +kernel)) pa_nil)))))))), ?_⟩
  rw [t_law_whole]
  try dsimp only [cxOf, Cx.nox, Cx.wish]
  cases t <;> (walk_at "rd"; exact q)
theorem k__law_at (T : Tx K w mg) : Cal P w K mg base "_law_at" 1 p_law_at (spAt K) := by
  refine cal2 T.F__law_at sc_law_at b_law_at rfl fun g cdv A outer s H a b Q E hr h => ?_
  obtain ⟨rows, n, ht, rfl, hp, q⟩ := h
  refine ⟨_, (pss_cons (ps_set (i := 2) (sc_law_at).nd rfl (by first | exact Or.inl rfl | exact Or.inr rfl) pe_int) (pss_cons (ps_for PassesOwn.never rfl (pi_seq (pv 0)) (pg_name (i := 3) (sc_law_at).nd rfl (by first | exact Or.inl rfl | exact Or.inr rfl)) (pss_one (ps_if (pt_cmpR op_ge (pv 1) (pe_ix ix_seq (pv 3) pe_int (fun _ _ => rfl)) (nomark _)) (pss_one (ps_set (i := 2) (sc_law_at).nd rfl (by first | exact Or.inl rfl | exact Or.inr rfl) (pe_op op_addA (pe_ix ix_seq (pv 3) pe_int (fun _ _ => rfl)) (pe_op op_fdiv (pe_op op_mul (pe_op op_sub (pv 1) (pe_ix ix_seq (pv 3) pe_int (fun _ _ => rfl))) (pe_ix ix_seq (pv 3) pe_int (fun _ _ => rfl))) pe_int)))) pss_nil))) (pss_one (ps_ret (pv 2))))), ?_⟩
  rw [t_law_at]
  try dsimp only [cxOf, Cx.nox, Cx.wish]
  obtain ⟨p, xs, rfl, hs, ha⟩ := ht.tupE
  have el : xs.length = rows.length := by rw [ha.len, List.length_map]
  walk_at "rd"
  refine forW_T xs (fun i σ H2 => (∃ t y, σ = [some (.ref p), some (.int n), some (.int t), y] ∧ t = atN (rows.take i) n) ∧ H2 = H) ?_ ?_ ?_ ?_
  · exact ⟨⟨_, _, rfl, rfl⟩, rfl⟩
  · rintro i σ H2 hi ⟨_, rfl⟩
    exact hs
  · rintro i x σ H2 hx ⟨⟨t, y, rfl, et⟩, rfl⟩
    obtain ⟨r, c, hr, rfl, hc⟩ := tva_rows ha hx
    have hpr := hp r (List.mem_of_getElem? hr)
    walk_at "rd"
    refine rd_ixT hc (atI_nat (j := 0) rfl) ?_
    walk_at "rd"
    refine rd_ite (fun h1 => ?_) (fun h1 => ?_)
    · walk_at "rd"
      refine rd_ixT hc (atI_nat (j := 1) rfl) ?_
      walk_at "rd"
      refine rd_ixT hc (atI_nat (j := 0) rfl) ?_
      walk_at "rd"
      refine rd_ixT hc (atI_nat (j := 2) rfl) ?_
      walk_at "rd"
      exact ⟨⟨_, _, rfl, by rw [atN_take hr, if_pos h1]⟩, rfl⟩
    · walk_at "rd"
      exact ⟨⟨_, _, rfl, by rw [atN_take hr, if_neg h1]; exact et⟩, rfl⟩
  · rintro σ H2 ⟨⟨t, y, rfl, et⟩, rfl⟩
    walk_at "rd"
    rw [el, List.take_length] at et
    rw [et]
    exact q
/-- what the law reckons by, as it stands -/
structure SightAt (K : PySem.W.Frag) (H : Hp) (s : Addr) (n ch : Nat) (pz : Pz) (es : List Int) (rows : List (List Qr.Row)) (bs : List Bool) (L : List Int) : Prop where
  at_ : ∃ ll pl el tt tl vs tvs, SqT K H s [.ref ll, .ref pl, .ref el, .ref tt, .ref tl] ∧ SqL K H ll (L.map V.int) ∧ SqL K H pl vs ∧ TvA K H vs (psT (psOf pz)) ∧ SqL K H el (es.map V.int) ∧ SqT K H tt tvs ∧ TvA K H tvs (rows.map fun r => (T.tup (r.map rowT))) ∧ SqLT K H tl (bs.map V.bl)
  nd : (pz.map (·.1)).Nodup
  len : L.length = n
  esn : es = [] ∨ es.length = n
  bsn : bs.length = ch
  tabs : ∀ r ∈ rows, GoodTab r
theorem SightAt.ex {H H' : Hp} {s : Addr} {n ch : Nat} {pz : Pz} {es : List Int} {rows : List (List Qr.Row)} {bs : List Bool} {L : List Int} (h : SightAt K H s n ch pz es rows bs L) (e : Ex H H') : SightAt K H' s n ch pz es rows bs L := by
  obtain ⟨ll, pl, el, tt, tl, vs, tvs, h1, h2, h3, h4, h5, h6, h7, h8⟩ := h.at_
  exact ⟨⟨ll, pl, el, tt, tl, vs, tvs, sqt_ex h1 e, sql_ex h2 e, sql_ex h3 e, tva_ex h4 e, sql_ex h5 e, sqt_ex h6 e, tva_ex h7 e, h8.ex e⟩, h.nd, h.len, h.esn, h.bsn, h.tabs⟩
def sgOf (pz : Pz) (es : List Int) (rows : List (List Qr.Row)) (bs : List Bool) (L : List Int) : Sg := ⟨fun k => L.getD k 0, papF pz, fun k => es.getD k 0, rows, fun k => bs.getD k false⟩
def spLValue (K : PySem.W.Frag) (m : Nat) : Sp := sp2 fun a b H Q => ∃ t s n ch pz es rows bs L, b = .ref s ∧ Tv K H a t ∧ SightAt K H s n ch pz es rows bs L ∧ isRule ⟨n, rows.length, ch⟩ m t = true ∧ ∀ H', Ex H H' → Q (.int (worth (sgOf pz es rows bs L) m t)) H'
theorem k_lvalue {m lv : Nat} (T : Tx K w mg) (c__law_value : Cal P w K mg base "_law_value" lv p_law_value (spLValue K m)) (hlv : 1 ≤ lv) (c__law_at : Cal P w K mg base "_law_at" 1 p_law_at (spAt K)) :
    Cal P w K mg base "_law_value" (lv + 1) p_law_value (spLValue K (m + 1)) := by
  refine cal2 T.F__law_value sc_law_value b_law_value rfl fun g cdv A outer s0 H a b Q E hr h => ?_
  obtain ⟨t, s, n, ch, pz, es, rows, bs, L, rfl, ht, hS, hR, q⟩ := h
  refine ⟨_, (pss_cons (ps_set (i := 2) (sc_law_value).nd rfl (by first | exact Or.inl rfl | exact Or.inr rfl) (pe_ix ix_seq (pv 0) pe_int (fun _ _ => rfl))) (pss_cons (ps_if (pt_cmpR (op_eqA hr) (pv 2) pe_str (nomark _)) (pss_one (ps_ret (pe_ix ix_seq (pv 0) pe_int (fun _ _ => rfl)))) pss_nil) (pss_cons (ps_if (pt_cmpR (op_eqA hr) (pv 2) pe_str (nomark _)) (pss_one (ps_ret (pe_dget2 (hu_of hr) (pe_callTy (Qw.cr_dictP rfl) (by rfl) T.m_dict (by decide +kernel) (pa_cons (pe_ix ix_seq (pv 1) pe_int (fun _ _ => rfl)) pa_nil)) (pe_ix ix_seq (pv 0) pe_int (fun _ _ => rfl)) pe_int ⟨rfl, rfl, rfl, rfl⟩))) pss_nil) (pss_cons (ps_if (pt_cmpR op_in_seq (pv 2) (pe_lst (pa_cons pe_str (pa_cons pe_str pa_nil))) (by rfl)) (pss_cons (ps_set (i := 3) (sc_law_value).nd rfl (by first | exact Or.inl rfl | exact Or.inr rfl) (pe_ix ix_seq (pv 1) (pe_op op_mul pe_int (pe_callTy cr_int1 (by rfl) T.m_int (by decide +kernel) (pa_cons (pe_cmpR (op_eqA hr) (pv 2) pe_str (nomark _)) pa_nil))) (fun _ _ => rfl))) (pss_one (ps_ret (pe_callB (cr_sum rfl) (by rfl) T.m_sum (by decide +kernel) (pa_cons (pe_slice sl_any (pv 3) (po_some (pe_ix ix_seq (pv 0) pe_int (fun _ _ => rfl))) (po_some (pe_op op_addA (pe_ix ix_seq (pv 0) pe_int (fun _ _ => rfl)) pe_int))) pa_nil))))) pss_nil) (pss_cons (ps_if (pt_cmpR (op_eqA hr) (pv 2) pe_str (nomark _)) (pss_one (ps_ret (pe_cal c__law_at (hr.mono (by omega)) (pa_cons (pe_ix ix_seq (pe_ix ix_seq (pv 1) pe_int (fun _ _ => rfl)) (pe_ix ix_seq (pv 0) pe_int (fun _ _ => rfl)) (fun _ _ => rfl)) (pa_cons (pe_cal c__law_value (hr.mono (by omega)) (pa_cons (pe_ix ix_seq (pv 0) pe_int (fun _ _ => rfl)) (pa_cons (pv 1) pa_nil))) pa_nil))))) pss_nil) (pss_cons (ps_if (pt_cmpR (op_eqA hr) (pv 2) pe_str (nomark _)) (pss_one (ps_ret (pe_op op_fdiv (pe_op op_mul (pe_cal c__law_value (hr.mono (by omega)) (pa_cons (pe_ix ix_seq (pv 0) pe_int (fun _ _ => rfl)) (pa_cons (pv 1) pa_nil))) (pe_ix ix_seq (pv 0) pe_int (fun _ _ => rfl))) pe_int))) pss_nil) (pss_cons (ps_if (pt_cmpR (op_eqA hr) (pv 2) pe_str (nomark _)) (pss_one (ps_ret (pe_cal c__law_value (hr.mono (by omega)) (pa_cons (pe_ix ix_seq (pv 0) (pe_op op_addA pe_int (pe_callTy cr_int1 (by rfl) T.m_int (by decide +kernel) (pa_cons (pe_ix ix_seq (pe_ix ix_seq (pv 1) pe_int (fun _ _ => rfl)) (pe_ix ix_seq (pv 0) pe_int (fun _ _ => rfl)) (fun _ _ => rfl)) pa_nil))) (fun _ _ => rfl)) (pa_cons (pv 1) pa_nil))))) pss_nil) (pss_cons (ps_set (i := 4) (sc_law_value).nd rfl (by first | exact Or.inl rfl | exact Or.inr rfl) (pe_cal c__law_value (hr.mono (by omega)) (pa_cons (pe_ix ix_seq (pv 0) pe_int (fun _ _ => rfl)) (pa_cons (pv 1) pa_nil)))) (pss_cons (ps_set (i := 5) (sc_law_value).nd rfl (by first | exact Or.inl rfl | exact Or.inr rfl) (pe_cal c__law_value (hr.mono (by omega)) (pa_cons (pe_ix ix_seq (pv 0) pe_int (fun _ _ => rfl)) (pa_cons (pv 1) pa_nil)))) (pss_cons (ps_if (pt_cmpR (op_eqA hr) (pv 2) pe_str (nomark _)) (pss_one (ps_ret (pe_ix ix_seq (pe_lst (pa_cons (pe_cal c__law_value (hr.mono (by omega)) (pa_cons (pe_ix ix_seq (pv 0) pe_int (fun _ _ => rfl)) (pa_cons (pv 1) pa_nil))) (pa_cons (pv 5) pa_nil))) (pe_callTy cr_int1 (by rfl) T.m_int (by decide +kernel) (pa_cons (pe_cmpR op_gt (pv 4) pe_int (nomark _)) pa_nil)) (fun _ _ => rfl)))) pss_nil) (pss_one (ps_ret (pe_dget (hu_of hr) (pe_disp (pps_cons pe_str (pe_op op_addA (pv 4) (pv 5)) (pps_cons pe_str (pe_op op_sub (pv 4) (pv 5)) (pps_cons pe_str (pe_callB (cr_min2 rfl) (by rfl) T.m_min (by decide +kernel) (pa_cons (pv 4) (pa_cons (pv 5) pa_nil))) (pps_cons pe_str (pe_callB (cr_max2 rfl) (by rfl) T.m_max (by decide +kernel) (pa_cons (pv 4) (pa_cons (pv 5) pa_nil))) pps_nil)))) (by rfl) (by rfl) (fun z => by cases z) (by decide)) (pv 2) (fun _ _ => rfl)))))))))))))), ?_⟩
  rw [t_law_value]
  try dsimp only [cxOf, Cx.nox, Cx.wish]
  obtain ⟨ll, pl, el, tt, tl, vs, tvs, hs, hll, hpl, hpv, hel, htt, httv, htl⟩ := hS.at_
  have lL := hS.len
  have lb := hS.bsn
  have rec_ : ∀ {H1 : Hp} {x : V} {u : Qa.T} {R : VK}, Ex H H1 → Tv K H1 x u → isRule ⟨n, rows.length, ch⟩ m u = true → (∀ H', Ex H1 H' → R (.int (worth (sgOf pz es rows bs L) m u)) H') → spLValue K m [x, .ref s] H1 R E0 := fun {H1 x u R} e hx hu hq => rd_sp2 ⟨u, s, n, ch, pz, es, rows, bs, L, rfl, hx, hS.ex e, hu, hq⟩
  cases view hR with
  | @number i hi =>
    obtain ⟨a0, v1, rfl, hs0, h1⟩ := tv2 ht
    cases h1
    walk_at "rd"
    refine rd_ixT hs0 (atI_nat (j := 0) rfl) ?_
    walk_at "rd"
    refine rd_ixT hs0 (atI_nat (j := 1) rfl) ?_
    exact q H (Evl.Ex.refl _)
  | @paper z hz =>
    obtain ⟨a0, v1, rfl, hs0, h1⟩ := tv2 ht
    cases h1
    walk_at "rd"
    refine rd_ixT hs0 (atI_nat (j := 0) rfl) ?_
    walk_at "rd"
    refine rd_ixT hs (atI_nat (j := 1) rfl) ?_
    walk_at "rd"
    refine rd_dictPz hpl hpv hS.nd fun d H1 hd E1 h1 => ?_
    refine rd_dget2D h1 ?_
    walk_at "rd"
    refine rd_ixT (sqt_ex hs0 E1) (atI_nat (j := 1) rfl) ?_
    walk_at "rd"
    refine rd_dgetOS h1 ?_
    rw [pkv_get]
    exact q H1 E1
  | @line k hk =>
    obtain ⟨a0, v1, rfl, hs0, h1⟩ := tv2 ht
    cases h1
    walk_at "rd"
    refine rd_ixT hs0 (atI_nat (j := 0) rfl) ?_
    walk_at "rd"
    refine new_lst fun p1 H1 hp1 E1 h1 => ?_
    refine rd_inSs (["line", "earlier"] : List Str) (.of h1) ?_
    walk_at "rd"
    refine rd_ixTk (n := 0) (sqt_ex hs E1) rfl rfl ?_
    walk_at "rd"
    refine rd_ixT (sqt_ex hs0 E1) (atI_nat (j := 1) rfl) ?_
    walk_at "rd"
    refine rd_ixT (sqt_ex hs0 E1) (atI_nat (j := 1) rfl) ?_
    walk_at "rd"
    refine rd_slL (sql_ex hll E1) fun p2 H2 hp2 E2 h2 => ?_
    rw [cut_one] at h2
    refine rd_sumL (.of h2) ?_
    rw [sum_one]
    exact q H2 (E1.trans E2)
  | @earlier k hk =>
    obtain ⟨a0, v1, rfl, hs0, h1⟩ := tv2 ht
    cases h1
    walk_at "rd"
    refine rd_ixT hs0 (atI_nat (j := 0) rfl) ?_
    walk_at "rd"
    refine new_lst fun p1 H1 hp1 E1 h1 => ?_
    refine rd_inSs (["line", "earlier"] : List Str) (.of h1) ?_
    walk_at "rd"
    refine rd_ixTk (n := 2) (sqt_ex hs E1) rfl rfl ?_
    walk_at "rd"
    refine rd_ixT (sqt_ex hs0 E1) (atI_nat (j := 1) rfl) ?_
    walk_at "rd"
    refine rd_ixT (sqt_ex hs0 E1) (atI_nat (j := 1) rfl) ?_
    walk_at "rd"
    refine rd_slL (sql_ex hel E1) fun p2 H2 hp2 E2 h2 => ?_
    rw [cut_one] at h2
    refine rd_sumL (.of h2) ?_
    rw [sum_one]
    exact q H2 (E1.trans E2)
  | @table k u hk hu =>
    obtain ⟨a0, v1, v2, rfl, hs0, h1, h2⟩ := tv3 ht
    cases h1
    walk_at "rd"
    refine rd_ixT hs0 (atI_nat (j := 0) rfl) ?_
    walk_at "rd"
    refine new_lst fun p1 H1 hp1 E1 h1 => ?_
    refine rd_inSs (["line", "earlier"] : List Str) (.of h1) ?_
    walk_at "rd"
    refine rd_ixT (sqt_ex hs E1) (atI_nat (j := 3) rfl) ?_
    walk_at "rd"
    refine rd_ixT (sqt_ex hs0 E1) (atI_nat (j := 1) rfl) ?_
    walk_at "rd"
    have hk' : k < rows.length := by have : (k : Int) < (rows.length : Nat) := hk; omega
    obtain ⟨v, hv, tv⟩ := httv.get (i := k) (t := .tup ((rows.getD k []).map rowT)) (by rw [List.getElem?_map, List.getElem?_eq_getElem hk', List.getD_eq_getElem?_getD, List.getElem?_eq_getElem hk']; rfl)
    refine rd_ixT (sqt_ex htt E1) (atI_nat hv) ?_
    walk_at "rd"
    refine rd_ixT (sqt_ex hs0 E1) (atI_nat (j := 2) rfl) ?_
    walk_at "rd"
    refine rec_ E1 (tv_ex h2 E1) hu fun H2 E2 => ?_
    walk_at "rd"
    refine rd_sp2 ⟨rows.getD k [], _, tv_ex tv (E1.trans E2), rfl, good_pcts hS.tabs _ (by rw [List.getD_eq_getElem?_getD, List.getElem?_eq_getElem hk']; exact List.getElem_mem hk'), q H2 (E1.trans E2)⟩
  | @part u pc p0 p1 hu =>
    obtain ⟨a0, v1, v2, rfl, hs0, h1, h2⟩ := tv3 ht
    cases h2
    walk_at "rd"
    refine rd_ixT hs0 (atI_nat (j := 0) rfl) ?_
    walk_at "rd"
    refine new_lst fun p1 H1 hp1 E1 h1' => ?_
    refine rd_inSs (["line", "earlier"] : List Str) (.of h1') ?_
    walk_at "rd"
    refine rd_ixT (sqt_ex hs0 E1) (atI_nat (j := 1) rfl) ?_
    walk_at "rd"
    refine rec_ E1 (tv_ex h1 E1) hu fun H2 E2 => ?_
    walk_at "rd"
    refine rd_ixT (sqt_ex hs0 (E1.trans E2)) (atI_nat (j := 2) rfl) ?_
    walk_at "rd"
    exact q H2 (E1.trans E2)
  | @choose k u1 u2 hk r1 r2 =>
    obtain ⟨a0, v1, v2, v3, rfl, hs0, h1, h2, h3⟩ := tv4 ht
    cases h1
    walk_at "rd"
    refine rd_ixT hs0 (atI_nat (j := 0) rfl) ?_
    walk_at "rd"
    refine new_lst fun p1 H1 hp1 E1 h1' => ?_
    refine rd_inSs (["line", "earlier"] : List Str) (.of h1') ?_
    walk_at "rd"
    refine rd_ixTk (n := 4) (sqt_ex hs E1) rfl rfl ?_
    walk_at "rd"
    refine rd_ixT (sqt_ex hs0 E1) (atI_nat (j := 1) rfl) ?_
    walk_at "rd"
    refine rd_ixLT (htl.ex E1) (atI_nat (bls_at (by have : (k : Int) < (ch : Nat) := hk; omega))) ?_
    have q' := q
    rw [w_choose, show (sgOf pz es rows bs L).taken k = bs.getD k false from rfl] at q
    walk_at "rd"
    cases hb : bs.getD k false with
    | true =>
      rw [hb, if_pos rfl] at q
      walk_at "rd"
      refine rd_ixTk (n := 3) (sqt_ex hs0 E1) rfl rfl ?_
      walk_at "rd"
      exact rec_ E1 (tv_ex h3 E1) r2 fun H2 E2 => q H2 (E1.trans E2)
    | false =>
      rw [hb, if_neg (by decide)] at q
      walk_at "rd"
      refine rd_ixTk (n := 2) (sqt_ex hs0 E1) rfl rfl ?_
      walk_at "rd"
      exact rec_ E1 (tv_ex h2 E1) r1 fun H2 E2 => q H2 (E1.trans E2)
  | @where_ u1 u2 u3 r1 r2 r3 =>
    obtain ⟨a0, v1, v2, v3, rfl, hs0, h1, h2, h3⟩ := tv4 ht
    walk_at "rd"
    refine rd_ixT hs0 (atI_nat (j := 0) rfl) ?_
    walk_at "rd"
    refine new_lst fun p1 H1 hp1 E1 h1' => ?_
    refine rd_inSs (["line", "earlier"] : List Str) (.of h1') ?_
    walk_at "rd"
    refine rd_ixT (sqt_ex hs0 E1) (atI_nat (j := 1) rfl) ?_
    walk_at "rd"
    refine rec_ E1 (tv_ex h1 E1) r1 fun H2 E2 => ?_
    have E02 := E1.trans E2
    walk_at "rd"
    refine rd_ixT (sqt_ex hs0 E02) (atI_nat (j := 2) rfl) ?_
    walk_at "rd"
    refine rec_ E02 (tv_ex h2 E02) r2 fun H3 E3 => ?_
    have E03 := E02.trans E3
    walk_at "rd"
    refine rd_ixT (sqt_ex hs0 E03) (atI_nat (j := 3) rfl) ?_
    walk_at "rd"
    refine rec_ E03 (tv_ex h3 E03) r3 fun H4 E4 => ?_
    walk_at "rd"
    refine new_lst fun p5 H5 hp5 E5 h5 => ?_
    walk_at "rd"
    have E05 := (E03.trans E4).trans E5
    rw [w_where] at q
    by_cases hw : 0 < worth (sgOf pz es rows bs L) m u1
    · rw [if_pos hw] at q
      rw [decide_eq_true hw]
      exact rd_ixL (.of h5) (atI_nat (j := 1) rfl) (q H5 E05)
    · rw [if_neg hw] at q
      rw [decide_eq_false hw]
      exact rd_ixL (.of h5) (atI_nat (j := 0) rfl) (q H5 E05)
  | @two x u1 u2 hx r1 r2 =>
    obtain ⟨a0, v1, v2, rfl, hs0, h1, h2⟩ := tv3 ht
    rw [w_two hx] at q
    generalize ew1 : worth (sgOf pz es rows bs L) m u1 = w1 at q
    generalize ew2 : worth (sgOf pz es rows bs L) m u2 = w2 at q
    simp only [four, List.mem_cons, List.not_mem_nil, or_false] at hx
    rcases hx with rfl | rfl | rfl | rfl
    all_goals
      walk_at "rd"
      refine rd_ixT hs0 (atI_nat (j := 0) rfl) ?_
      walk_at "rd"
      refine new_lst fun p1 H1 hp1 E1 h1' => ?_
      refine rd_inSs (["line", "earlier"] : List Str) (.of h1') ?_
      walk_at "rd"
      refine rd_ixT (sqt_ex hs0 E1) (atI_nat (j := 1) rfl) ?_
      walk_at "rd"
      refine rec_ E1 (tv_ex h1 E1) r1 fun H2 E2 => ?_
      rw [ew1]
      have E02 := E1.trans E2
      walk_at "rd"
      refine rd_ixT (sqt_ex hs0 E02) (atI_nat (j := 2) rfl) ?_
      walk_at "rd"
      refine rec_ E02 (tv_ex h2 E02) r2 fun H3 E3 => ?_
      rw [ew2]
      have E03 := E02.trans E3
      walk_at "rd"
      refine rd_disp fun d hd => ?_
      refine rd_pcons ?_
      walk_at "rd"
      refine rd_pcons ?_
      walk_at "rd"
      refine rd_pcons ?_
      walk_at "rd"
      refine rd_pcons ?_
      walk_at "rd"
      refine rd_pnil ⟨upd_same, [(.inr "add", .int (w1 + w2)), (.inr "take", .int (w1 - w2)), (.inr "least", .int (if w2 < w1 then w2 else w1)), (.inr "most", .int (if w2 > w1 then w2 else w1))], rfl, (by show 4 ≤ 15; decide), ?_⟩
      walk_at "rd"
      refine rd_dgetK upd_same rfl ?_
      exact q _ (E03.trans (ex_new hd (ex_new hd (Evl.Ex.refl _))))
theorem k_lvalue0 (T : Tx K w mg) : Cal P w K mg base "_law_value" 1 p_law_value (spLValue K 0) :=
  cal_mk T.F__law_value sc_law_value b_law_value (sp := spLValue K 0) (fun _ _ _ _ h => by obtain ⟨a, b, rfl, _⟩ := h; rfl) fun f cdv A outer s H vs Q E hr h => by
    obtain ⟨a, b, rfl, t, s, n, ch, pz, es, rows, bs, L, _, _, _, hR, _⟩ := h
    cases hR
theorem k_lvaluen (T : Tx K w mg) (c__law_at : Cal P w K mg base "_law_at" 1 p_law_at (spAt K)) : ∀ m : Nat, Cal P w K mg base "_law_value" (1 + m) p_law_value (spLValue K m)
  | 0 => k_lvalue0 T
  | m + 1 => k_lvalue T (k_lvaluen T c__law_at m) (by show 1 ≤ 1 + m; omega) c__law_at
structure Papers (pz : Pz) (ws : List Str) : Prop where
  nd : (pz.map (·.1)).Nodup
  ok : ∀ p ∈ pz, isWord (.str p.1) = true ∧ isNum (.int p.2) = true
  sub : ∀ p ∈ pz, p.1 ∈ ws
  few : pz.length ≤ ws.length
def spLPapers (K : PySem.W.Frag) : Sp := sp2 fun a b H Q => ∃ (l wl : Addr) (ws : List Str), a = .ref l ∧ b = .ref wl ∧ (∃ s, H l = some (.lst [.int s])) ∧ wl ≠ l ∧ H wl = some (.lst (ws.map V.str)) ∧ (∀ z ∈ ws, isWord (.str z) = true) ∧ ws.length ≤ 200 ∧
  ∀ p vs pz H', Papers pz ws → H' p = some (.lst vs) → TvA K H' vs (psT (psOf pz)) → H p = none → p ≠ l → St1 l H H' → Q (.ref p) H'
theorem psT_snoc (pz : Pz) (z : Str) (i : Int) : psT (psOf (pz ++ [(z, i)])) = psT (psOf pz) ++ [.tup [.str z, .int i]] := by
  unfold psT psOf
  rw [List.map_append, List.map_append]
  rfl
theorem words_of {H : Hp} {vs : List V} {pz : Pz} (h : TvA K H vs (psT (psOf pz))) {i : Nat} {v : V} (hv : vs[i]? = some v) : ∃ p a, pz[i]? = some p ∧ v = .ref a ∧ SqT K H a [.str p.1, .int p.2] := by
  obtain ⟨t, ht, tv⟩ := h.getV hv
  unfold psT psOf at ht
  rw [List.getElem?_map, List.getElem?_map] at ht
  cases e : pz[i]? with
  | none => rw [e] at ht; cases ht
  | some p =>
    rw [e] at ht
    cases (Option.some.inj ht)
    obtain ⟨a, xs, rfl, hs, ha⟩ := Tv.tupE tv
    obtain ⟨y1, xs, rfl, h1, ha⟩ := ha.consE
    obtain ⟨y2, xs, rfl, h2, ha⟩ := ha.consE
    cases ha.nilE
    cases h1
    cases h2
    exact ⟨p, a, rfl, rfl, hs⟩
theorem k__law_papers (T : Tx K w mg) (c__law_next : Cal P w K mg base "_law_next" 1 p_law_next (spNext K)) (c__law_number : Cal P w K mg base "_law_number" 2 p_law_number (spNumb K)) : Cal P w K mg base "_law_papers" 3 p_law_papers (spLPapers K) := by
  refine cal2 T.F__law_papers sc_law_papers b_law_papers rfl fun g cdv A outer s H a b Q E hr h => ?_
  obtain ⟨l, wl, ws, rfl, rfl, hl, nwl, hw, hok, hws, q⟩ := h
  refine ⟨_, (pss_cons (ps_set (i := 2) (sc_law_papers).nd rfl (by first | exact Or.inl rfl | exact Or.inr rfl) (pe_lst pa_nil)) (pss_cons (ps_for PassesOwn.never rfl (pi_seq (pv 1)) (pg_name (i := 3) (sc_law_papers).nd rfl (by first | exact Or.inl rfl | exact Or.inr rfl)) (pss_one (ps_if (PW.pt (pw_and (pt_cmpR op_gt (pe_cal c__law_next (hr.mono (by omega)) (pa_cons (pv 0) (pa_cons pe_int pa_nil))) pe_int (nomark _)) (pw_and1 (pt_cmpR op_notIn_seq (pv 3) (pe_lc (own := [("_law_pair", 4)]) rfl (sc_law_papers).nd (pi_seq (pv 2)) (blkOk_by (N := n_law_papers) (sc := defScope s_law_papers) (by decide +kernel)) (fun _ _ _ _ _ => (pg_name (i := 4) (sc_law_papers).nd rfl (by first | exact Or.inl rfl | exact Or.inr rfl))) (fun _ _ _ _ _ => pts_nil) (fun _ _ _ _ _ => (pe_ix (ixK (K := K) rfl) (pv 4) pe_int (fun _ _ => rfl)))) (by rfl))))) (pss_one (ps_expr (pe_bm PySem.F.plainAttrs_list PySem.F.slot_list_append PySem.F.type_list_append mt_append (pv 2) (pa_cons (pe_tup (pa_cons (pv 3) (pa_cons (pe_cal c__law_number (hr.mono (by omega)) (pa_cons (pv 0) pa_nil)) pa_nil))) pa_nil)))) pss_nil))) (pss_one (ps_ret (pv 2))))), ?_⟩
  rw [t_law_papers]
  try dsimp only [cxOf, Cx.nox, Cx.wish]
  walk_at "rd"
  refine new_lst fun p1 H1 hp1 E1 h1 => ?_
  have hw1 : SqL K H1 wl (ws.map V.str) := .of (E1 _ _ hw)
  have np1 : p1 ≠ l := ne_st hl hp1
  have S1 : St1 l H H1 := .ex hl E1
  have nwp : wl ≠ p1 := by rintro rfl; rw [hw] at hp1; cases hp1
  clear E1
  walk_at "rd"
  refine forW_L (ws.map V.str) (fun i σ H' => ∃ (y z : Option V) (vs : List V) (pz : Pz), σ = [some (.ref l), some (.ref wl), some (.ref p1), y, z] ∧ Papers pz (ws.take i) ∧ H' p1 = some (.lst vs) ∧ TvA K H' vs (psT (psOf pz)) ∧ St1 l H H') ?_ ?_ ?_ ?_
  · exact ⟨_, _, [], [], rfl, ⟨List.nodup_nil, fun p hp => (by cases hp), fun p hp => (by cases hp), Nat.zero_le _⟩, h1, .nil, S1⟩
  · rintro i σ H' hi ⟨y, z, vs, pz, rfl, P, h, tv, S⟩
    exact .of (lst_st hw S nwl)
  · rintro i v σ H2 hv ⟨y, z, vs, pz, rfl, P, h2, tv, S⟩
    rw [List.getElem?_map] at hv
    cases ez : ws[i]? with
    | none => rw [ez] at hv; cases hv
    | some x =>
    rw [ez] at hv
    cases (Option.some.inj hv)
    have et : ws.take (i + 1) = ws.take i ++ [x] := by rw [List.take_add_one, ez]; rfl
    have hx : isWord (.str x) = true := hok x (List.mem_of_getElem? ez)
    have stay : Papers pz (ws.take (i + 1)) := by
      rw [et]
      exact ⟨P.nd, P.ok, fun p hp => List.mem_append_left _ (P.sub p hp), by rw [List.length_append]; have := P.few; omega⟩
    walk_at "rd"
    refine nx S.st (by decide) fun r H3 a3 b3 S3 => ?_
    have h3 := lst_st h2 S3 np1
    have tv3 := tva_st tv S3
    walk_at "rd"
    refine rd_ite (fun hc => ?_) (fun hc => ?_)
    · walk_at "rd"
      have hfew : pz.length ≤ 200 := by have := P.few; rw [List.length_take] at this; omega
      have lv : vs.length = pz.length := by rw [tv3.len]; unfold psT psOf; rw [List.length_map, List.length_map]
      refine lcW_L vs (fun D i H' => H' D = some (.lst (((pz.take i).map (·.1)).map V.str)) ∧ Ex H3 H') ?_ ?_ ?_ ?_
      · exact fun D H' hD e h => ⟨h, e⟩
      · rintro D i H' hD hi ⟨_, e⟩
        exact .of (e _ _ h3)
      · rintro D j u H4 hD hu ⟨h4, E4⟩
        obtain ⟨p, a, hp, rfl, ha⟩ := words_of tv3 hu
        have hj : j < pz.length := (List.getElem?_eq_some_iff.mp hp).1
        walk_at "lcn"
        walk_at "rd"
        refine rd_ixT (sqt_ex ha E4) (atI_nat (j := 0) rfl) ?_
        refine ⟨_, h4, by rw [List.length_map, List.length_map, List.length_take, sizeLine_eq]; omega, ?_, ex_new hD E4⟩
        rw [upd_same, List.take_add_one, hp]
        simp only [Option.toList, List.map_append]
        rfl
      rintro D H4 hD ⟨h4, E4⟩
      rw [lv, List.take_length] at h4
      refine rd_outSs (pz.map (·.1)) (.of h4) ?_
      have h4' := E4 _ _ h3
      have tv4 := tva_ex tv3 E4
      have S34 := S.trans (S3.trans (.ex S3.st E4))
      walk_at "rd"
      refine rd_iteN (fun hin => ?_) (fun hin => ?_)
      · refine rd_drop ?_
        refine rd_bm ?_
        walk_at "rd"
        refine rd_sp1 ⟨l, rfl, S34.st, fun k H5 k0 k1 S5 => ?_⟩
        walk_at "rd"
        refine new_tup fun t6 H6 ht6 E6 h6 => ?_
        have h6' := E6 _ _ (lst_st h4' S5 np1)
        walk_at "rd"
        refine rd_append h6' (by omega) ?_
        walk_at "rd"
        have S06 := (S34.trans S5).trans (.ex S5.st E6)
        have tm := Tame.upd (ys := vs ++ [.ref t6]) h6'
        refine ⟨_, _, vs ++ [.ref t6], pz ++ [(x, k)], rfl, ⟨?_, fun p hp => ?_, fun p hp => ?_, ?_⟩, upd_same, ?_, S06.upd hp1 h6' np1⟩
        · rw [List.map_append, List.nodup_append]
          refine ⟨P.nd, by simp, fun u hu v hv => ?_⟩
          have e : v = x := by simpa using hv
          subst e
          rintro rfl
          exact hin hu
        · rcases List.mem_append.mp hp with hp | hp
          · exact P.ok p hp
          · cases List.mem_singleton.mp hp
            exact ⟨hx, num_i k0 k1⟩
        · rw [et]
          rcases List.mem_append.mp hp with hp | hp
          · exact List.mem_append_left _ (P.sub p hp)
          · cases List.mem_singleton.mp hp
            exact List.mem_append_right _ (List.mem_singleton_self _)
        · rw [et, List.length_append, List.length_append]
          have := P.few
          simp only [List.length_singleton]
          omega
        · rw [psT_snoc]
          exact tm.tvA ((tva_ex (tva_st tv4 S5) E6).append (.one (.tup (.of h6) (.cons (.str _ (by have := word_len hx; omega)) (.cons (.int _) .nil)))))
      · walk_at "rd"
        exact ⟨_, _, vs, pz, rfl, stay, h4', tv4, S34⟩
    · walk_at "rd"
      exact ⟨_, _, vs, pz, rfl, stay, h3, tv3, S.trans S3⟩
  · rintro σ H2 ⟨y, z, vs, pz, rfl, P, h2, tv, S⟩
    walk_at "rd"
    rw [List.take_of_length_le (by rw [List.length_map]; exact Nat.le_refl _)] at P
    exact q p1 vs pz H2 P h2 tv hp1 np1 S
end
end KF
open PySem PySem.Spec PyProof.Rows L2 Qa Qr
open Qg Qe Qi Qm Qw


namespace KF
section
variable {P : Program} {w : World} {K : PySem.W.Frag} {mg : Str → Option Value} {base : Heap} {H : Hp} {Q : VK} {E : XK}
def Yz (pz : Pz) (es : List Int) (rows : List (List Qr.Row)) (bs : List Bool) : Yr := ⟨papF pz, fun k => es.getD k 0, rows, fun k => bs.getD k false⟩
theorem yrOf_z {ps : Ps} {pz : Pz} (h : pzOf ps = pz) {es : List Int} {rows : List (List Qr.Row)} {bs : List Bool} : yrOf ps es rows bs = Yz pz es rows bs := by subst h; rfl
end
end KF
open PySem PySem.Spec PyProof.Rows L2 Qa Qr
open Qg Qe Qi Qm Qw


namespace KF
section
variable {P : Program} {w : World} {K : PySem.W.Frag} {mg : Str → Option Value} {base : Heap} {H : Hp} {Q : VK} {E : XK}
/-- a drawn form is made -/
theorem formG_of {H H' : Hp} {la ta f : Addr} {vs tvs : List V} {ts : List T} {rows : List (List Qr.Row)} {ch ow : Nat} {ord : List Nat} (F : FormD K H la ta vs tvs ts rows ch ord) (how : ow < ts.length) (A : FormAt K H' f ts (rows.map fun r => (T.tup (r.map rowT))) ch ow) : FormG K H' f ts rows ch ow :=
  ⟨A, F.rule, F.few, acyc_of (F.perm.nodup_iff.mpr List.nodup_range) F.ahead, F.tgood, how, F.chf⟩
theorem made (ts : List T) {H : Hp} {la ta : Addr} {vs tvs : List V} {rows : List (List Qr.Row)} {ch ow : Nat} {ord : List Nat} {R : VK} {E : XK} (F : FormD K H la ta vs tvs ts rows ch ord) (how : ow < ts.length) (q : ∀ f H', FormG K H' f ts rows ch ow → H f = none → Ex H H' → R (.ref f) H') :
    spFormOf K [.ref la, .ref ta, .int ch, .int ow] H R E := by
  have ltt : (rows.map fun r => (Qa.T.tup (r.map rowT))).length = rows.length := List.length_map ..
  refine rd_sp4 ⟨la, ta, vs, tvs, ts, _, ch, ow, rfl, rfl, rfl, rfl, .of F.lat, F.ltv, .of F.tat, F.ttv, F.few.1, F.few.2, F.chf, how, fun t ht => ?_, by rw [ltt]; exact F.tfew, by rw [ltt]; exact F.rule, acyc_of (F.perm.nodup_iff.mpr List.nodup_range) F.ahead, fun fp H3 FA hfp E3 => q fp H3 (formG_of F how FA) hfp E3⟩
  obtain ⟨r, hr, rfl⟩ := List.mem_map.mp ht
  exact good_table (F.tgood r hr)
theorem Papers.good {pz : Pz} {ws : List Str} (P : Papers pz ws) : papOk (psOf pz) [] = true := by
  refine papOk_good _ _ (fun p hp => ?_) ?_ (fun p hp z => by cases z)
  · obtain ⟨x, hx, rfl⟩ := List.mem_map.mp hp
    obtain ⟨a, b⟩ := P.ok x hx
    unfold pOk
    rw [a, b]
    rfl
  · have := P.nd
    unfold psOf
    rw [List.map_map]
    exact this
theorem pairs_ok {pz : Pz} {ws : List Str} (P : Papers pz ws) : okL 2 (psT (psOf pz)) = true := okL_all fun t ht => by
  unfold psT psOf at ht
  rw [List.map_map] at ht
  obtain ⟨x, hx, rfl⟩ := List.mem_map.mp ht
  have := isWord_ok (P.ok x hx).1
  show okT 2 (.tup [.str x.1, .int x.2]) = true
  simp [okT, okL, this]
theorem psOf_len (pz : Pz) : (psOf pz).length = pz.length := List.length_map ..
end
end KF
open PySem PySem.Spec PyProof.Rows L2 Qa Qr
open Qg Qe Qi Qm Qw


namespace KF
section
variable {P : Program} {w : World} {K : PySem.W.Frag} {mg : Str → Option Value} {base : Heap} {H : Hp} {Q : VK} {E : XK}
/-- a year of what is handed in -/
def yrP (rows : List (List Qr.Row)) (e : List Int) (p : Ps × List Bool) : Yr := yrOf p.1 e rows p.2
end
end KF
open PySem PySem.Spec PyProof.Rows L2 Qa Qr
open Qg Qe Qi Qm Qw Qy


namespace KF
section
variable {P : Program} {w : World} {K : PySem.W.Frag} {mg : Str → Option Value} {base : Heap} {H : Hp} {Q : VK} {E : XK}
/-- truths as a tuple; years of them -/
def tB (bs : List Bool) : T := .tup (bs.map T.bl)
def tBs (c : List (List Bool)) : T := .tup (c.map tB)
theorem rowsB_step (rs : List (List Bool)) (n : Nat) (r : List Bool) (h : rs[n]? = some r) : (rs.take (n + 1)).flatMap (fun r => [r ++ [false], r ++ [true]]) = (rs.take n).flatMap (fun r => [r ++ [false], r ++ [true]]) ++ [r ++ [false], r ++ [true]] := by
  rw [List.take_add_one, h, List.flatMap_append]
  simp
def spRows (K : PySem.W.Frag) : Sp := sp1 fun a H Q => ∃ c : Nat, a = .int c ∧ c ≤ 8 ∧ ∀ p H' us, H p = none → Ex H H' → H' p = some (.lst us) → TvA K H' us ((rowsB c).map tB) → Q (.ref p) H'
theorem k__rows (T : Tx K w mg) : Cal P w K mg base "_rows" 1 p_rows (spRows K) := by
  refine cal1 T.F__rows sc_rows b_rows rfl fun g cdv A outer s H a Q E hr h => ?_
  obtain ⟨c, rfl, hc, q⟩ := h
  refine ⟨_, (pss_cons (ps_set (i := 1) (sc_rows).nd rfl (by first | exact Or.inl rfl | exact Or.inr rfl) (pe_lst (pa_cons (pe_tup pa_nil) pa_nil))) (pss_cons (ps_for PassesOwn.never rfl (pi_range1 (by rfl) T.m_range (pa_cons (pv 0) pa_nil)) (pg_name (i := 2) (sc_rows).nd rfl (by first | exact Or.inl rfl | exact Or.inr rfl)) (pss_one (ps_setLc2 (i := 1) (own := [("row", 3), ("truth", 4)]) (vs1 := [4]) rfl (sc_rows).nd rfl rfl (sw_true rfl rfl rfl (by decide +kernel)) (pi_seq (pv 1)) (blkOk_by (N := n_rows) (sc := defScope s_rows) (by decide +kernel)) (by decide) (fun _ _ _ _ _ => (pg_name (i := 3) (sc_rows).nd rfl (by first | exact Or.inl rfl | exact Or.inr rfl))) (fun _ _ _ _ _ => pts_nil) (fun _ _ _ _ _ => (pi_seqK (K := K) rfl (pe_tup (pa_cons pe_bl (pa_cons pe_bl pa_nil))))) (fun _ _ _ _ _ => (pg_name (i := 4) (sc_rows).nd rfl (by first | exact Or.inl rfl | exact Or.inr rfl))) (fun _ _ _ _ _ => pts_nil) (fun _ _ _ _ _ => (pe_op (addK' (K := K) rfl) (pv 3) (pe_tup (pa_cons (pv 4) pa_nil))))))) (pss_one (ps_ret (pv 1))))), ?_⟩
  rw [t_rows]
  try dsimp only [cxOf, Cx.nox, Cx.wish]
  walk_at "rd"
  refine new_tup (hl := Nat.zero_le _) fun t0 H1 ht0 E1 h1 => ?_
  walk_at "rd"
  refine new_lst fun l0 H2 hl0 E2 h2 => ?_
  walk_at "rd"
  rw [Int.toNat_natCast]
  refine forW_R (fun i σ H' => ∃ r us y z x, σ = [some (.int c), some (.ref r), y, z, x] ∧ Ex H H' ∧ H' r = some (.lst us) ∧ H r = none ∧ TvA K H' us ((rowsB i).map tB)) ?_ ?_ ?_
  · exact ⟨l0, _, _, _, _, rfl, E1.trans E2, h2, free_of E1 hl0, .one (.tup (.of (E2 _ _ h1)) .nil)⟩
  · rintro i σ H3 hi ⟨r, us, y, z, x, rfl, E3, h3, hr3, tv3⟩
    have hL : SqL K H3 r us := .of h3
    have lus : us.length = 2 ^ i := by rw [tv3.len, List.length_map, rowsB_len]
    have hi8 : 2 ^ i ≤ 2 ^ 7 := Nat.pow_le_pow_right (by decide) (by omega)
    walk_at "rd"
    refine rd_lc2S ?_
    walk_at "rd"
    refine lc2W_L us (fun D n H' => ∃ us', H' D = some (.lst us') ∧ TvA K H' us' ((((rowsB i).take n).flatMap fun r => [r ++ [false], r ++ [true]]).map tB) ∧ Ex H3 H') ?_ ?_ ?_ ?_
    · exact fun D H' hD e h => ⟨[], h, .nil, e⟩
    · rintro D n H' hD hn ⟨_, _, _, e⟩
      exact .of (e _ _ h3)
    · rintro D n v H4 hD hv ⟨us', h4, tv4, e4⟩
      obtain ⟨t, ht, vt⟩ := tv3.getV hv
      rw [List.getElem?_map] at ht
      cases er : (rowsB i)[n]? with
      | none => rw [er] at ht; cases ht
      | some rw0 =>
      rw [er] at ht
      cases (Option.some.inj ht)
      obtain ⟨a0, xs0, rfl, hs0, ha0⟩ := vt.tupE
      have lr : rw0.length = i := rowsB_each (List.mem_of_getElem? er)
      have lx0 : xs0.length = i := by rw [ha0.len, List.length_map, lr]
      walk_at "lcn"
      walk_at "rd"
      refine rd_iseq ?_
      walk_at "rd"
      refine new_tup fun t5 H5 ht5 E5 h5 => ?_
      refine rd_fsT (SqT.of h5) ?_
      have e5 := e4.trans E5
      refine in1_T [V.bl false, V.bl true] (fun j H' => ∃ us', H' D = some (.lst us') ∧ TvA K H' us' ((((rowsB i).take n).flatMap (fun r => [r ++ [false], r ++ [true]]) ++ ([false, true].take j).map fun b => rw0 ++ [b]).map tB) ∧ Ex H3 H' ∧ H' t5 = some (.tup [V.bl false, V.bl true])) ?_ ?_ ?_ ?_
      · exact ⟨us', E5 _ _ h4, by simpa using tva_ex tv4 E5, e5, h5⟩
      · rintro j H' hj ⟨_, _, _, _, e⟩
        exact .of e
      · rintro j v H6 hj ⟨us6, h6, tv6, e6, ht6⟩
        obtain ⟨b, rfl, hb, hj2⟩ : ∃ b, v = V.bl b ∧ [false, true][j]? = some b ∧ j < 2 := by
          match j, hj with
          | 0, hj => exact ⟨false, (Option.some.inj hj).symm, rfl, by decide⟩
          | 1, hj => exact ⟨true, (Option.some.inj hj).symm, rfl, by decide⟩
        walk_at "lcn"
        walk_at "rd"
        refine new_tup fun t7 H7 ht7 E7 h7 => ?_
        refine rd_addT (sqt_ex hs0 (e6.trans E7)) (.of h7) (by rw [lx0]; show i + 1 ≤ 1000; omega) fun p8 H8 E8 s8 => ?_
        have l6 : us6.length ≤ 300 := by
          rw [tv6.len, List.length_map, List.length_append]
          have h1 : ∀ l : List (List Bool), (l.flatMap fun r => [r ++ [false], r ++ [true]]).length = l.length * 2 := fun l => by induction l <;> simp_all [Nat.succ_mul]
          rw [h1, List.length_take, List.length_map, List.length_take, rowsB_len]
          show min n (2 ^ i) * 2 + min j 2 ≤ 300
          omega
        have E68 := E7.trans E8
        have h8 := E68 _ _ h6
        have n5 : t5 ≠ D := by rintro rfl; rw [h4] at ht5; cases ht5
        refine ⟨us6, h8, by rw [sizeLine_eq]; omega, us6 ++ [.ref p8], upd_same, ?_, ex_new hD (e6.trans E68), by rw [upd_ne n5]; exact E68 _ _ ht6⟩
        have et : [false, true].take (j + 1) = [false, true].take j ++ [b] := by rw [List.take_add_one, hb]; rfl
        rw [show ((rowsB i).take n).flatMap (fun r => [r ++ [false], r ++ [true]]) ++ ([false, true].take (j + 1)).map (fun b => rw0 ++ [b]) = (((rowsB i).take n).flatMap (fun r => [r ++ [false], r ++ [true]]) ++ ([false, true].take j).map fun b => rw0 ++ [b]) ++ [rw0 ++ [b]] by rw [et, List.map_append, List.append_assoc]; rfl, List.map_append]
        refine (Tame.upd h8).tvA ((tva_ex tv6 E68).append (.one (.tup s8 ?_)))
        show TvA K H8 (xs0 ++ [V.bl b]) ((rw0 ++ [b]).map Qa.T.bl)
        rw [List.map_append]
        exact (tva_ex ha0 (e6.trans E68)).append (.one (.bl b))
      · rintro H' ⟨us6, h6, tv6, e6, _⟩
        refine ⟨us6, h6, ?_, e6⟩
        rw [rowsB_step _ _ _ er]
        exact tv6
    rintro D H4 hD ⟨us', h4, tv4, e4⟩
    walk_at "rd"
    refine ⟨D, us', _, _, _, rfl, E3.trans e4, h4, free_of E3 hD, ?_⟩
    rw [show us.length = (rowsB i).length by rw [lus, rowsB_len], List.take_length] at tv4
    exact tv4
  · rintro σ H3 ⟨r, us, y, z, x, rfl, E3, h3, hr3, tv3⟩
    walk_at "rd"
    exact q r H3 us hr3 E3 h3 tv3
/-- a found item: choices, what is owed by them, the last year's lines -/
abbrev FX := List (List Bool) × Int × List Int
def FIt (K : PySem.W.Frag) (H : Hp) (ok : Addr → Prop) (v : V) (x : FX) : Prop := ∃ t cv el, v = .ref t ∧ SqT K H t [cv, .int x.2.1, .ref el] ∧ Tv K H cv (tBs x.1) ∧ SqL K H el (x.2.2.map V.int) ∧ ok el
theorem FIt.ex {H H' : Hp} {ok : Addr → Prop} {v : V} {x : FX} (h : FIt K H ok v x) (e : Ex H H') : FIt K H' ok v x := by
  obtain ⟨t, cv, el, rfl, h1, h2, h3, h4⟩ := h
  exact ⟨t, cv, el, rfl, sqt_ex h1 e, tv_ex h2 e, sql_ex h3 e, h4⟩
theorem FIt.up {H : Hp} {D : Addr} {xs ys : List V} {v : V} {x : FX} (h : FIt K H (· ≠ D) v x) (hD : H D = some (.lst xs)) : FIt K (upd H D (.lst ys)) (· ≠ D) v x := by
  obtain ⟨t, cv, el, rfl, h1, h2, h3, h4⟩ := h
  exact ⟨t, cv, el, rfl, (Tame.upd hD).sqT h1, (Tame.upd hD).tv h2, sql_frame h3 fun o ho => by rw [upd_ne h4]; exact ho, h4⟩
/-- one more year -/
def Nx1 (rows : List (List Qr.Row)) (ts : List T) (ow : Nat) (ps : Ps) (x' : FX) (q : FX × List Bool) : Prop := x'.1 = q.1.1 ++ [q.2] ∧ Reck (yrP rows q.1.2.2 (ps, q.2)) ts x'.2.2 ∧ x'.2.1 = q.1.2.1 + x'.2.2.getD ow 0
def prods (ch : Nat) (xs : List FX) : List (FX × List Bool) := xs.flatMap fun x => (rowsB ch).map fun r => (x, r)
theorem prods_len (ch : Nat) (xs : List FX) : (prods ch xs).length = xs.length * 2 ^ ch := by
  induction xs with
  | nil => simp [prods]
  | cons x xs ih =>
    unfold prods at ih ⊢
    rw [List.flatMap_cons, List.length_append, ih, List.length_map, rowsB_len, List.length_cons, Nat.succ_mul]
    omega
theorem prods_step {ch : Nat} {xs : List FX} {i : Nat} {x : FX} (h : xs[i]? = some x) : prods ch (xs.take (i + 1)) = prods ch (xs.take i) ++ (rowsB ch).map fun r => (x, r) := by
  unfold prods
  rw [List.take_add_one, h, List.flatMap_append]
  simp
def spMore (K : PySem.W.Frag) : Sp := sp4 fun a b c d H Q => ∃ (f o dp fl : Addr) (ts : List T) (rows : List (List Qr.Row)) (ch ow : Nat) (ord : List Nat) (ps : Ps) (us : List V) (xs : List FX), a = .ref f ∧ b = .ref o ∧ c = .ref dp ∧ d = .ref fl ∧ FormG K H f ts rows ch ow ∧ SqL K H o (ord.map iv) ∧ Topo (nmOf ts) ord ∧ ord.length = ts.length ∧
  H dp = some (.dK (pkv (pzOf ps))) ∧ SqL K H fl us ∧ Paired (FIt K H fun _ => True) us xs ∧ (∀ x ∈ xs, x.2.2 = [] ∨ x.2.2.length = ts.length) ∧ (∀ x ∈ xs, x.1.length ≤ 20) ∧ xs.length * 2 ^ ch ≤ 256 ∧
  ∀ p H' us' xs', H p = none → Ex H H' → H' p = some (.lst us') → Paired (FIt K H' fun _ => True) us' xs' → Paired (Nx1 rows ts ow ps) xs' (prods ch xs) → Q (.ref p) H'
theorem k__with_a_year_more (T : Tx K w mg) (c__rows : Cal P w K mg base "_rows" 1 p_rows (spRows K)) (c_lines_of : Cal P w K mg base "lines_of" 11 plines_of (spLinesOf K mg)) : Cal P w K mg base "_with_a_year_more" 12 p_with_a_year_more (spMore K) := by
  refine cal4 T.F__with_a_year_more sc_with_a_year_more b_with_a_year_more rfl fun g cdv A outer s H a b c d Q E hr h => ?_
  obtain ⟨f, o, dp, fl, ts, rows, ch, ow, ord, ps, us, xs, rfl, rfl, rfl, rfl, F, ho, tp, lord, hdp, hfl, hus, hes, hcs, hn, q⟩ := h
  refine ⟨_, (pss_cons (ps_set (i := 4) (sc_with_a_year_more).nd rfl (by first | exact Or.inl rfl | exact Or.inr rfl) (pe_lst pa_nil)) (pss_cons (ps_for PassesOwn.never rfl (pi_seq (pv 3)) (pg_tup (n := 3) rfl (pgs_cons (pg_name (i := 5) (sc_with_a_year_more).nd rfl (by first | exact Or.inl rfl | exact Or.inr rfl)) (pgs_cons (pg_name (i := 6) (sc_with_a_year_more).nd rfl (by first | exact Or.inl rfl | exact Or.inr rfl)) (pgs_cons (pg_name (i := 7) (sc_with_a_year_more).nd rfl (by first | exact Or.inl rfl | exact Or.inr rfl)) pgs_nil)))) (pss_one (ps_for PassesOwn.never rfl (pi_seq (pe_cal c__rows (hr.mono (by omega)) (pa_cons (pe_ix ix_seq (pv 0) (pe_gint T.g_CHOICES) (fun _ _ => rfl)) pa_nil))) (pg_name (i := 8) (sc_with_a_year_more).nd rfl (by first | exact Or.inl rfl | exact Or.inr rfl)) (pss_cons (ps_set (i := 9) (sc_with_a_year_more).nd rfl (by first | exact Or.inl rfl | exact Or.inr rfl) (pe_cal c_lines_of (hr.mono (by omega)) (pa_cons (pv 0) (pa_cons (pv 1) (pa_cons (pv 2) (pa_cons (pv 7) (pa_cons (pv 8) pa_nil))))))) (pss_one (ps_expr (pe_bm PySem.F.plainAttrs_list PySem.F.slot_list_append PySem.F.type_list_append mt_append (pv 4) (pa_cons (pe_tup (pa_cons (pe_op op_addA (pv 5) (pe_tup (pa_cons (pv 8) pa_nil))) (pa_cons (pe_op op_addA (pv 6) (pe_ix ix_seq (pv 9) (pe_ix ix_seq (pv 0) (pe_gint T.g_OWED) (fun _ _ => rfl)) (fun _ _ => rfl))) (pa_cons (pv 9) pa_nil)))) pa_nil)))))))) (pss_one (ps_ret (pv 4))))), ?_⟩
  rw [t_with_a_year_more]
  try dsimp only [cxOf, Cx.nox, Cx.wish]
  obtain ⟨lt, tt, us0, tvs, f1, f2, f3, f4, f5⟩ := F.at_.at_
  have lus : us.length = xs.length := pd_len hus
  have hch := F.chf
  walk_at "rd"
  refine new_lst (hl := Nat.zero_le _) fun lg H1 hlg E1 h1 => ?_
  have hfl1 := sql_ex hfl E1
  have E1' : Ex H H1 ∧ True := ⟨E1, trivial⟩
  clear E1
  walk_at "rd"
  obtain ⟨E1, _⟩ := E1'
  refine forW_Lx hfl1 (fun i σ H' => ∃ us' xs' y1 y2 y3 y4 y5, σ = [some (.ref f), some (.ref o), some (.ref dp), some (.ref fl), some (.ref lg), y1, y2, y3, y4, y5] ∧ Ex H H' ∧ H' lg = some (.lst us') ∧ Paired (FIt K H' (· ≠ lg)) us' xs' ∧ Paired (Nx1 rows ts ow ps) xs' (prods ch (xs.take i))) ?_ ?_ ?_ ?_
  · exact ⟨[], [], _, _, _, _, _, rfl, E1, h1, .nil, .nil⟩
  · rintro i σ H' hi ⟨_, _, _, _, _, _, _, _, e, _⟩
    exact sql_ex hfl e
  · rintro i v σ H2 hv ⟨us', xs', y1, y2, y3, y4, y5, rfl, E2, h2, hP, hN⟩
    obtain ⟨x, hx, t, cv, el, rfl, hs, hcv, hel, _⟩ := pd_getL hus hv
    have hi : i < xs.length := (List.getElem?_eq_some_iff.mp hx).1
    rw [prods_step hx]
    refine rd_gtup (sqt_ex hs E2) rfl ?_
    walk_at "rd"
    refine rd_ixT (sqt_ex f1 E2) (atI_nat (j := 2) rfl) ?_
    walk_at "rd"
    refine rd_sp1 ⟨ch, rfl, hch, fun p3 H3 us3 hp3 E3 h3 tv3 => ?_⟩
    have E03 := E2.trans E3
    have lus3 : us3.length = 2 ^ ch := by rw [tv3.len, List.length_map, rowsB_len]
    have n3 : p3 ≠ lg := by rintro rfl; rw [h2] at hp3; cases hp3
    refine rd_fsL (SqL.of h3) ?_
    refine forW_L us3 (fun j σ H' => ∃ us' xs' y4 y5, σ = [some (.ref f), some (.ref o), some (.ref dp), some (.ref fl), some (.ref lg), some cv, some (.int x.2.1), some (.ref el), y4, y5] ∧ Ex H H' ∧ H' p3 = some (.lst us3) ∧ TvA K H' us3 ((rowsB ch).map tB) ∧ H' lg = some (.lst us') ∧ Paired (FIt K H' (· ≠ lg)) us' xs' ∧ Paired (Nx1 rows ts ow ps) xs' (prods ch (xs.take i) ++ ((rowsB ch).take j).map fun r => (x, r))) ?_ ?_ ?_ ?_
    · exact ⟨us', xs', _, _, rfl, E03, h3, tv3, E3 _ _ h2, pd_mono hP fun _ _ _ _ z => z.ex E3, by simpa using hN⟩
    · rintro j σ H' hj ⟨_, _, _, _, _, _, e, _⟩
      exact .of e
    · rintro j v σ H4 hv ⟨us4, xs4, y4, y5, rfl, E4, h4, tv4, hlg4, hP4, hN4⟩
      obtain ⟨t, ht, vt⟩ := tv4.getV hv
      rw [List.getElem?_map] at ht
      cases er : (rowsB ch)[j]? with
      | none => rw [er] at ht; cases ht
      | some r =>
      rw [er] at ht
      cases (Option.some.inj ht)
      obtain ⟨ra, rs, rfl, hrs, hra⟩ := vt.tupE
      have ers : rs = r.map V.bl := tva_blsE hra
      subst ers
      have lr : r.length = ch := rowsB_each (List.mem_of_getElem? er)
      have hj : j < 2 ^ ch := by rw [← rowsB_len]; exact (List.getElem?_eq_some_iff.mp er).1
      walk_at "rd"
      refine rd_sp5 ⟨f, o, dp, el, ra, ts, rows, ch, ow, ord, yrP rows x.2.2 (ps, r), rfl, rfl, rfl, rfl, rfl, F.ex E4, sql_ex ho E4, tp, lord, rfl, ⟨⟨pzOf ps, E4 _ _ hdp, rfl⟩, ⟨x.2.2, sql_ex hel E4, fun _ => rfl, hes x (List.mem_of_getElem? hx)⟩, ⟨r, .inr hrs, fun _ => rfl, lr⟩⟩, fun pl L H5 E5 hpl h5 hR => ?_⟩
      have E05 := E4.trans E5
      obtain ⟨ca, cs, rfl, hcs', hca⟩ := (tv_ex hcv E05).tupE
      have lcs : cs.length = x.1.length := by rw [hca.len, List.length_map]
      have c20 := hcs x (List.mem_of_getElem? hx)
      have hlg5 : SqL K H5 lg us4 := .of (E5 _ _ hlg4)
      walk_at "rd"
      refine new_tup fun t6 H6 ht6 E6 h6 => ?_
      refine rd_addT (sqt_ex hcs' E6) (.of h6) (by rw [lcs]; show _ + 1 ≤ 1000; omega) fun p7 H7 E7 s7 => ?_
      have E57 := E6.trans E7
      walk_at "rd"
      refine rd_ixT (sqt_ex f1 (E05.trans E57)) (atI_nat (j := 3) rfl) ?_
      walk_at "rd"
      refine rd_ixL (.of (E57 _ _ h5)) (atI_nat (ints_at (by rw [hR.len]; exact F.own))) ?_
      walk_at "rd"
      refine new_tup fun t8 H8 ht8 E8 h8 => ?_
      have E58 := E57.trans E8
      have E48 := E5.trans E58
      have npl : pl ≠ lg := by rintro rfl; rw [hlg4] at hpl; cases hpl
      have hlg8 := E48 _ _ hlg4
      have l4 : us4.length ≤ 256 := by
        rw [pd_len hP4, pd_len hN4, List.length_append, prods_len, List.length_map, List.length_take, List.length_take, rowsB_len]
        have h1 : min i xs.length * 2 ^ ch + 2 ^ ch ≤ xs.length * 2 ^ ch := by rw [← Nat.succ_mul]; exact Nat.mul_le_mul_right _ (by omega)
        omega
      walk_at "rd"
      refine rd_append hlg8 (by omega) ?_
      walk_at "rd"
      have et : (rowsB ch).take (j + 1) = (rowsB ch).take j ++ [r] := by rw [List.take_add_one, er]; rfl
      refine ⟨us4 ++ [.ref t8], xs4 ++ [(x.1 ++ [r], x.2.1 + L.getD ow 0, L)], _, _, rfl, ex_new hlg (E4.trans E48), ?_, ?_, upd_same, ?_, ?_⟩
      · rw [upd_ne n3]
        exact E48 _ _ h4
      · exact (Tame.upd hlg8).tvA (tva_ex tv4 E48)
      · refine pd_app (pd_mono hP4 fun _ _ _ _ z => (z.ex E48).up hlg8) (.cons ⟨t8, .ref p7, pl, rfl, (Tame.upd hlg8).sqT (.of h8), (Tame.upd hlg8).tv (.tup (sqt_ex s7 E8) ?_), sql_frame (.of (E58 _ _ h5)) fun o ho => by rw [upd_ne npl]; exact ho, npl⟩ .nil)
        rw [List.map_append]
        exact (tva_ex hca E58).append (.one (tv_ex (.tup hrs hra) E48))
      · rw [et, List.map_append, ← List.append_assoc]
        exact pd_app hN4 (.cons ⟨rfl, hR, rfl⟩ .nil)
    · rintro σ H4 ⟨us4, xs4, y4, y5, rfl, E4, h4, tv4, hlg4, hP4, hN4⟩
      rw [lus3, ← rowsB_len, List.take_length] at hN4
      exact ⟨us4, xs4, _, _, _, _, _, rfl, E4, hlg4, hP4, hN4⟩
  · rintro σ H2 ⟨us', xs', y1, y2, y3, y4, y5, rfl, E2, h2, hP, hN⟩
    rw [lus, List.take_length] at hN
    walk_at "rd"
    exact q lg H2 us' xs' hlg E2 h2 (pd_mono hP fun _ _ _ _ z => by obtain ⟨t, cv, el, e, h1, h2, h3, _⟩ := z; exact ⟨t, cv, el, e, h1, h2, h3, trivial⟩) hN
end
end KF
open PySem PySem.Spec PyProof.Rows L2 Qa Qr
open Qg Qe Qi Qm Qw Qy


namespace KF
section
variable {P : Program} {w : World} {K : PySem.W.Frag} {mg : Str → Option Value} {base : Heap} {H : Hp} {Q : VK} {E : XK}
/-- what is found behind some years -/
structure Got (rows : List (List Qr.Row)) (ts : List T) (ow ch : Nat) (ps : List Ps) (xs : List FX) : Prop where
  all : xs.map (·.1) = chs ch ps.length
  each : ∀ x ∈ xs, ∃ Ls, HistAt rows ts (yrP rows) (ps.zip x.1) Ls ∧ x.2.1 = sumO ow Ls ∧ x.2.2 = prevL Ls Ls.length ∧ x.1.length = ps.length
theorem Got.len {rows : List (List Qr.Row)} {ts : List T} {ow ch : Nat} {ps : List Ps} {xs : List FX} (g : Got rows ts ow ch ps xs) : xs.length = 2 ^ (ps.length * ch) := by
  have := congrArg List.length g.all
  rw [List.length_map, chs_len] at this
  exact this
theorem Got.es {rows : List (List Qr.Row)} {ts : List T} {ow ch : Nat} {ps : List Ps} {xs : List FX} (g : Got rows ts ow ch ps xs) : ∀ x ∈ xs, x.2.2 = [] ∨ x.2.2.length = ts.length := fun x hx => by
  obtain ⟨Ls, h, _, e, _⟩ := g.each x hx
  rw [e]
  unfold prevL
  by_cases z : Ls.length = 0
  · rw [if_pos z]; exact .inl rfl
  · rw [if_neg z]
    refine .inr (h.each _ ?_)
    have hl : Ls.length - 1 < Ls.length := by omega
    rw [List.getD_eq_getElem?_getD, List.getElem?_eq_getElem hl]
    exact List.getElem_mem hl
theorem Got.step {rows : List (List Qr.Row)} {ts : List T} {ow ch : Nat} {ps : List Ps} {xs xs' : List FX} {p : Ps} (g : Got rows ts ow ch ps xs) (h : Paired (Nx1 rows ts ow p) xs' (prods ch xs)) : Got rows ts ow ch (ps ++ [p]) xs' := by
  refine ⟨?_, fun x' hx' => ?_⟩
  · have e1 : xs'.map (·.1) = (prods ch xs).map fun q => q.1.1 ++ [q.2] := by
      clear g
      generalize prods ch xs = qs at h
      induction h with
      | nil => rfl
      | cons h t ih => rw [List.map_cons, List.map_cons, h.1, ih]
    rw [e1, List.length_append]
    show _ = (chs ch ps.length).flatMap fun c => (rowsB ch).map fun r => c ++ [r]
    rw [← g.all]
    unfold prods
    rw [List.map_flatMap, List.flatMap_map]
    refine flat_congr fun x _ => ?_
    rw [List.map_map]
    rfl
  · obtain ⟨q, hq, h1, h2, h3⟩ := pd_memL h hx'
    obtain ⟨x, hx, hr⟩ := List.mem_flatMap.mp hq
    obtain ⟨r, hr, rfl⟩ := List.mem_map.mp hr
    obtain ⟨Ls, hH, e1, e2, e3⟩ := g.each x hx
    refine ⟨Ls ++ [x'.2.2], ?_, ?_, ?_, ?_⟩
    · rw [h1, List.zip_append e3.symm]
      refine hH.snoc ?_
      rw [← e2]
      exact h2
    · rw [sumO_snoc, h3, e1]
    · unfold prevL
      rw [List.length_append, if_neg (by simp), List.getD_eq_getElem?_getD, List.getElem?_append_right (by simp)]
      simp
    · rw [h1, List.length_append, List.length_append, e3]
      rfl
theorem Got.none {rows : List (List Qr.Row)} {ts : List T} {ow ch : Nat} : Got rows ts ow ch [] [([], 0, [])] :=
  ⟨rfl, fun x hx => by
    rw [List.mem_singleton] at hx
    subst hx
    exact ⟨[], ⟨rfl, fun i p hp => (by cases hp)⟩, rfl, rfl, rfl⟩⟩
abbrev ZX := List (List Bool) × Int
def pS (z : ZX) : T := .tup [tBs z.1, .int z.2]
/-- all choices, each with its sum -/
structure Sums (rows : List (List Qr.Row)) (ts : List T) (ow ch : Nat) (ps : List Ps) (zs : List ZX) : Prop where
  all : zs.map (·.1) = chs ch ps.length
  each : ∀ z ∈ zs, ∃ Ls, HistAt rows ts (yrP rows) (ps.zip z.1) Ls ∧ z.2 = sumO ow Ls
theorem Got.sums {rows : List (List Qr.Row)} {ts : List T} {ow ch : Nat} {ps : List Ps} {xs : List FX} (g : Got rows ts ow ch ps xs) : Sums rows ts ow ch ps (xs.map fun x => (x.1, x.2.1)) := by
  refine ⟨by rw [List.map_map]; exact g.all, fun z hz => ?_⟩
  obtain ⟨x, hx, rfl⟩ := List.mem_map.mp hz
  obtain ⟨Ls, h1, h2, _⟩ := g.each x hx
  exact ⟨Ls, h1, h2⟩
def PapAt (H : Hp) (v : V) (p : Ps) : Prop := ∃ d, v = .ref d ∧ H d = some (.dK (pkv (pzOf p)))
theorem papAt_ex {H H' : Hp} {v : V} {p : Ps} (h : PapAt H v p) (e : Ex H H') : PapAt H' v p := by
  obtain ⟨d, rfl, h⟩ := h
  exact ⟨d, rfl, e _ _ h⟩
theorem papAt_up {H : Hp} {v : V} {p : Ps} {D : Addr} {xs : List V} {o : HO} (h : PapAt H v p) (hD : H D = some (.lst xs)) : PapAt (upd H D o) v p := by
  obtain ⟨d, rfl, h⟩ := h
  exact ⟨d, rfl, by rw [upd_ne (by rintro rfl; rw [hD] at h; cases h)]; exact h⟩
def spSumsX (K : PySem.W.Frag) (mg : Str → Option Value) : Sp := spX2 fun a b H Q E => ∃ (f yl : Addr) (ts : List T) (rows : List (List Qr.Row)) (ch ow : Nat) (us : List V) (ps : List Ps), a = .ref f ∧ b = .ref yl ∧ FormG K H f ts rows ch ow ∧ SqL K H yl us ∧ RowsL K psT H us ps ∧ (∀ p ∈ ps, p.length ≤ 1000) ∧ ps.length ≤ 20 ∧
  (8 < ch * ps.length → ∀ H', Ex H H' → E (.ref (clsA mg "TooMany")) none H') ∧ (ch * ps.length ≤ 8 → ((∃ p ∈ ps, papOk p [] = false) → ∀ H', Ex H H' → E (.ref (clsA mg "NoPaper")) none H') ∧
    ((∀ p ∈ ps, papOk p [] = true) → ∀ r H' us' zs, H r = none → Ex H H' → H' r = some (.lst us') → TvA K H' us' (zs.map pS) → Sums rows ts ow ch ps zs → Q (.ref r) H'))
theorem kx_sums (T : Tx K w mg) (c_order_of : Cal P w K mg base "order_of" 12 porder_of (spOrderOf K)) (c_papers_of : CalX P w K mg base "papers_of" 5 ppapers_of (spPapersX K mg)) (c__with_a_year_more : Cal P w K mg base "_with_a_year_more" 12 p_with_a_year_more (spMore K)) : CalX P w K mg base "sums" 13 psums (spSumsX K mg) := by
  refine calX2 T.F_sums scsums bsums rfl fun g cdv A outer s H a b Q E hr h => ?_
  obtain ⟨f, yl, ts, rows, ch, ow, us, ps, rfl, rfl, F, hyl, hus, hps, lps, qm, qx⟩ := h
  refine ⟨_, (pss_cons (ps_if (pt_cmpR op_gt (pe_op op_mul (pe_ix ix_seq (pv 0) (pe_gint T.g_CHOICES) (fun _ _ => rfl)) (pe_callB cr_lenA (by rfl) T.m_len (by decide +kernel) (pa_cons (pv 1) pa_nil))) (pe_gint T.g_MOST_IN_ALL) (nomark _)) (pss_one (Qe.ps_raiseC rfl (takes_of rfl rfl rfl rfl) T.err_TooMany)) pss_nil) (pss_cons (ps_set (i := 2) (scsums).nd rfl (by first | exact Or.inl rfl | exact Or.inr rfl) (pe_cal c_order_of (hr.mono (by omega)) (pa_cons (pv 0) pa_nil))) (pss_cons (ps_set (i := 3) (scsums).nd rfl (by first | exact Or.inl rfl | exact Or.inr rfl) (pe_lst (pa_cons (pe_tup (pa_cons (pe_tup pa_nil) (pa_cons pe_int (pa_cons (pe_lst pa_nil) pa_nil)))) pa_nil))) (pss_cons (ps_for (passes_of rfl) rfl (pi_seq (Qy.pe_lcX (own := [("pairs", 5)]) rfl rfl rfl (takes_of rfl rfl rfl rfl) (scsums).nd (pi_seq (pv 1)) (blkOk_by (N := nsums) (sc := defScope ssums) (by decide +kernel)) (fun _ _ _ _ _ _ => (pg_name (i := 5) (scsums).nd rfl (by first | exact Or.inl rfl | exact Or.inr rfl))) (fun _ _ _ _ _ _ => pts_nil) (fun _ _ _ _ _ _ _ pa => (Qy.pe_calP c_papers_of (hr.mono (by omega)) pa (pa_cons (pv 5) pa_nil))))) (pg_name (i := 4) (scsums).nd rfl (by first | exact Or.inl rfl | exact Or.inr rfl)) (pss_one (ps_set (i := 3) (scsums).nd rfl (by first | exact Or.inl rfl | exact Or.inr rfl) (pe_cal c__with_a_year_more (hr.mono (by omega)) (pa_cons (pv 0) (pa_cons (pv 2) (pa_cons (pv 4) (pa_cons (pv 3) pa_nil)))))))) (pss_one (ps_ret (pe_lc (own := [("choices", 6), ("total", 7), ("_", 8)]) rfl (scsums).nd (pi_seq (pv 3)) (blkOk_by (N := nsums) (sc := defScope ssums) (by decide +kernel)) (fun _ _ _ _ _ => (pg_tupK (K := K) rfl (n := 3) rfl (pgs_cons (pg_name (i := 6) (scsums).nd rfl (by first | exact Or.inl rfl | exact Or.inr rfl)) (pgs_cons (pg_name (i := 7) (scsums).nd rfl (by first | exact Or.inl rfl | exact Or.inr rfl)) (pgs_cons (pg_name (i := 8) (scsums).nd rfl (by first | exact Or.inl rfl | exact Or.inr rfl)) pgs_nil))))) (fun _ _ _ _ _ => pts_nil) (fun _ _ _ _ _ => (pe_tup (pa_cons (pv 6) (pa_cons (pv 7) pa_nil))))))))))), ?_⟩
  rw [tsums]
  try dsimp only [cxOf, Cx.nox, Cx.wish]
  obtain ⟨lt, tt, us0, tvs, f1, f2, f3, f4, f5⟩ := F.at_.at_
  have lus : us.length = ps.length := pd_len hus
  have hch := F.chf
  have hmul : ((ch : Nat) : Int) * ((ps.length : Nat) : Int) = ((ch * ps.length : Nat) : Int) := by simp
  walk_at "rd"
  refine rd_ixT f1 (atI_nat (j := 2) rfl) ?_
  walk_at "rd"
  refine rd_lenL hyl ?_
  rw [lus]
  walk_at "rd"
  rw [hmul]
  refine rd_ite (fun h => ?_) (fun h => ?_)
  · walk_at "rd"
    exact qm (by omega) H (Evl.Ex.refl _)
  obtain ⟨qx, q⟩ := qx (by omega)
  walk_at "rd"
  refine rd_sp1 ⟨f, ts, _, ch, ow, _, rfl, F.at_, F.rule, F.few.2, F.acyc, fun r ord H1 tp lord hr1 E1 h1 => ?_⟩
  walk_at "rd"
  refine new_tup (hl := Nat.zero_le _) fun t2 H2 ht2 E2 h2 => ?_
  walk_at "rd"
  refine new_lst (hl := Nat.zero_le _) fun l3 H3 hl3 E3 h3 => ?_
  walk_at "rd"
  refine new_tup fun t4 H4 ht4 E4 h4 => ?_
  walk_at "rd"
  refine new_lst fun l5 H5 hl5 E5 h5 => ?_
  have E25 := E3.trans (E4.trans E5)
  have E05 := E1.trans (E2.trans E25)
  have hyl5 := sql_ex hyl E05
  have hide : Ex H H5 ∧ Ex H1 H5 ∧ Ex H3 H5 ∧ Ex H2 H5 ∧ Ex H4 H5 := ⟨E05, E2.trans E25, E4.trans E5, E25, E5⟩
  clear E05 E25 E5 E4 E3 E2 E1
  walk_at "rd"
  refine rd_lcX ?_
  walk_at "rd"
  obtain ⟨E05, E15, E35, E25, E45⟩ := hide
  refine lcW_L us (fun D i H' => ∃ vs, H' D = some (.lst vs) ∧ Paired (PapAt H') vs (ps.take i) ∧ Ex H5 H' ∧ ∀ j p, j < i → ps[j]? = some p → papOk p [] = true) ?_ ?_ ?_ ?_
  · exact fun D H' hD e h => ⟨[], h, .nil, e, fun j p hj => (by omega)⟩
  · rintro D i H' hD hi ⟨_, _, _, e, _⟩
    exact sql_ex hyl5 e
  · rintro D i v H6 hD hv ⟨vs, h6, hP, e6, hok⟩
    obtain ⟨p, hp, a0, ws, rfl, hws, htv⟩ := pd_getL hus hv
    have hi : i < ps.length := (List.getElem?_eq_some_iff.mp hp).1
    have e06 := E05.trans e6
    walk_at "lcn"
    walk_at "rd"
    refine rd_spX1 ⟨a0, ws, p, rfl, sql_ex hws e06, tva_ex htv e06, hps p (List.mem_of_getElem? hp), fun z H' e' => qx ⟨p, List.mem_of_getElem? hp, z⟩ H' (e06.trans e'), fun hokp dp H7 E7 hdp h7 => ?_⟩
    have h67 := E7 _ _ h6
    have lvs : vs.length ≤ 20 := by rw [pd_len hP, List.length_take]; omega
    refine ⟨vs, h67, by rw [sizeLine_eq]; omega, vs ++ [.ref dp], upd_same, ?_, ex_new hD (e6.trans E7), fun j p' hj hp' => ?_⟩
    · rw [List.take_add_one, hp]
      exact pd_app (pd_mono hP fun _ _ _ _ z => papAt_up (papAt_ex z E7) h67) (.cons (papAt_up ⟨dp, rfl, h7⟩ h67) .nil)
    · by_cases e : j < i
      · exact hok j p' e hp'
      · obtain rfl : j = i := by omega
        rw [hp] at hp'
        cases hp'
        exact hokp
  rintro pl H6 hpl ⟨vs, h6, hP, e6, hok⟩
  have hok : ∀ p ∈ ps, papOk p [] = true := fun p hp => by
    obtain ⟨j, hj⟩ := List.getElem?_of_mem hp
    exact hok j p (by rw [lus]; exact (List.getElem?_eq_some_iff.mp hj).1) hj
  rw [lus, List.take_length] at hP
  have lvs : vs.length = ps.length := pd_len hP
  refine rd_fsL (SqL.of h6) ?_
  have E06 := E05.trans e6
  refine forW_L vs (fun i σ H' => ∃ fl us' xs y1 y2 y3 y4 y5, σ = [some (.ref f), some (.ref yl), some (.ref r), some (.ref fl), y1, y2, y3, y4, y5] ∧ Ex H6 H' ∧ SqL K H' fl us' ∧ Paired (FIt K H' fun _ => True) us' xs ∧ Got rows ts ow ch (ps.take i) xs) ?_ ?_ ?_ ?_
  · refine ⟨l5, [.ref t4], [([], 0, [])], _, _, _, _, _, rfl, Evl.Ex.refl _, .of (e6 _ _ h5), .cons ⟨t4, .ref t2, l3, rfl, .of (e6 _ _ (E45 _ _ h4)), .tup (.of (e6 _ _ (E25 _ _ h2))) .nil, .of (e6 _ _ (E35 _ _ h3)), trivial⟩ .nil, Got.none⟩
  · rintro i σ H' hi ⟨_, _, _, _, _, _, _, _, _, e, _⟩
    exact .of (e _ _ h6)
  · rintro i v σ H7 hv ⟨fl, us', xs, y1, y2, y3, y4, y5, rfl, E7, hfl, hX, hG⟩
    obtain ⟨p, hp, dp, rfl, hdp⟩ := pd_getL hP hv
    have hi : i < ps.length := (List.getElem?_eq_some_iff.mp hp).1
    have E07 := E06.trans E7
    have lt : (ps.take i).length = i := by rw [List.length_take]; omega
    walk_at "rd"
    refine rd_sp4 ⟨f, r, dp, fl, ts, rows, ch, ow, ord, p, us', xs, rfl, rfl, rfl, rfl, F.ex E07, .of ((E15.trans (e6.trans E7)) _ _ h1), tp, lord, E7 _ _ hdp, hfl, hX, hG.es, fun x hx => ?_, ?_, fun r8 H8 us8 xs8 hr8 E8 h8 hX8 hN8 => ?_⟩
    · obtain ⟨_, _, _, _, e⟩ := hG.each x hx
      rw [e, lt]
      omega
    · rw [hG.len, lt, ← Nat.pow_add]
      have h1 : i * ch + ch ≤ 8 := by
        have : (i + 1) * ch ≤ ps.length * ch := Nat.mul_le_mul_right ch hi
        rw [Nat.succ_mul, Nat.mul_comm ps.length] at this
        omega
      exact Nat.pow_le_pow_right (by decide : 1 ≤ 2) h1
    · walk_at "rd"
      refine ⟨r8, us8, xs8, _, _, _, _, _, rfl, E7.trans E8, .of h8, hX8, ?_⟩
      rw [List.take_add_one, hp]
      exact hG.step hN8
  · rintro σ H7 ⟨fl, us', xs, y1, y2, y3, y4, y5, rfl, E7, hfl, hX, hG⟩
    rw [lvs, List.take_length] at hG
    have E07 := E06.trans E7
    have hide : Ex H H7 ∧ True := ⟨E07, trivial⟩
    clear E07 E7 E06 e6 E25 E35 E15 E05 E45
    walk_at "rd"
    obtain ⟨E07, _⟩ := hide
    have lus' : us'.length = xs.length := pd_len hX
    have lxs : xs.length ≤ 256 := by
      rw [hG.len]
      exact Nat.pow_le_pow_right (by decide : 1 ≤ 2) (by rw [Nat.mul_comm]; omega : ps.length * ch ≤ 8)
    refine lcW_L us' (fun D i H' => ∃ ws, H' D = some (.lst ws) ∧ TvA K H' ws (((xs.take i).map fun x => (x.1, x.2.1)).map pS) ∧ Ex H7 H') ?_ ?_ ?_ ?_
    · exact fun D H' hD e h => ⟨[], h, .nil, e⟩
    · rintro D i H' hD hi ⟨_, _, _, e⟩
      exact sql_ex hfl e
    · rintro D i v H8 hD hv ⟨ws, h8, tv8, e8⟩
      obtain ⟨x, hx, t, cv, el, rfl, hs, hcv, hel, _⟩ := pd_getL hX hv
      have hi : i < xs.length := (List.getElem?_eq_some_iff.mp hx).1
      refine rd_gtup (sqt_ex hs e8) rfl ?_
      walk_at "rd"
      refine ⟨rfl, ?_⟩
      refine rd_yes (iteT ?_)
      walk_at "rd"
      refine new_tup fun t9 H9 ht9 E9 h9 => ?_
      have h89 := E9 _ _ h8
      have lws : ws.length ≤ 256 := by rw [tv8.len, List.length_map, List.length_map, List.length_take]; omega
      refine ⟨ws, h89, by rw [sizeLine_eq]; omega, ws ++ [.ref t9], upd_same, ?_, ex_new hD (e8.trans E9)⟩
      rw [List.take_add_one, hx, List.map_append, List.map_append]
      exact (Tame.upd h89).tvA ((tva_ex tv8 E9).append (.one (.tup (.of h9) (.cons (tv_ex hcv (e8.trans E9)) (.cons (.int _) .nil)))))
    rintro rr H8 hrr ⟨ws, h8, tv8, e8⟩
    rw [lus', List.take_length] at tv8
    walk_at "rd"
    exact q hok rr H8 ws _ (free_of E07 hrr) (E07.trans e8) h8 tv8 hG.sums
end
end KF
open PySem PySem.Spec PyProof.Rows L2 Qa Qr
open Qg Qe Qi Qm Qw Qy


namespace KF
section
variable {P : Program} {w : World} {K : PySem.W.Frag} {mg : Str → Option Value} {base : Heap} {H : Hp} {Q : VK} {E : XK}
/-- the first of the least -/
def IsLeast (zs : List ZX) (z : ZX) : Prop := ∃ i, zs[i]? = some z ∧ ∀ (j : Nat) (y : ZX), zs[j]? = some y → z.2 ≤ y.2 ∧ (j < i → z.2 < y.2)
def spLeastX (K : PySem.W.Frag) (mg : Str → Option Value) (PL : Addr) : Sp := spX2 fun a b H Q E => ∃ (f yl : Addr) (ts : List T) (rows : List (List Qr.Row)) (ch ow : Nat) (us : List V) (ps : List Ps), a = .ref f ∧ b = .ref yl ∧ FormG K H f ts rows ch ow ∧ SqL K H yl us ∧ RowsL K psT H us ps ∧ (∀ p ∈ ps, p.length ≤ 1000) ∧ ps.length ≤ 20 ∧ H PL = some (.tbl #[]) ∧
  (8 < ch * ps.length → ∀ H', Ex H H' → E (.ref (clsA mg "TooMany")) none H') ∧ (ch * ps.length ≤ 8 → ((∃ p ∈ ps, papOk p [] = false) → ∀ H', Ex H H' → E (.ref (clsA mg "NoPaper")) none H') ∧
    ((∀ p ∈ ps, papOk p [] = true) → ∀ v H' zs z, ExT H H' → Sums rows ts ow ch ps zs → IsLeast zs z → Tv K H' v (pS z) → Q v H'))
theorem kx_least {cL PL : Addr} (T : Tx K w mg) (hT : GxR.TabB base mg cL PL) (C : CodeIs K mg "least" cL) (c_sums : CalX P w K mg base "sums" 13 psums (spSumsX K mg)) : CalX P w K mg base "least" 14 pleast (spLeastX K mg PL) := by
  refine calX2C T.F_least C scleast bleast rfl fun g A outer s H a b Q E hr h => ?_
  obtain ⟨f, yl, ts, rows, ch, ow, us, ps, rfl, rfl, F, hyl, hus, hps, lps, hP, qm, qx⟩ := h
  refine ⟨_, (pss_one (ps_ret (Qy.pe_minL (K := K) rfl hr hT T.m_min rfl (by decide +kernel) rfl (fun _ _ _ _ _ => rfl) (pa_cons (Qe.pe_calX c_sums (hr.mono (by omega)) (takes_of rfl rfl rfl rfl) (pa_cons (pv 0) (pa_cons (pv 1) pa_nil))) pa_nil)))), ?_⟩
  rw [tleast]
  try dsimp only [cxOf, Cx.nox, Cx.wish]
  walk_at "rd"
  refine rd_minL ?_
  walk_at "rd"
  refine rd_spX2 ⟨f, yl, ts, rows, ch, ow, us, ps, rfl, rfl, F, hyl, hus, hps, lps, qm, fun h8 => ⟨(qx h8).1, fun hok r H1 us' zs hr1 E1 h1 tv1 hS => ?_⟩⟩
  have lz : us'.length = zs.length := by rw [tv1.len, List.length_map]
  have lz0 : 0 < zs.length := by
    have := congrArg List.length hS.all
    rw [List.length_map, chs_len] at this
    rw [this]
    exact Nat.pow_pos (by decide)
  refine ⟨r, us', fun i => (zs.getD i ([], 0)).2, rfl, .of h1, E1 _ _ hP, by omega, fun i v hv => ?_, fun i v H2 hv fl E2 => ?_⟩
  · obtain ⟨t, ht, tv⟩ := tv1.getV hv
    rw [List.getElem?_map] at ht
    cases ez : zs[i]? with
    | none => rw [ez] at ht; cases ht
    | some z =>
    rw [ez] at ht
    cases (Option.some.inj ht)
    obtain ⟨a, xs, rfl, hs, ha⟩ := tv.tupE
    obtain ⟨y0, xs, rfl, _, ha⟩ := ha.consE
    obtain ⟨y1, xs, rfl, h1', ha⟩ := ha.consE
    cases ha.nilE
    cases h1'
    refine ⟨a, _, rfl, hs, ?_⟩
    show some (V.int z.2) = some (V.int (zs.getD i ([], 0)).2)
    rw [List.getD_eq_getElem?_getD, ez]
    rfl
  · obtain ⟨t, ht, tv⟩ := tv1.getV hv
    rw [List.getElem?_map] at ht
    cases ez : zs[i]? with
    | none => rw [ez] at ht; cases ht
    | some z =>
    rw [ez] at ht
    cases (Option.some.inj ht)
    refine (qx h8).2 hok v H2 zs z ((ExT.of E1).trans E2) hS ⟨i, ez, fun j y hj => ?_⟩ (tv_t tv E2)
    have := fl j (by rw [lz]; exact (List.getElem?_eq_some_iff.mp hj).1)
    have e1 : (zs.getD i ([], 0)).2 = z.2 := by rw [List.getD_eq_getElem?_getD, ez]; rfl
    have e2 : (zs.getD j ([], 0)).2 = y.2 := by rw [List.getD_eq_getElem?_getD, hj]; rfl
    dsimp only at this
    rw [e1, e2] at this
    exact this
end
end KF
open PySem PySem.Spec PyProof.Rows L2 Qa Qr
open Qg Qe Qi Qm Qw


namespace KF
section
variable {P : Program} {w : World} {K : PySem.W.Frag} {mg : Str → Option Value} {base : Heap} {H : Hp} {Q : VK} {E : XK}
/-- each line behind those that it names -/
inductive Aft (nm : List (List Nat)) : List Nat → Prop
  | nil : Aft nm []
  | snoc {ord : List Nat} {x : Nat} : Aft nm ord → x ∉ ord → x < nm.length → (∀ y, y ∈ row nm x → y ∈ ord) → Aft nm (ord ++ [x])
theorem aft_nodup {nm : List (List Nat)} {a : List Nat} (h : Aft nm a) : a.Nodup ∧ ∀ x, x ∈ a → x < nm.length ∧ ∀ y, y ∈ row nm x → y ∈ a := by
  induction h with
  | nil => exact ⟨by simp, fun x h => by cases h⟩
  | @snoc ord x h h1 h2 h3 ih =>
    refine ⟨?_, fun y hy => ?_⟩
    · rw [List.nodup_append]
      refine ⟨ih.1, by simp, fun u hu v hv => ?_⟩
      have e : v = x := by simpa using hv
      subst e
      rintro rfl
      exact h1 hu
    · rcases List.mem_append.mp hy with hy | hy
      · exact ⟨(ih.2 y hy).1, fun z hz => List.mem_append.mpr (.inl ((ih.2 y hy).2 z hz))⟩
      · have e : y = x := by simpa using hy
        subst e
        exact ⟨h2, fun z hz => List.mem_append.mpr (.inl (h3 z hz))⟩
theorem aft_split {nm : List (List Nat)} {ord : List Nat} (h : Aft nm ord) : ∀ {i k : Nat}, ord[i]? = some k → k ∉ ord.take i ∧ (∀ k', k' ∈ ord.take i → ∀ j, j ∈ row nm k' → j ∈ ord.take i) ∧ ∀ j, j ∈ row nm k → j ∈ ord.take i := by
  induction h with
  | nil => intro i k e; cases e
  | @snoc ord x h h1 h2 h3 ih =>
    intro i k e
    by_cases hi : i < ord.length
    · rw [List.getElem?_append_left hi] at e
      rw [List.take_append_of_le_length (by omega)]
      exact ih e
    · have hi2 : i = ord.length := by
        have := (List.getElem?_eq_some_iff.mp e).1
        rw [List.length_append] at this
        simp only [List.length_singleton] at this
        omega
      subst hi2
      rw [List.getElem?_append_right (Nat.le_refl _), Nat.sub_self] at e
      cases (Option.some.inj e)
      rw [List.take_left]
      exact ⟨h1, fun k' hk' => ((aft_nodup h).2 k' hk').2, h3⟩
theorem aft_all {nm : List (List Nat)} {ord : List Nat} (h : Aft nm ord) (hl : nm.length ≤ ord.length) {k : Nat} (hk : k < nm.length) : k ∈ ord := by
  by_cases hm : k ∈ ord
  · exact hm
  · exfalso
    have hd := aft_nodup h
    have := nodup_lt (List.nodup_cons.mpr ⟨hm, hd.1⟩) (n := nm.length) fun z hz => by
      rcases List.mem_cons.mp hz with rfl | hz
      · exact hk
      · exact (hd.2 z hz).1
    rw [List.length_cons] at this
    omega
/-- a round over the lines -/
structure Rd (nm : List (List Nat)) (ord0 ord : List Nat) (i : Nat) : Prop where
  aft : Aft nm ord
  grow : ord0.length ≤ ord.length
  same : ord.length = ord0.length → ord = ord0 ∧ ∀ z, z < i → z ∉ ord0 → ∃ y, y ∈ row nm z ∧ y ∉ ord0
theorem Rd.no {nm : List (List Nat)} {ord0 ord : List Nat} {i : Nat} (r : Rd nm ord0 ord i) (h : i ∉ ord → ∃ y, y ∈ row nm i ∧ y ∉ ord) : Rd nm ord0 ord (i + 1) :=
  ⟨r.aft, r.grow, fun e => by
    obtain ⟨e1, e2⟩ := r.same e
    refine ⟨e1, fun z hz hn => ?_⟩
    by_cases q : z < i
    · exact e2 z q hn
    · obtain rfl : z = i := by omega
      rw [e1] at h
      exact h hn⟩
theorem Rd.yes {nm : List (List Nat)} {ord0 ord : List Nat} {i : Nat} (r : Rd nm ord0 ord i) (h1 : i ∉ ord) (h2 : i < nm.length) (h3 : ∀ y, y ∈ row nm i → y ∈ ord) : Rd nm ord0 (ord ++ [i]) (i + 1) :=
  ⟨.snoc r.aft h1 h2 h3, by rw [List.length_append]; have := r.grow; omega, fun e => by
    rw [List.length_append] at e
    have := r.grow
    simp only [List.length_singleton] at e
    omega⟩
theorem Rd.end_ {nm : List (List Nat)} {ord0 ord : List Nat} (r : Rd nm ord0 ord nm.length) (h0 : Aft nm ord0) (ac : Acyc nm) (hl : ∀ x y, y ∈ row nm x → y < nm.length) (lt : ord0.length < nm.length) : ord0.length < ord.length := by
  by_cases e : ord.length = ord0.length
  · exfalso
    have hd := aft_nodup h0
    obtain ⟨x, hx, hn, hy⟩ := acyc_next ac hl ord0 (missing hd.1 (fun z hz => (hd.2 z hz).1) lt)
    obtain ⟨y, y1, y2⟩ := (r.same e).2 x hx hn
    exact y2 (hy y y1)
  · have := r.grow
    omega
def spLRow (K : PySem.W.Frag) : Sp := sp1 fun a H Q => ∃ (lt : Addr) (vs : List V) (ts : List T) (sz : Sz), a = .ref lt ∧ SqT K H lt vs ∧ TvA K H vs ts ∧ (∀ t ∈ ts, isRule sz 8 t = true) ∧ sz.l = ts.length ∧ ts.length ≤ 40 ∧ Acyc (nmOf ts) ∧
  ∀ p H' ord, H p = none → Ex H H' → H' p = some (.lst (ord.map iv)) → Aft (nmOf ts) ord → ord.length = ts.length → Q (.ref p) H'
theorem k__law_row (T : Tx K w mg) (c__law_named : Cal P w K mg base "_law_named" 9 p_law_named (spLN K 8)) : Cal P w K mg base "_law_row" 10 p_law_row (spLRow K) := by
  refine cal1 T.F__law_row sc_law_row b_law_row rfl fun g cdv A outer s H a Q E hr h => ?_
  obtain ⟨lt, vs, ts, sz, rfl, hlt, htv, hrule, hsz, few, ac, q⟩ := h
  refine ⟨_, (pss_cons (ps_set (i := 1) (sc_law_row).nd rfl (by first | exact Or.inl rfl | exact Or.inr rfl) (pe_lst pa_nil)) (pss_cons (ps_while PassesOwn.never (pt_cmpR op_lt (pe_callB cr_lenA (by rfl) T.m_len (by decide +kernel) (pa_cons (pv 1) pa_nil)) (pe_callB cr_lenA (by rfl) T.m_len (by decide +kernel) (pa_cons (pv 0) pa_nil)) (nomark _)) (pss_one (ps_for PassesOwn.never rfl (pi_range1 (by rfl) T.m_range (pa_cons (pe_callB cr_lenA (by rfl) T.m_len (by decide +kernel) (pa_cons (pv 0) pa_nil)) pa_nil)) (pg_name (i := 2) (sc_law_row).nd rfl (by first | exact Or.inl rfl | exact Or.inr rfl)) (pss_cons (ps_setLc (i := 3) (own := [("_law_one", 4)]) rfl (sc_law_row).nd rfl rfl (sw_true rfl rfl rfl (by decide +kernel)) (pi_seq (pe_cal c__law_named (hr.mono (by omega)) (pa_cons (pe_ix ix_seq (pv 0) (pv 2) (fun _ _ => rfl)) (pa_cons pe_str pa_nil)))) (blkOk_by (N := n_law_row) (sc := defScope s_law_row) (by decide +kernel)) (fun _ _ _ _ _ => (pg_name (i := 4) (sc_law_row).nd rfl (by first | exact Or.inl rfl | exact Or.inr rfl))) (fun _ _ _ _ _ => (pts_one (pt_cmpR (notInK (K := K) rfl) (pv 4) (pv 1) (by rfl)))) (fun _ _ _ _ _ => (pv 4))) (pss_one (ps_if (PW.pt (pw_and (pt_cmpR op_notIn_seq (pv 2) (pv 1) (by rfl)) (pw_and1 (pt_cmpR (op_eqA hr) (pv 3) (pe_lst pa_nil) (nomark _))))) (pss_one (ps_expr (pe_bm PySem.F.plainAttrs_list PySem.F.slot_list_append PySem.F.type_list_append mt_append (pv 1) (pa_cons (pv 2) pa_nil)))) pss_nil)))))) (pss_one (ps_ret (pv 1))))), ?_⟩
  rw [t_law_row]
  try dsimp only [cxOf, Cx.nox, Cx.wish]
  have lv : vs.length = ts.length := htv.len
  have hN : (nmOf ts).length = ts.length := nmOf_len ts
  have rowlt : ∀ x y, y ∈ row (nmOf ts) x → y < (nmOf ts).length := fun x y hy => by
    unfold row at hy
    cases e : (nmOf ts)[x]? with
    | none => rw [e] at hy; cases hy
    | some l =>
      rw [e] at hy
      have hm := List.mem_of_getElem? e
      unfold nmOf at hm
      obtain ⟨t, _, rfl⟩ := List.mem_map.mp hm
      have hy : y ∈ rowK ts.length (beh "line" 8 t) := hy
      rw [hN]
      exact (mem_rowK.mp hy).1
  walk_at "rd"
  refine new_lst (hl := Nat.zero_le _) fun rl H1 hrl E1 h1 => ?_
  walk_at "rd"
  refine rd_while (m0 := 50) (fun m σ H' => ∃ (ord : List Nat) (y1 y2 y3 : Option V), σ = [some (.ref lt), some (.ref rl), y1, y2, y3] ∧ Ex H H' ∧ H' rl = some (.lst (ord.map iv)) ∧ Aft (nmOf ts) ord ∧ ts.length - ord.length < m) ?_ ?_
  · exact ⟨[], _, _, _, rfl, E1, h1, .nil, by show ts.length - 0 < 50; omega⟩
  rintro m σ H2 ⟨ord, y1, y2, y3, rfl, E2, h2, hA, hm⟩
  have lo : ord.length ≤ ts.length := by
    rw [← hN]
    exact nodup_lt (aft_nodup hA).1 fun x hx => ((aft_nodup hA).2 x hx).1
  walk_at "rd"
  refine rd_lenL (.of h2) ?_
  rw [List.length_map]
  walk_at "rd"
  refine rd_lenT (sqt_ex hlt E2) ?_
  rw [lv]
  walk_at "rd"
  by_cases hlen : ord.length < ts.length
  · rw [if_pos (by simp; omega)]
    refine ⟨fun σ H' => ∃ (ord' : List Nat) (y1 y2 y3 : Option V), σ = [some (.ref lt), some (.ref rl), y1, y2, y3] ∧ Ex H H' ∧ H' rl = some (.lst (ord'.map iv)) ∧ Rd (nmOf ts) ord ord' (nmOf ts).length, ?_, ?_⟩
    · rintro σ H' ⟨ord', z1, z2, z3, rfl, e, h', hR⟩
      have := hR.end_ hA ac rowlt (by omega)
      have lo' : ord'.length ≤ ts.length := by
        rw [← hN]
        exact nodup_lt (aft_nodup hR.aft).1 fun x hx => ((aft_nodup hR.aft).2 x hx).1
      exact ⟨ts.length - ord'.length + 1, by omega, ord', z1, z2, z3, rfl, e, h', hR.aft, by omega⟩
    walk_at "rd"
    refine rd_lenT (sqt_ex hlt E2) ?_
    rw [lv]
    walk_at "rd"
    rw [Int.toNat_natCast]
    refine forW_R (fun i σ H' => ∃ (ord' : List Nat) (y1 y2 y3 : Option V), σ = [some (.ref lt), some (.ref rl), y1, y2, y3] ∧ Ex H H' ∧ H' rl = some (.lst (ord'.map iv)) ∧ Rd (nmOf ts) ord ord' i) ?_ ?_ ?_
    · exact ⟨ord, _, _, _, rfl, E2, h2, hA, Nat.le_refl _, fun _ => ⟨rfl, fun z hz => by omega⟩⟩
    · rintro i σ H3 hi ⟨ord', y1, y2, y3, rfl, E3, h3, hR⟩
      rw [Int.zero_add]
      obtain ⟨t, ht⟩ : ∃ t, ts[i]? = some t := ⟨_, List.getElem?_eq_getElem hi⟩
      obtain ⟨tv, hv1, vt⟩ := htv.get ht
      have hrt := hrule t (List.mem_of_getElem? ht)
      have lo' : ord'.length ≤ ts.length := by
        rw [← hN]
        exact nodup_lt (aft_nodup hR.aft).1 fun x hx => ((aft_nodup hR.aft).2 x hx).1
      walk_at "rd"
      refine rd_ixT (sqt_ex hlt E3) (atI_nat hv1) ?_
      walk_at "rd"
      refine rd_sp2 ⟨t, sz, "line", tv_ex vt E3, rfl, by decide, hrt, Nat.le_refl _, fun p4 H4 ls hls hll hp4 E4 h4 => ?_⟩
      have hL : SqL K H4 p4 (ls.map kV) := .of h4
      refine rd_fsL hL ?_
      refine lcW_L (ls.map kV) (fun D j H' => H' D = some (.lst (((ls.take j).filter fun k => !memK k (ord'.map ik)).map kV)) ∧ Ex H4 H') ?_ ?_ ?_ ?_
      · exact fun D H' hD e h => ⟨h, e⟩
      · rintro D j H' hD hj ⟨_, e⟩
        exact sql_ex hL e
      · rintro D j v H5 hD hv ⟨h5, E5⟩
        rw [List.getElem?_map] at hv
        cases ek : ls[j]? with
        | none => rw [ek] at hv; cases hv
        | some k =>
        rw [ek] at hv
        cases (Option.some.inj hv)
        have et : ls.take (j + 1) = ls.take j ++ [k] := by rw [List.take_add_one, ek]; rfl
        walk_at "rd"
        refine ⟨rfl, ?_⟩
        walk_at "rd"
        have hr5 : SqL K H5 rl ((ord'.map ik).map kV) := by rw [iv_key]; exact .of ((E4.trans E5) _ _ h3)
        refine rd_outK hr5 ?_
        cases hk : memK k (ord'.map ik) with
        | true =>
          walk_at "rd"
          refine ⟨?_, E5⟩
          rw [et, List.filter_append, show [k].filter (fun k => !memK k (ord'.map ik)) = [] by simp [hk], List.append_nil]
          exact h5
        | false =>
          walk_at "rd"
          refine ⟨_, h5, ?_, ?_, ex_new hD E5⟩
          · rw [List.length_map, sizeLine_eq]
            have l1 := List.length_filter_le (fun k => !memK k (ord'.map ik)) (ls.take j)
            have l2 : (ls.take j).length ≤ ls.length := by rw [List.length_take]; omega
            have l3 := beh_len "line" 8 t
            have l4 : B 8 ≤ 10000 := by decide
            omega
          · rw [upd_same, et, List.filter_append, show [k].filter (fun k => !memK k (ord'.map ik)) = [k] by simp [hk], List.map_append]
            rfl
      rintro wl H5 hwl ⟨h5, E5⟩
      rw [List.length_map, List.take_length] at h5
      have E35 := E4.trans E5
      have hn0 : ((ls.filter fun k => !memK k (ord'.map ik)).isEmpty = true) ↔ ∀ y, y ∈ row (nmOf ts) i → y ∈ ord' := by
        rw [List.isEmpty_iff, List.filter_eq_nil_iff]
        constructor
        · intro h y hy
          rw [row_at ht, mem_rowK] at hy
          have := h (ik y) ((hls.2.2 _).mpr hy.2)
          rw [Bool.not_eq_true, Bool.not_eq_false', memK_iff] at this
          obtain ⟨z, hz, e⟩ := List.mem_map.mp this
          have e : (z : Int) = (y : Int) := Sum.inl.inj e
          obtain rfl : z = y := by omega
          exact hz
        · intro h k hk
          obtain ⟨x, rfl, x0, x1⟩ := beh_place 8 t hrt k ((hls.2.2 _).mp hk)
          obtain ⟨y, rfl⟩ : ∃ y : Nat, x = y := ⟨x.toNat, by omega⟩
          have : y ∈ row (nmOf ts) i := named_row hrule hsz ht ((hls.2.2 _).mp hk)
          rw [Bool.not_eq_true, Bool.not_eq_false', memK_iff]
          exact List.mem_map_of_mem (h y this)
      have hrl5 : SqL K H5 rl (ord'.map iv) := .of (E35 _ _ h3)
      walk_at "rd"
      refine rd_outN hrl5 ?_
      by_cases hin : i ∈ ord'
      · rw [decide_eq_true hin]
        walk_at "rd"
        exact ⟨ord', _, _, _, rfl, E3.trans E35, E35 _ _ h3, hR.no fun z => absurd hin z⟩
      rw [decide_eq_false hin]
      walk_at "rd"
      refine new_lst (hl := Nat.zero_le _) fun l6 H6 hl6 E6 h6 => ?_
      refine rd_eqNil (fun k hk => ?_) (.of (E6 _ _ h5)) (.of h6) ?_
      · obtain ⟨x, rfl, _⟩ := beh_place 8 t hrt k ((hls.2.2 _).mp (List.mem_filter.mp hk).1)
        rfl
      have E36 := E35.trans E6
      cases he : (ls.filter fun k => !memK k (ord'.map ik)).isEmpty with
      | true =>
        walk_at "rd"
        refine rd_append (E36 _ _ h3) (by rw [List.length_map]; omega) ?_
        walk_at "rd"
        refine ⟨ord' ++ [i], _, _, _, rfl, ex_new hrl (E3.trans E36), ?_, hR.yes hin (by omega) (hn0.mp he)⟩
        rw [upd_same, List.map_append]
        rfl
      | false =>
        walk_at "rd"
        refine ⟨ord', _, _, _, rfl, E3.trans E36, E36 _ _ h3, hR.no fun _ => ?_⟩
        refine Classical.byContradiction fun hno => ?_
        have : ∀ y, y ∈ row (nmOf ts) i → y ∈ ord' := fun y hy => Classical.byContradiction fun z => hno ⟨y, hy, z⟩
        rw [hn0.mpr this] at he
        cases he
    · rintro σ H3 ⟨ord', y1, y2, y3, rfl, E3, h3, hR⟩
      rw [← hN] at hR
      exact ⟨ord', y1, y2, y3, rfl, E3, h3, hR⟩
  · rw [if_neg (by simp; omega)]
    walk_at "rd"
    exact q rl H2 ord hrl E2 h2 hA (by omega)
end
end KF
open PySem PySem.Spec PyProof.Rows L2 Qa Qr
open Qg Qe Qi Qm Qw Qy


namespace KF
section
variable {P : Program} {w : World} {K : PySem.W.Frag} {mg : Str → Option Value} {base : Heap} {H : Hp} {Q : VK} {E : XK}
def spLReck (K : PySem.W.Frag) : Sp := sp5 fun a b c d e H Q => ∃ (f r pl el tl : Addr) (ts : List T) (rows : List (List Qr.Row)) (ch ow : Nat) (ord : List Nat) (vs : List V) (pz : Pz) (es : List Int) (bs : List Bool), a = .ref f ∧ b = .ref r ∧ c = .ref pl ∧ d = .ref el ∧ e = .ref tl ∧
  FormG K H f ts rows ch ow ∧ SqL K H r (ord.map iv) ∧ Aft (nmOf ts) ord ∧ ord.length = ts.length ∧ SqL K H pl vs ∧ TvA K H vs (psT (psOf pz)) ∧ (pz.map (·.1)).Nodup ∧ SqL K H el (es.map V.int) ∧ (es = [] ∨ es.length = ts.length) ∧ SqLT K H tl (bs.map V.bl) ∧ bs.length = ch ∧
  ∀ p L H', H p = none → Ex H H' → H' p = some (.lst (L.map V.int)) → Reck (Yz pz es rows bs) ts L → Q (.ref p) H'
theorem k__law_reckoned (T : Tx K w mg) (c__law_value : Cal P w K mg base "_law_value" 9 p_law_value (spLValue K 8)) : Cal P w K mg base "_law_reckoned" 10 p_law_reckoned (spLReck K) := by
  refine cal5 T.F__law_reckoned sc_law_reckoned b_law_reckoned rfl fun g cdv A outer s H a b c d e Q E hr h => ?_
  obtain ⟨f, r, pl, el, tl, ts, rows, ch, ow, ord, vs, pz, es, bs, rfl, rfl, rfl, rfl, rfl, F, ho, hA, lord, hpl, hpv, nd, hel, hes, htl, hbs, q⟩ := h
  refine ⟨_, (pss_cons (ps_set (i := 5) (sc_law_reckoned).nd rfl (by first | exact Or.inl rfl | exact Or.inr rfl) (pe_op op_rep (pe_lst (pa_cons pe_int pa_nil)) (pe_callB cr_lenA (by rfl) T.m_len (by decide +kernel) (pa_cons (pv 1) pa_nil)))) (pss_cons (ps_set (i := 6) (sc_law_reckoned).nd rfl (by first | exact Or.inl rfl | exact Or.inr rfl) (pe_tup (pa_cons (pv 5) (pa_cons (pv 2) (pa_cons (pv 3) (pa_cons (pe_ix ix_seq (pv 0) pe_int (fun _ _ => rfl)) (pa_cons (pv 4) pa_nil))))))) (pss_cons (ps_for PassesOwn.never rfl (pi_seq (pv 1)) (pg_name (i := 7) (sc_law_reckoned).nd rfl (by first | exact Or.inl rfl | exact Or.inr rfl)) (pss_one (ps_asg (pe_cal c__law_value (hr.mono (by omega)) (pa_cons (pe_ix ix_seq (pe_ix ix_seq (pv 0) pe_int (fun _ _ => rfl)) (pv 7) (fun _ _ => rfl)) (pa_cons (pv 6) pa_nil))) (pg_sub (pv 5) (pv 7) set_list)))) (pss_one (ps_ret (pv 5)))))), ?_⟩
  rw [t_law_reckoned]
  try dsimp only [cxOf, Cx.nox, Cx.wish]
  obtain ⟨lt, tt, us, tvs, f1, f2, f3, f4, f5⟩ := F.at_.at_
  have few := F.few
  have hN : (nmOf ts).length = ts.length := nmOf_len ts
  walk_at "rd"
  refine new_lst fun p0 H1 hp0 E1 h1 => ?_
  walk_at "rd"
  refine rd_lenL (sql_ex ho E1) ?_
  rw [List.length_map, lord]
  walk_at "rd"
  refine rd_rep h1 (by omega) (by omega) (by show 1 ≤ 100; decide) fun ll H2 hll E2 h2 => ?_
  rw [flat_one, Int.toNat_natCast] at h2
  have E02 := E1.trans E2
  have hllH : H ll = none := free_of E1 hll
  walk_at "rd"
  refine rd_ixT (sqt_ex f1 E02) (atI_nat (j := 1) rfl) ?_
  walk_at "rd"
  refine new_tup fun sg H3 hsg E3 h3 => ?_
  have E03 := E02.trans E3
  have nsl : sg ≠ ll := by rintro rfl; rw [h2] at hsg; cases hsg
  have ho3 := sql_ex ho E03
  have h2' := E3 _ _ h2
  have hide : Ex H H3 ∧ True := ⟨E03, trivial⟩
  clear E03 E3 E02 E2 E1
  walk_at "rd"
  obtain ⟨E03, _⟩ := hide
  refine forW_Lx ho3 (fun i σ H' => ∃ (L : List Int) (y : Option V), σ = [some (.ref f), some (.ref r), some (.ref pl), some (.ref el), some (.ref tl), some (.ref ll), some (.ref sg), y] ∧ Ex H H' ∧ H' ll = some (.lst (L.map V.int)) ∧ H' sg = some (.tup [.ref ll, .ref pl, .ref el, .ref tt, .ref tl]) ∧ Qw.Part (Yz pz es rows bs) ts (ord.take i) L) ?_ ?_ ?_ ?_
  · refine ⟨List.replicate ts.length 0, _, rfl, E03, by rw [List.map_replicate]; exact h2', h3, List.length_replicate, fun k t hk => by cases hk⟩
  · rintro i σ H' hi ⟨_, _, _, e, _⟩
    exact sql_ex ho e
  · rintro i v σ H4 hv ⟨L, y, rfl, E4, hl4, hs4, hP⟩
    rw [List.getElem?_map] at hv
    cases ek : ord[i]? with
    | none => rw [ek] at hv; cases hv
    | some k =>
    rw [ek] at hv
    cases (Option.some.inj hv)
    have hk : k < ts.length := by have := ((aft_nodup hA).2 k (List.mem_of_getElem? ek)).1; omega
    obtain ⟨nk, up, hn⟩ := aft_split hA ek
    have eti : ord.take (i + 1) = ord.take i ++ [k] := by rw [List.take_add_one, ek]; rfl
    obtain ⟨vk, hvk, tvk⟩ := f3.get (List.getElem?_eq_getElem hk)
    walk_at "rd"
    refine rd_ixT (sqt_ex f1 E4) (atI_nat (j := 0) rfl) ?_
    walk_at "rd"
    refine rd_ixT (sqt_ex f2 E4) (atI_nat hvk) ?_
    walk_at "rd"
    have hS : SightAt K H4 sg ts.length ch pz es rows bs L := ⟨⟨ll, pl, el, tt, tl, vs, tvs, .of hs4, .of hl4, sql_ex hpl E4, tva_ex hpv E4, sql_ex hel E4, sqt_ex f4 E4, tva_ex f5 E4, htl.ex E4⟩, nd, hP.len, hes, hbs, F.tabs⟩
    refine rd_sp2 ⟨ts[k], sg, ts.length, ch, pz, es, rows, bs, L, rfl, tv_ex tvk E4, hS, F.rule _ (List.getElem_mem hk), fun H5 E5 => ?_⟩
    walk_at "rd"
    refine rd_setL (E5 _ _ hl4) (j := k) (ixN_k (by rw [List.length_map, hP.len]; exact hk)) ?_
    refine ⟨L.set k (worth (sgOf pz es rows bs L) 8 ts[k]), _, rfl, ex_new hllH (E4.trans E5), by rw [upd_same, List.map_set], by rw [upd_ne nsl]; exact E5 _ _ hs4, ?_⟩
    rw [eti]
    exact part_step F.rule rfl hP nk (List.getElem?_eq_getElem hk) up hn
  · rintro σ H4 ⟨L, y, rfl, E4, hl4, hs4, hP⟩
    walk_at "rd"
    refine q ll L H4 hllH E4 hl4 (part_end hP fun k hk => ?_)
    rw [List.take_of_length_le (by rw [List.length_map]; exact Nat.le_refl _)]
    exact aft_all hA (by omega) (by omega)
def spLSum (K : PySem.W.Frag) : Sp := sp4 fun a b c d H Q => ∃ (f r yl tk : Addr) (ts : List T) (rows : List (List Qr.Row)) (ch ow : Nat) (ord : List Nat) (us ks : List V) (pzs : List Pz) (css : List (List Bool)), a = .ref f ∧ b = .ref r ∧ c = .ref yl ∧ d = .ref tk ∧
  FormG K H f ts rows ch ow ∧ SqL K H r (ord.map iv) ∧ Aft (nmOf ts) ord ∧ ord.length = ts.length ∧ SqL K H yl us ∧ RowsL K fP H us pzs ∧ (∀ pz ∈ pzs, (pz.map (·.1)).Nodup) ∧ SqT K H tk ks ∧ TvA K H ks (css.map tB) ∧ css.length = pzs.length ∧ (∀ bs ∈ css, bs.length = ch) ∧
  ∀ H' Ls, Ex H H' → HistAt rows ts (yrP rows) ((pzs.map psOf).zip css) Ls → Q (.int (sumO ow Ls)) H'
theorem k__law_sum (T : Tx K w mg) (c__law_reckoned : Cal P w K mg base "_law_reckoned" 10 p_law_reckoned (spLReck K)) : Cal P w K mg base "_law_sum" 11 p_law_sum (spLSum K) := by
  refine cal4 T.F__law_sum sc_law_sum b_law_sum rfl fun g cdv A outer s H a b c d Q E hr h => ?_
  obtain ⟨f, r, yl, tk, ts, rows, ch, ow, ord, us, ks, pzs, css, rfl, rfl, rfl, rfl, F, ho, hA, lord, hyl, hus, nds, htk, hks, lcs, hch, q⟩ := h
  refine ⟨_, (pss_cons (ps_set (i := 4) (sc_law_sum).nd rfl (by first | exact Or.inl rfl | exact Or.inr rfl) pe_int) (pss_cons (ps_set (i := 5) (sc_law_sum).nd rfl (by first | exact Or.inl rfl | exact Or.inr rfl) (pe_lst pa_nil)) (pss_cons (ps_for PassesOwn.never rfl (Qz.pi_zipLT (by rfl) T.m_zip (pa_cons (pv 2) (pa_cons (pv 3) pa_nil))) (pg_tup (n := 2) rfl (pgs_cons (pg_name (i := 6) (sc_law_sum).nd rfl (by first | exact Or.inl rfl | exact Or.inr rfl)) (pgs_cons (pg_name (i := 7) (sc_law_sum).nd rfl (by first | exact Or.inl rfl | exact Or.inr rfl)) pgs_nil))) (pss_cons (ps_set (i := 5) (sc_law_sum).nd rfl (by first | exact Or.inl rfl | exact Or.inr rfl) (pe_cal c__law_reckoned (hr.mono (by omega)) (pa_cons (pv 0) (pa_cons (pv 1) (pa_cons (pv 6) (pa_cons (pv 5) (pa_cons (pv 7) pa_nil))))))) (pss_one (ps_set (i := 4) (sc_law_sum).nd rfl (by first | exact Or.inl rfl | exact Or.inr rfl) (pe_op op_addA (pv 4) (pe_ix ix_seq (pv 5) (pe_ix ix_seq (pv 0) pe_int (fun _ _ => rfl)) (fun _ _ => rfl))))))) (pss_one (ps_ret (pv 4)))))), ?_⟩
  rw [t_law_sum]
  try dsimp only [cxOf, Cx.nox, Cx.wish]
  obtain ⟨lt, tt, vs, tvs, f1, f2, f3, f4, f5⟩ := F.at_.at_
  have lus : us.length = pzs.length := pd_len hus
  have lks : ks.length = css.length := by rw [hks.len, List.length_map]
  walk_at "rd"
  refine new_lst (hl := Nat.zero_le _) fun e1 H1 he1 E1 h1 => ?_
  walk_at "rd"
  refine Qz.rd_forLT ?_
  walk_at "rd"
  refine ⟨yl, tk, us, ks, rfl, sql_ex hyl E1, sqt_ex htk E1, ?_⟩
  refine Qz.forW_LT us ks (by omega) (fun i σ H' => ∃ (el : Addr) (Ls : List (List Int)) (y z : Option V), σ = [some (.ref f), some (.ref r), some (.ref yl), some (.ref tk), some (.int (sumO ow Ls)), some (.ref el), y, z] ∧ Ex H H' ∧ SqL K H' el ((prevL Ls i).map V.int) ∧ HistAt rows ts (yrP rows) (((pzs.map psOf).zip css).take i) Ls) ?_ ?_ ?_ ?_
  · exact ⟨e1, [], _, _, rfl, E1, .of h1, ⟨rfl, fun i p hp => (by cases hp)⟩⟩
  · rintro i σ H' ⟨_, _, _, _, _, e, _⟩
    exact ⟨sql_ex hyl e, sqt_ex htk e⟩
  · rintro i x y T0 σ H2 hx hy ⟨el, Ls, y1, z1, rfl, E2, hel, hH⟩ hT0
    obtain ⟨pz, hpz, pa, pvs, rfl, hpa, hpv⟩ := pd_getL hus hx
    obtain ⟨t, ht, tv⟩ := hks.getV hy
    rw [List.getElem?_map] at ht
    cases eb : css[i]? with
    | none => rw [eb] at ht; cases ht
    | some bs =>
    rw [eb] at ht
    cases (Option.some.inj ht)
    obtain ⟨ba, bvs, rfl, hba, hbv⟩ := tv.tupE
    obtain rfl := tva_blsE hbv
    have hi : i < pzs.length := (List.getElem?_eq_some_iff.mp hpz).1
    generalize eH : upd H2 T0 (.tup [.ref pa, .ref ba]) = H3
    have h3 : H3 T0 = some (.tup [.ref pa, .ref ba]) := by rw [← eH]; exact upd_same
    have E3 : Ex H2 H3 := by rw [← eH]; exact Evl.Ex.new hT0
    clear eH
    have E03 := E2.trans E3
    have lLs : Ls.length = i := by rw [hH.len, List.length_take, List.length_zip, List.length_map]; omega
    refine rd_gtup (.of h3) rfl ?_
    walk_at "rd"
    have pes : prevL Ls i = [] ∨ (prevL Ls i).length = ts.length := by
      unfold prevL
      by_cases e0 : i = 0
      · rw [if_pos e0]; exact .inl rfl
      · rw [if_neg e0]
        refine .inr (hH.each _ ?_)
        have hl : i - 1 < Ls.length := by omega
        rw [List.getD_eq_getElem?_getD, List.getElem?_eq_getElem hl]
        exact List.getElem_mem hl
    refine rd_sp5 ⟨f, r, pa, el, ba, ts, rows, ch, ow, ord, pvs, pz, prevL Ls i, bs, rfl, rfl, rfl, rfl, rfl, F.ex E03, sql_ex ho E03, hA, lord, sql_ex hpa E03, tva_ex hpv E03, nds pz (List.mem_of_getElem? hpz), sql_ex hel E3, pes, .inr (sqt_ex hba E03), hch bs (List.mem_of_getElem? eb), fun pL L H4 hpL E4 h4 hR => ?_⟩
    have E04 := E03.trans E4
    walk_at "rd"
    refine rd_ixT (sqt_ex f1 E04) (atI_nat (j := 3) rfl) ?_
    walk_at "rd"
    refine rd_ixL (.of h4) (atI_nat (ints_at (by rw [hR.len]; exact F.own))) ?_
    walk_at "rd"
    have et : ((pzs.map psOf).zip css).take (i + 1) = ((pzs.map psOf).zip css).take i ++ [(psOf pz, bs)] := by rw [List.take_add_one, zip_get (by rw [List.getElem?_map, hpz]; rfl) eb]; rfl
    refine ⟨pL, Ls ++ [L], _, _, by rw [sumO_snoc], E04, ?_, ?_⟩
    · have ep : prevL (Ls ++ [L]) (i + 1) = L := by
        unfold prevL
        rw [if_neg (by omega), Nat.add_sub_cancel, List.getD_eq_getElem?_getD, List.getElem?_append_right (by omega), lLs, Nat.sub_self]
        rfl
      rw [ep]
      exact .of h4
    · rw [et]
      refine hH.snoc ?_
      rw [lLs]
      show Reck (yrOf (psOf pz) (prevL Ls i) rows bs) ts L
      rw [yrOf_z (pzOf_psOf pz)]
      exact hR
  · rintro σ H2 ⟨el, Ls, y1, z1, rfl, E2, hel, hH⟩
    rw [List.take_of_length_le (by rw [List.length_zip, List.length_map]; omega)] at hH
    walk_at "rd"
    exact q H2 Ls E2 hH
theorem cut_in (xs : List V) (a b : Nat) : cutV xs (some (a : Int)) (some (b : Int)) = (xs.drop a).take (b - a) := by
  unfold cutV
  rw [HT.sIx_nat xs.length 0 a, HT.sIx_nat xs.length xs.length b]
  by_cases h : a ≤ xs.length
  · rw [Nat.min_eq_left h]
    by_cases h2 : b ≤ xs.length
    · rw [Nat.min_eq_left h2]
    · rw [Nat.min_eq_right (by omega), List.take_of_length_le (by rw [List.length_drop]; omega), List.take_of_length_le (by rw [List.length_drop]; omega)]
  · have e1 : xs.drop (min a xs.length) = [] := List.drop_eq_nil_of_le (by omega)
    have e2 : xs.drop a = [] := List.drop_eq_nil_of_le (by omega)
    rw [e1, e2, List.take_nil, List.take_nil]
def spLChoices (K : PySem.W.Frag) : Sp := sp3 fun a b c H Q => ∃ k ch n : Nat, a = .int k ∧ b = .int ch ∧ c = .int n ∧ ch ≤ 8 ∧ n ≤ 20 ∧ ∀ v H', Ex H H' → Tv K H' v (tBs (chunk ch n (bits (n * ch) k))) → Q v H'
theorem k__law_choices (T : Tx K w mg) : Cal P w K mg base "_law_choices" 1 p_law_choices (spLChoices K) := by
  refine cal3 T.F__law_choices sc_law_choices b_law_choices rfl fun g cdv A outer s H a b c Q E hr h => ?_
  obtain ⟨k, ch, n, rfl, rfl, rfl, hch, hn, q⟩ := h
  refine ⟨_, (pss_cons (ps_set (i := 3) (sc_law_choices).nd rfl (by first | exact Or.inl rfl | exact Or.inr rfl) (pe_lst pa_nil)) (pss_cons (ps_for PassesOwn.never rfl (pi_range1 (by rfl) T.m_range (pa_cons (pe_op op_mul (pv 1) (pv 2)) pa_nil)) (pg_name (i := 4) (sc_law_choices).nd rfl (by first | exact Or.inl rfl | exact Or.inr rfl)) (pss_cons (ps_set (i := 3) (sc_law_choices).nd rfl (by first | exact Or.inl rfl | exact Or.inr rfl) (pe_op op_addA (pe_lst (pa_cons (pe_cmpR (op_eqA hr) (pe_op op_mod (pv 0) pe_int) pe_int (nomark _)) pa_nil)) (pv 3))) (pss_one (ps_set (i := 0) (sc_law_choices).nd rfl (by first | exact Or.inl rfl | exact Or.inr rfl) (pe_op op_fdiv (pv 0) pe_int))))) (pss_one (ps_ret (pe_callTy cr_tupOf (by rfl) T.m_tuple (by decide +kernel) (pa_cons (pe_lc (own := [("_law_k", 4)]) rfl (sc_law_choices).nd (pi_range1 (by rfl) T.m_range (pa_cons (pv 2) pa_nil)) (blkOk_by (N := n_law_choices) (sc := defScope s_law_choices) (by decide +kernel)) (fun _ _ _ _ _ => (pg_name (i := 4) (sc_law_choices).nd rfl (by first | exact Or.inl rfl | exact Or.inr rfl))) (fun _ _ _ _ _ => pts_nil) (fun _ _ _ _ _ => (pe_callTy (Qw.tupOfK (K := K) rfl) (by rfl) T.m_tuple (by decide +kernel) (pa_cons (pe_slice (Qw.slK (K := K) rfl) (pv 3) (po_some (pe_op op_mul (pv 4) (pv 1))) (po_some (pe_op (addK' (K := K) rfl) (pe_op op_mul (pv 4) (pv 1)) (pv 1)))) pa_nil)))) pa_nil)))))), ?_⟩
  rw [t_law_choices]
  try dsimp only [cxOf, Cx.nox, Cx.wish]
  have hmul : ((ch : Nat) : Int) * ((n : Nat) : Int) = ((n * ch : Nat) : Int) := by rw [Nat.mul_comm]; simp
  have hnc : n * ch ≤ 20 * 8 := Nat.mul_le_mul hn hch
  walk_at "rd"
  refine new_lst (hl := Nat.zero_le _) fun l0 H1 hl0 E1 h1 => ?_
  walk_at "rd"
  rw [hmul, Int.toNat_natCast]
  refine forW_R (fun i σ H' => ∃ (tl : Addr) (y : Option V), σ = [some (.int ((k / 2 ^ i : Nat) : Int)), some (.int ch), some (.int n), some (.ref tl), y] ∧ Ex H H' ∧ H' tl = some (.lst ((bits i k).map V.bl))) ?_ ?_ ?_
  · exact ⟨l0, none, by rw [Nat.pow_zero, Nat.div_one], E1, h1⟩
  · rintro i σ H2 hi ⟨tl, y, rfl, E2, h2⟩
    walk_at "rd"
    refine new_lst fun l3 H3 hl3 E3 h3 => ?_
    walk_at "rd"
    refine rd_addL h3 (E3 _ _ h2) (by rw [List.length_map, bits_len]; show 1 + i ≤ 1000; omega) fun l4 H4 hl4 E4 h4 => ?_
    walk_at "rd"
    have e1 : ((k / 2 ^ i : Nat) : Int) / 2 = ((k / 2 ^ (i + 1) : Nat) : Int) := by
      rw [Nat.pow_succ, ← Nat.div_div_eq_div_mul]
      omega
    rw [e1]
    refine ⟨l4, _, rfl, E2.trans (E3.trans E4), ?_⟩
    · rw [h4, bits_front]
      have e2 : decide (((k / 2 ^ i : Nat) : Int) % 2 = 1) = decide (k / 2 ^ i % 2 = 1) := by
        congr 1
        rw [eq_iff_iff]
        omega
      rw [e2]
      rfl
  · rintro σ H2 ⟨tl, y, rfl, E2, h2⟩
    have hide : Ex H H2 ∧ True := ⟨E2, trivial⟩
    clear E2 E1
    walk_at "rd"
    obtain ⟨E2, _⟩ := hide
    rw [Int.toNat_natCast]
    refine lcW_R (fun D j H' => ∃ us, H' D = some (.lst us) ∧ TvA K H' us ((chunk ch j (bits (n * ch) k)).map tB) ∧ Ex H2 H') ?_ ?_ ?_
    · exact fun D H' hD e h => ⟨[], h, .nil, e⟩
    · rintro D j H3 hD hj ⟨us, h3, tv3, e3⟩
      rw [Int.zero_add]
      walk_at "lcn"
      walk_at "rd"
      have ea : ((j : Nat) : Int) * ((ch : Nat) : Int) = ((j * ch : Nat) : Int) := by simp
      have eb : ((j * ch : Nat) : Int) + ((ch : Nat) : Int) = ((j * ch + ch : Nat) : Int) := by simp
      rw [ea, eb]
      refine rd_slL (.of (e3 _ _ h2)) fun l4 H4 hl4 E4 h4 => ?_
      rw [cut_in, Nat.add_sub_cancel_left, ← List.map_drop, ← List.map_take] at h4
      walk_at "rd"
      refine rd_tupOfL (.of h4) fun t5 H5 ht5 E5 h5 => ?_
      have h35 := (E4.trans E5) _ _ h3
      have lus : us.length ≤ 20 := by rw [tv3.len, List.length_map, Qy.chunk_len]; omega
      refine ⟨us, h35, by rw [sizeLine_eq]; omega, us ++ [.ref t5], upd_same, ?_, ex_new hD (e3.trans (E4.trans E5))⟩
      have ec : chunk ch (j + 1) (bits (n * ch) k) = chunk ch j (bits (n * ch) k) ++ [((bits (n * ch) k).drop (j * ch)).take ch] := by
        unfold chunk
        rw [List.range_succ, List.map_append]
        rfl
      rw [ec, List.map_append]
      exact (Tame.upd h35).tvA ((tva_ex tv3 (E4.trans E5)).append (.one (.tup (.of h5) (tva_bls _))))
    rintro D H3 hD ⟨us, h3, tv3, e3⟩
    walk_at "rd"
    refine rd_tupOfL (.of h3) fun t4 H4 ht4 E4 h4 => ?_
    exact q _ H4 (E2.trans (e3.trans E4)) (.tup (.of h4) (tva_ex tv3 E4))
theorem sums_uniq {sz : Sz} {rows : List (List Qr.Row)} {ts : List T} {ow ch : Nat} {ps : List Ps} {zs zs' : List ZX} (hr : ∀ t ∈ ts, isRule sz 8 t = true) (hz : sz.l = ts.length) (ha : Acyc (nmOf ts)) (h : Sums rows ts ow ch ps zs) (h' : Sums rows ts ow ch ps zs') : zs = zs' := by
  have e := h.all.trans h'.all.symm
  have len : zs.length = zs'.length := by simpa using congrArg List.length e
  refine List.ext_getElem len fun i h1 h2 => ?_
  have e1 : (zs[i]).1 = (zs'[i]).1 := by
    have := congrArg (fun l => l[i]?) e
    simpa [List.getElem?_map, List.getElem?_eq_getElem h1, List.getElem?_eq_getElem h2] using this
  obtain ⟨Ls, a1, a2⟩ := h.each _ (List.getElem_mem h1)
  obtain ⟨Ls', b1, b2⟩ := h'.each _ (List.getElem_mem h2)
  rw [← e1] at b1
  have := hist_uniq hr hz ha a1 b1
  subst this
  exact Prod.ext e1 (a2.trans b2.symm)
def spLAll (K : PySem.W.Frag) : Sp := sp2 fun a b H Q => ∃ (f yl : Addr) (ts : List T) (rows : List (List Qr.Row)) (ch ow : Nat) (us : List V) (pzs : List Pz), a = .ref f ∧ b = .ref yl ∧ FormG K H f ts rows ch ow ∧ SqL K H yl us ∧ RowsL K fP H us pzs ∧ (∀ pz ∈ pzs, (pz.map (·.1)).Nodup) ∧ ch * pzs.length ≤ 8 ∧ pzs.length ≤ 20 ∧
  ∀ p H' us' zs, H p = none → Ex H H' → H' p = some (.lst us') → TvA K H' us' (zs.map pS) → Sums rows ts ow ch (pzs.map psOf) zs → Q (.ref p) H'
theorem k__law_all (T : Tx K w mg) (c__law_row : Cal P w K mg base "_law_row" 10 p_law_row (spLRow K)) (c__law_choices : Cal P w K mg base "_law_choices" 1 p_law_choices (spLChoices K)) (c__law_sum : Cal P w K mg base "_law_sum" 11 p_law_sum (spLSum K)) : Cal P w K mg base "_law_all" 12 p_law_all (spLAll K) := by
  refine cal2 T.F__law_all sc_law_all b_law_all rfl fun g cdv A outer s H a b Q E hr h => ?_
  obtain ⟨f, yl, ts, rows, ch, ow, us, pzs, rfl, rfl, F, hyl, hus, nds, h8, h20, q⟩ := h
  refine ⟨_, (pss_cons (ps_set (i := 2) (sc_law_all).nd rfl (by first | exact Or.inl rfl | exact Or.inr rfl) (pe_cal c__law_row (hr.mono (by omega)) (pa_cons (pe_ix ix_seq (pv 0) pe_int (fun _ _ => rfl)) pa_nil))) (pss_cons (ps_set (i := 3) (sc_law_all).nd rfl (by first | exact Or.inl rfl | exact Or.inr rfl) (pe_lst pa_nil)) (pss_cons (ps_set (i := 4) (sc_law_all).nd rfl (by first | exact Or.inl rfl | exact Or.inr rfl) pe_int) (pss_cons (ps_for PassesOwn.never rfl (pi_range1 (by rfl) T.m_range (pa_cons (pe_op op_mul (pe_ix ix_seq (pv 0) pe_int (fun _ _ => rfl)) (pe_callB cr_lenA (by rfl) T.m_len (by decide +kernel) (pa_cons (pv 1) pa_nil))) pa_nil)) (pg_name (i := 5) (sc_law_all).nd rfl (by first | exact Or.inl rfl | exact Or.inr rfl)) (pss_one (ps_set (i := 4) (sc_law_all).nd rfl (by first | exact Or.inl rfl | exact Or.inr rfl) (pe_op op_mul (pv 4) pe_int)))) (pss_cons (ps_for PassesOwn.never rfl (pi_range1 (by rfl) T.m_range (pa_cons (pv 4) pa_nil)) (pg_name (i := 6) (sc_law_all).nd rfl (by first | exact Or.inl rfl | exact Or.inr rfl)) (pss_cons (ps_set (i := 7) (sc_law_all).nd rfl (by first | exact Or.inl rfl | exact Or.inr rfl) (pe_cal c__law_choices (hr.mono (by omega)) (pa_cons (pv 6) (pa_cons (pe_ix ix_seq (pv 0) pe_int (fun _ _ => rfl)) (pa_cons (pe_callB cr_lenA (by rfl) T.m_len (by decide +kernel) (pa_cons (pv 1) pa_nil)) pa_nil))))) (pss_one (ps_expr (pe_bm PySem.F.plainAttrs_list PySem.F.slot_list_append PySem.F.type_list_append mt_append (pv 3) (pa_cons (pe_tup (pa_cons (pv 7) (pa_cons (pe_cal c__law_sum (hr.mono (by omega)) (pa_cons (pv 0) (pa_cons (pv 2) (pa_cons (pv 1) (pa_cons (pv 7) pa_nil))))) pa_nil))) pa_nil)))))) (pss_one (ps_ret (pv 3)))))))), ?_⟩
  rw [t_law_all]
  try dsimp only [cxOf, Cx.nox, Cx.wish]
  obtain ⟨lt, tt, vs, tvs, f1, f2, f3, f4, f5⟩ := F.at_.at_
  have lus : us.length = pzs.length := pd_len hus
  have hch := F.chf
  have hmul : ((ch : Nat) : Int) * ((pzs.length : Nat) : Int) = ((ch * pzs.length : Nat) : Int) := by simp
  walk_at "rd"
  refine rd_ixT f1 (atI_nat (j := 0) rfl) ?_
  walk_at "rd"
  refine rd_sp1 ⟨lt, vs, ts, ⟨ts.length, rows.length, ch⟩, rfl, f2, f3, F.rule, rfl, F.few.2, F.acyc, fun r H1 ord hr1 E1 h1 hA lord => ?_⟩
  walk_at "rd"
  refine new_lst (hl := Nat.zero_le _) fun fl H2 hfl E2 h2 => ?_
  have E02 := E1.trans E2
  have hflH : H fl = none := free_of E1 hfl
  walk_at "rd"
  refine rd_ixT (sqt_ex f1 E02) (atI_nat (j := 2) rfl) ?_
  walk_at "rd"
  refine rd_lenL (sql_ex hyl E02) ?_
  rw [lus]
  walk_at "rd"
  rw [hmul, Int.toNat_natCast]
  refine forW_R (fun i σ H' => ∃ (y z x : Option V), σ = [some (.ref f), some (.ref yl), some (.ref r), some (.ref fl), some (.int ((2 ^ i : Nat) : Int)), y, z, x] ∧ H' = H2) ?_ ?_ ?_
  · exact ⟨_, _, _, rfl, rfl⟩
  · rintro i σ H' hi ⟨y, z, x, rfl, rfl⟩
    have hp : 2 ^ i ≤ 2 ^ 8 := Nat.pow_le_pow_right (by decide) (by omega)
    walk_at "rd"
    have e : ((2 ^ i : Nat) : Int) * 2 = ((2 ^ (i + 1) : Nat) : Int) := by rw [Nat.pow_succ]; simp
    rw [e]
    exact ⟨_, _, _, rfl, rfl⟩
  rintro σ H' ⟨y, z, x, rfl, rfl⟩
  have hp : 2 ^ (ch * pzs.length) ≤ 2 ^ 8 := Nat.pow_le_pow_right (by decide) h8
  walk_at "rd"
  have hp0 := Int.natCast_nonneg (2 ^ (ch * pzs.length))
  have hp1 : ((2 ^ (ch * pzs.length) : Nat) : Int) ≤ 256 := Int.ofNat_le.mpr hp
  refine ⟨((2 ^ (ch * pzs.length) : Nat) : Int), rfl, Int.le_trans (by decide) hp0, Int.lt_of_le_of_lt hp1 (by decide), ?_⟩
  rw [Int.toNat_natCast]
  have all : ∀ i, i < 2 ^ (ch * pzs.length) → (chs ch pzs.length)[i]? = some (chunk ch pzs.length (bits (pzs.length * ch) i)) := fun i hi => by
    rw [chs_eq, List.getElem?_map, List.getElem?_range (by rw [Nat.mul_comm pzs.length]; exact hi)]
    rfl
  refine forW_R (fun i σ H' => ∃ (us' : List V) (zs : List ZX) (y z x : Option V), σ = [some (.ref f), some (.ref yl), some (.ref r), some (.ref fl), some (.int ((2 ^ (ch * pzs.length) : Nat) : Int)), y, z, x] ∧ Ex H H' ∧ H' fl = some (.lst us') ∧ H' r = some (.lst (ord.map iv)) ∧ TvA K H' us' (zs.map pS) ∧
    zs.map (·.1) = (chs ch pzs.length).take i ∧ ∀ z ∈ zs, ∃ Ls, HistAt rows ts (yrP rows) ((pzs.map psOf).zip z.1) Ls ∧ z.2 = sumO ow Ls) ?_ ?_ ?_
  · exact ⟨[], [], _, _, _, rfl, E02, h2, E2 _ _ h1, .nil, by simp, fun z hz => (by cases hz)⟩
  · rintro i σ H3 hi ⟨us', zs, y, z, x, rfl, E3, h3, hr3, tv3, hall, heach⟩
    rw [Int.zero_add]
    have nrf : r ≠ fl := by rintro rfl; rw [h1] at hfl; cases hfl
    walk_at "rd"
    refine rd_ixT (sqt_ex f1 E3) (atI_nat (j := 2) rfl) ?_
    walk_at "rd"
    refine rd_lenL (sql_ex hyl E3) ?_
    rw [lus]
    walk_at "rd"
    refine rd_sp3 ⟨i, ch, pzs.length, rfl, rfl, rfl, hch, h20, fun v H4 E4 tv4 => ?_⟩
    have E04 := E3.trans E4
    obtain ⟨ca, cvs, rfl, hca, hcv⟩ := tv4.tupE
    have hfl4 : SqL K H4 fl us' := .of (E4 _ _ h3)
    have hmem : chunk ch pzs.length (bits (pzs.length * ch) i) ∈ chs ch pzs.length := List.mem_of_getElem? (all i hi)
    obtain ⟨cl, cr⟩ := chs_each hmem
    walk_at "rd"
    refine rd_sp4 ⟨f, r, yl, ca, ts, rows, ch, ow, ord, us, cvs, pzs, _, rfl, rfl, rfl, rfl, F.ex E04, .of (E4 _ _ hr3), hA, lord, sql_ex hyl E04, rows_ex hus E04, nds, hca, hcv, cl, cr, fun H5 Ls E5 hH => ?_⟩
    walk_at "rd"
    refine new_tup fun t6 H6 ht6 E6 h6 => ?_
    have E36 := E4.trans (E5.trans E6)
    have h36 := E36 _ _ h3
    have lz : zs.length = i := by
      have := congrArg List.length hall
      rw [List.length_map, List.length_take, chs_len, Nat.mul_comm pzs.length] at this
      omega
    have lus' : us'.length ≤ 256 := by rw [tv3.len, List.length_map]; omega
    walk_at "rd"
    refine rd_append h36 (by omega) ?_
    walk_at "rd"
    refine ⟨us' ++ [.ref t6], zs ++ [(chunk ch pzs.length (bits (pzs.length * ch) i), sumO ow Ls)], _, _, _, rfl, ex_new hflH (E3.trans E36), upd_same, by rw [upd_ne nrf]; exact E36 _ _ hr3, ?_, ?_, ?_⟩
    · rw [List.map_append]
      exact (Tame.upd h36).tvA ((tva_ex tv3 E36).append (.one (.tup (.of h6) (.cons (tv_ex tv4 (E5.trans E6)) (.cons (.int _) .nil)))))
    · rw [List.map_append, hall, List.take_add_one, all i hi]
      rfl
    · intro z hz
      rcases List.mem_append.mp hz with hz | hz
      · exact heach z hz
      · rw [List.mem_singleton.mp hz]
        exact ⟨Ls, hH, rfl⟩
  · rintro σ H3 ⟨us', zs, y, z, x, rfl, E3, h3, hr3, tv3, hall, heach⟩
    walk_at "rd"
    refine q fl H3 us' zs hflH E3 h3 tv3 ⟨?_, heach⟩
    rw [hall, List.length_map, List.take_of_length_le (by rw [chs_len, Nat.mul_comm]; exact Nat.le_refl _)]
end
end KF
open PySem PySem.Spec PyProof.Rows L2 Qa Qr
open Qg Qe Qi Qm Qw Qy


namespace KF
section
variable {P : Program} {w : World} {K : PySem.W.Frag} {mg : Str → Option Value} {base : Heap} {H : Hp} {Q : VK} {E : XK}
/-- which errors may come here -/
def kindsX : List Str := ["TooMany", "NoPaper"]
def OfKind (mg : Str → Option Value) (cls : Value) (d : Option Addr) : Prop := d = none ∧ ∃ x ∈ kindsX, cls = .ref (clsA mg x)
def spAlone : Addr → Sp := fun a => sp1 fun b H Q => b = .ref a ∧ Q (.bl true) H
theorem rd_isE {D a : Addr} {c : V} {cv : Value} {b : Bool} {H : Hp} {Q : VK} (hc : ∀ u, RelV c u → u = cv) (e : PySem.W.kitOne K (.ref D) cv = some b) (q : Q (.bl b) H) : rIsE K D a [.ref a, c] H Q := ⟨c, cv, b, rfl, hc, e, q⟩
theorem relv_ty {n : String} : ∀ u, RelV (.ty n) u → u = .type n := fun _ h => h
theorem relv_ref {a : Addr} : ∀ u, RelV (.ref a) u → u = .ref a := fun _ h => h
theorem k__law_alone (T : Tx K w mg) : CalE (OfKind mg) P w K mg base "_law_alone" 1 p_law_alone spAlone := by
  refine calE_mk T.F__law_alone sc_law_alone b_law_alone (fun a vs H Q E h => by obtain ⟨b, rfl, _⟩ := h; rfl) fun f cdv A outer s H vs Q E p cls d hz hf hy hr h => ?_
  obtain ⟨b, rfl, rfl, q⟩ := h
  obtain ⟨rfl, x, hx, rfl⟩ := hy
  simp only [kindsX, List.mem_cons, List.not_mem_nil, or_false] at hx
  rcases hx with rfl | rfl
  · refine ⟨_, (pss_cons (ps_set (i := 1) (sc_law_alone).nd rfl (by first | exact Or.inl rfl | exact Or.inr rfl) (pe_op op_addA (pe_op op_addA (pe_callTy cr_int1 (by rfl) T.m_int (by decide +kernel) (pa_cons (pe_callB (Qe.call_isP T.exc_TooMany List.mem_cons_self hz hf) (by rfl) T.m_isinstance (by decide +kernel) (pa_cons (pv 0) (pa_cons (pe_glob rfl T.err_NoTable.gC (show RelV (.ref (Qe.clsA mg "NoTable")) (.ref (Qe.clsA mg "NoTable")) from rfl)) pa_nil))) pa_nil)) (pe_callTy cr_int1 (by rfl) T.m_int (by decide +kernel) (pa_cons (pe_callB (Qe.call_isP T.exc_TooMany List.mem_cons_self hz hf) (by rfl) T.m_isinstance (by decide +kernel) (pa_cons (pv 0) (pa_cons (pe_glob rfl T.err_NoForm.gC (show RelV (.ref (Qe.clsA mg "NoForm")) (.ref (Qe.clsA mg "NoForm")) from rfl)) pa_nil))) pa_nil))) (pe_callTy cr_int1 (by rfl) T.m_int (by decide +kernel) (pa_cons (pe_callB (Qe.call_isP T.exc_TooMany List.mem_cons_self hz hf) (by rfl) T.m_isinstance (by decide +kernel) (pa_cons (pv 0) (pa_cons (pe_glob rfl T.err_NoRule.gC (show RelV (.ref (Qe.clsA mg "NoRule")) (.ref (Qe.clsA mg "NoRule")) from rfl)) pa_nil))) pa_nil)))) (pss_cons (ps_set (i := 1) (sc_law_alone).nd rfl (by first | exact Or.inl rfl | exact Or.inr rfl) (pe_op op_addA (pe_op op_addA (pe_op op_addA (pv 1) (pe_callTy cr_int1 (by rfl) T.m_int (by decide +kernel) (pa_cons (pe_callB (Qe.call_isP T.exc_TooMany List.mem_cons_self hz hf) (by rfl) T.m_isinstance (by decide +kernel) (pa_cons (pv 0) (pa_cons (pe_glob rfl T.err_Ring.gC (show RelV (.ref (Qe.clsA mg "Ring")) (.ref (Qe.clsA mg "Ring")) from rfl)) pa_nil))) pa_nil))) (pe_callTy cr_int1 (by rfl) T.m_int (by decide +kernel) (pa_cons (pe_callB (Qe.call_isP T.exc_TooMany List.mem_cons_self hz hf) (by rfl) T.m_isinstance (by decide +kernel) (pa_cons (pv 0) (pa_cons (pe_glob rfl T.err_NoPaper.gC (show RelV (.ref (Qe.clsA mg "NoPaper")) (.ref (Qe.clsA mg "NoPaper")) from rfl)) pa_nil))) pa_nil))) (pe_callTy cr_int1 (by rfl) T.m_int (by decide +kernel) (pa_cons (pe_callB (Qe.call_isP T.exc_TooMany List.mem_cons_self hz hf) (by rfl) T.m_isinstance (by decide +kernel) (pa_cons (pv 0) (pa_cons (pe_glob rfl T.err_NoYear.gC (show RelV (.ref (Qe.clsA mg "NoYear")) (.ref (Qe.clsA mg "NoYear")) from rfl)) pa_nil))) pa_nil)))) (pss_cons (ps_set (i := 1) (sc_law_alone).nd rfl (by first | exact Or.inl rfl | exact Or.inr rfl) (pe_op op_addA (pe_op op_addA (pe_op op_addA (pv 1) (pe_callTy cr_int1 (by rfl) T.m_int (by decide +kernel) (pa_cons (pe_callB (Qe.call_isP T.exc_TooMany List.mem_cons_self hz hf) (by rfl) T.m_isinstance (by decide +kernel) (pa_cons (pv 0) (pa_cons (pe_glob rfl T.err_NoLine.gC (show RelV (.ref (Qe.clsA mg "NoLine")) (.ref (Qe.clsA mg "NoLine")) from rfl)) pa_nil))) pa_nil))) (pe_callTy cr_int1 (by rfl) T.m_int (by decide +kernel) (pa_cons (pe_callB (Qe.call_isP T.exc_TooMany List.mem_cons_self hz hf) (by rfl) T.m_isinstance (by decide +kernel) (pa_cons (pv 0) (pa_cons (pe_glob rfl T.err_NoChoice.gC (show RelV (.ref (Qe.clsA mg "NoChoice")) (.ref (Qe.clsA mg "NoChoice")) from rfl)) pa_nil))) pa_nil))) (pe_callTy cr_int1 (by rfl) T.m_int (by decide +kernel) (pa_cons (pe_callB (Qe.call_isP T.exc_TooMany List.mem_cons_self hz hf) (by rfl) T.m_isinstance (by decide +kernel) (pa_cons (pv 0) (pa_cons (pe_glob rfl T.err_TooMany.gC (show RelV (.ref (Qe.clsA mg "TooMany")) (.ref (Qe.clsA mg "TooMany")) from rfl)) pa_nil))) pa_nil)))) (pss_one (ps_ret (pe_and (pe_cmpR op_eq (pv 1) pe_int (nomark _)) (pe_one (pe_callB (Qe.call_isP T.exc_TooMany List.mem_cons_self hz hf) (by rfl) T.m_isinstance (by decide +kernel) (pa_cons (pv 0) (pa_cons (pe_ty (n := "ValueError") T.m_ValueError (by decide +kernel)) pa_nil)))))))))), ?_⟩
    rw [t_law_alone]
    try dsimp only [L2H.cxH, cxOf, Cx.nox, Cx.wish]
    walk_at "rd"
    refine rd_isE relv_ref T.kit_TooMany_NoTable ?_
    walk_at "rd"
    refine rd_isE relv_ref T.kit_TooMany_NoForm ?_
    walk_at "rd"
    refine rd_isE relv_ref T.kit_TooMany_NoRule ?_
    walk_at "rd"
    refine rd_isE relv_ref T.kit_TooMany_Ring ?_
    walk_at "rd"
    refine rd_isE relv_ref T.kit_TooMany_NoPaper ?_
    walk_at "rd"
    refine rd_isE relv_ref T.kit_TooMany_NoYear ?_
    walk_at "rd"
    refine rd_isE relv_ref T.kit_TooMany_NoLine ?_
    walk_at "rd"
    refine rd_isE relv_ref T.kit_TooMany_NoChoice ?_
    walk_at "rd"
    refine rd_isE relv_ref T.kit_TooMany_TooMany ?_
    walk_at "rd"
    refine ⟨rfl, _, rfl, ?_⟩
    rw [if_pos (by decide)]
    walk_at "rd"
    refine rd_isE relv_ty T.kit_TooMany_ValueError ?_
    walk_at "rd"
    exact q
  · refine ⟨_, (pss_cons (ps_set (i := 1) (sc_law_alone).nd rfl (by first | exact Or.inl rfl | exact Or.inr rfl) (pe_op op_addA (pe_op op_addA (pe_callTy cr_int1 (by rfl) T.m_int (by decide +kernel) (pa_cons (pe_callB (Qe.call_isP T.exc_NoPaper List.mem_cons_self hz hf) (by rfl) T.m_isinstance (by decide +kernel) (pa_cons (pv 0) (pa_cons (pe_glob rfl T.err_NoTable.gC (show RelV (.ref (Qe.clsA mg "NoTable")) (.ref (Qe.clsA mg "NoTable")) from rfl)) pa_nil))) pa_nil)) (pe_callTy cr_int1 (by rfl) T.m_int (by decide +kernel) (pa_cons (pe_callB (Qe.call_isP T.exc_NoPaper List.mem_cons_self hz hf) (by rfl) T.m_isinstance (by decide +kernel) (pa_cons (pv 0) (pa_cons (pe_glob rfl T.err_NoForm.gC (show RelV (.ref (Qe.clsA mg "NoForm")) (.ref (Qe.clsA mg "NoForm")) from rfl)) pa_nil))) pa_nil))) (pe_callTy cr_int1 (by rfl) T.m_int (by decide +kernel) (pa_cons (pe_callB (Qe.call_isP T.exc_NoPaper List.mem_cons_self hz hf) (by rfl) T.m_isinstance (by decide +kernel) (pa_cons (pv 0) (pa_cons (pe_glob rfl T.err_NoRule.gC (show RelV (.ref (Qe.clsA mg "NoRule")) (.ref (Qe.clsA mg "NoRule")) from rfl)) pa_nil))) pa_nil)))) (pss_cons (ps_set (i := 1) (sc_law_alone).nd rfl (by first | exact Or.inl rfl | exact Or.inr rfl) (pe_op op_addA (pe_op op_addA (pe_op op_addA (pv 1) (pe_callTy cr_int1 (by rfl) T.m_int (by decide +kernel) (pa_cons (pe_callB (Qe.call_isP T.exc_NoPaper List.mem_cons_self hz hf) (by rfl) T.m_isinstance (by decide +kernel) (pa_cons (pv 0) (pa_cons (pe_glob rfl T.err_Ring.gC (show RelV (.ref (Qe.clsA mg "Ring")) (.ref (Qe.clsA mg "Ring")) from rfl)) pa_nil))) pa_nil))) (pe_callTy cr_int1 (by rfl) T.m_int (by decide +kernel) (pa_cons (pe_callB (Qe.call_isP T.exc_NoPaper List.mem_cons_self hz hf) (by rfl) T.m_isinstance (by decide +kernel) (pa_cons (pv 0) (pa_cons (pe_glob rfl T.err_NoPaper.gC (show RelV (.ref (Qe.clsA mg "NoPaper")) (.ref (Qe.clsA mg "NoPaper")) from rfl)) pa_nil))) pa_nil))) (pe_callTy cr_int1 (by rfl) T.m_int (by decide +kernel) (pa_cons (pe_callB (Qe.call_isP T.exc_NoPaper List.mem_cons_self hz hf) (by rfl) T.m_isinstance (by decide +kernel) (pa_cons (pv 0) (pa_cons (pe_glob rfl T.err_NoYear.gC (show RelV (.ref (Qe.clsA mg "NoYear")) (.ref (Qe.clsA mg "NoYear")) from rfl)) pa_nil))) pa_nil)))) (pss_cons (ps_set (i := 1) (sc_law_alone).nd rfl (by first | exact Or.inl rfl | exact Or.inr rfl) (pe_op op_addA (pe_op op_addA (pe_op op_addA (pv 1) (pe_callTy cr_int1 (by rfl) T.m_int (by decide +kernel) (pa_cons (pe_callB (Qe.call_isP T.exc_NoPaper List.mem_cons_self hz hf) (by rfl) T.m_isinstance (by decide +kernel) (pa_cons (pv 0) (pa_cons (pe_glob rfl T.err_NoLine.gC (show RelV (.ref (Qe.clsA mg "NoLine")) (.ref (Qe.clsA mg "NoLine")) from rfl)) pa_nil))) pa_nil))) (pe_callTy cr_int1 (by rfl) T.m_int (by decide +kernel) (pa_cons (pe_callB (Qe.call_isP T.exc_NoPaper List.mem_cons_self hz hf) (by rfl) T.m_isinstance (by decide +kernel) (pa_cons (pv 0) (pa_cons (pe_glob rfl T.err_NoChoice.gC (show RelV (.ref (Qe.clsA mg "NoChoice")) (.ref (Qe.clsA mg "NoChoice")) from rfl)) pa_nil))) pa_nil))) (pe_callTy cr_int1 (by rfl) T.m_int (by decide +kernel) (pa_cons (pe_callB (Qe.call_isP T.exc_NoPaper List.mem_cons_self hz hf) (by rfl) T.m_isinstance (by decide +kernel) (pa_cons (pv 0) (pa_cons (pe_glob rfl T.err_TooMany.gC (show RelV (.ref (Qe.clsA mg "TooMany")) (.ref (Qe.clsA mg "TooMany")) from rfl)) pa_nil))) pa_nil)))) (pss_one (ps_ret (pe_and (pe_cmpR op_eq (pv 1) pe_int (nomark _)) (pe_one (pe_callB (Qe.call_isP T.exc_NoPaper List.mem_cons_self hz hf) (by rfl) T.m_isinstance (by decide +kernel) (pa_cons (pv 0) (pa_cons (pe_ty (n := "ValueError") T.m_ValueError (by decide +kernel)) pa_nil)))))))))), ?_⟩
    rw [t_law_alone]
    try dsimp only [L2H.cxH, cxOf, Cx.nox, Cx.wish]
    walk_at "rd"
    refine rd_isE relv_ref T.kit_NoPaper_NoTable ?_
    walk_at "rd"
    refine rd_isE relv_ref T.kit_NoPaper_NoForm ?_
    walk_at "rd"
    refine rd_isE relv_ref T.kit_NoPaper_NoRule ?_
    walk_at "rd"
    refine rd_isE relv_ref T.kit_NoPaper_Ring ?_
    walk_at "rd"
    refine rd_isE relv_ref T.kit_NoPaper_NoPaper ?_
    walk_at "rd"
    refine rd_isE relv_ref T.kit_NoPaper_NoYear ?_
    walk_at "rd"
    refine rd_isE relv_ref T.kit_NoPaper_NoLine ?_
    walk_at "rd"
    refine rd_isE relv_ref T.kit_NoPaper_NoChoice ?_
    walk_at "rd"
    refine rd_isE relv_ref T.kit_NoPaper_TooMany ?_
    walk_at "rd"
    refine ⟨rfl, _, rfl, ?_⟩
    rw [if_pos (by decide)]
    walk_at "rd"
    refine rd_isE relv_ty T.kit_NoPaper_ValueError ?_
    walk_at "rd"
    exact q
/-- years of which some are refused -/
structure Bad (K : PySem.W.Frag) (H : Hp) (f yl : Addr) (ts : List T) (rows : List (List Qr.Row)) (ch ow : Nat) (us : List V) (ps : List Ps) : Prop where
  form : FormG K H f ts rows ch ow
  yl_ : SqL K H yl us
  rows_ : RowsL K psT H us ps
  each : ∀ p ∈ ps, p.length ≤ 1000
  few : ps.length ≤ 20
  bad : 8 < ch * ps.length ∨ ∃ p ∈ ps, papOk p [] = false
theorem Bad.ex {H H' : Hp} {f yl : Addr} {ts : List T} {rows : List (List Qr.Row)} {ch ow : Nat} {us : List V} {ps : List Ps} (b : Bad K H f yl ts rows ch ow us ps) (e : Ex H H') : Bad K H' f yl ts rows ch ow us ps :=
  ⟨b.form.ex e, sql_ex b.yl_ e, rows_ex b.rows_ e, b.each, b.few, b.bad⟩
def wordX (ch n : Nat) : Str := if 8 < ch * n then "many" else "paper"
theorem bad_sums {H : Hp} {f yl : Addr} {ts : List T} {rows : List (List Qr.Row)} {ch ow : Nat} {us : List V} {ps : List Ps} (b : Bad K H f yl ts rows ch ow us ps) {R : VK} {E : XK} (h1 : 8 < ch * ps.length → ∀ H', Ex H H' → E (.ref (clsA mg "TooMany")) none H')
    (h2 : ¬ 8 < ch * ps.length → ∀ H', Ex H H' → E (.ref (clsA mg "NoPaper")) none H') : spSumsX K mg [.ref f, .ref yl] H R E :=
  rd_spX2 ⟨f, yl, ts, rows, ch, ow, us, ps, rfl, rfl, b.form, b.yl_, b.rows_, b.each, b.few, h1, fun h8 => ⟨fun _ => h2 (by omega), fun ok => by
    rcases b.bad with z | ⟨p, hp, z⟩
    · omega
    · rw [ok p hp] at z; cases z⟩⟩
theorem bad_least {PL : Addr} {H : Hp} {f yl : Addr} {ts : List T} {rows : List (List Qr.Row)} {ch ow : Nat} {us : List V} {ps : List Ps} (b : Bad K H f yl ts rows ch ow us ps) (hP : H PL = some (.tbl #[])) {R : VK} {E : XK} (h1 : 8 < ch * ps.length → ∀ H', Ex H H' → E (.ref (clsA mg "TooMany")) none H')
    (h2 : ¬ 8 < ch * ps.length → ∀ H', Ex H H' → E (.ref (clsA mg "NoPaper")) none H') : spLeastX K mg PL [.ref f, .ref yl] H R E :=
  rd_spX2 ⟨f, yl, ts, rows, ch, ow, us, ps, rfl, rfl, b.form, b.yl_, b.rows_, b.each, b.few, hP, h1, fun h8 => ⟨fun _ => h2 (by omega), fun ok => by
    rcases b.bad with z | ⟨p, hp, z⟩
    · omega
    · rw [ok p hp] at z; cases z⟩⟩
def spTried (K : PySem.W.Frag) (PL : Addr) : Sp := sp3 fun a b c H Q => ∃ (f yl : Addr) (way : Int) (ts : List T) (rows : List (List Qr.Row)) (ch ow : Nat) (us : List V) (ps : List Ps), a = .ref f ∧ b = .ref yl ∧ c = .int way ∧ Bad K H f yl ts rows ch ow us ps ∧ H PL = some (.tbl #[]) ∧ ∀ H', Ex H H' → Q (.str (wordX ch ps.length)) H'
theorem k__law_tried {PL : Addr} (T : Tx K w mg) (c_sums : CalX P w K mg base "sums" 13 psums (spSumsX K mg)) (c_least : CalX P w K mg base "least" 14 pleast (spLeastX K mg PL)) : Cal P w K mg base "_law_tried" 15 p_law_tried (spTried K PL) := by
  refine cal3 T.F__law_tried sc_law_tried b_law_tried rfl fun g cdv A outer s H a b c Q E hr h => ?_
  obtain ⟨f, yl, way, ts, rows, ch, ow, us, ps, rfl, rfl, rfl, B, hP, q⟩ := h
  refine ⟨_, (pss_cons (ps_try_many rfl rfl takes0 (fun W pn xe tk pw => (pss_one (ps_if (pt_cmpR (eqK (K := K) rfl hr) (pv 2) pe_int (nomark _)) (pss_one (ps_expr (Qe.pe_calX c_sums (hr.mono (by omega)) tk (pa_cons (pv 0) (pa_cons (pv 1) pa_nil))))) (pss_one (ps_expr (Qe.pe_calX c_least (hr.mono (by omega)) tk (pa_cons (pv 0) (pa_cons (pv 1) pa_nil)))))))) (HdsOk.cons ⟨rfl, by decide, .inl T.err_TooMany.gC⟩ (fun a oe cls d pn hz hf => (pss_one (ps_ret pe_str))) (HdsOk.cons ⟨rfl, by decide, .inl T.err_NoPaper.gC⟩ (fun a oe cls d pn hz hf => (pss_one (ps_ret pe_str))) HdsOk.nil))) (pss_one (ps_ret pe_str))), ?_⟩
  rw [t_law_tried]
  try dsimp only [cxOf, Cx.nox, Cx.wish]
  unfold wordX at q
  walk_at "rd"
  refine rd_ite (fun h => ?_) (fun h => ?_)
  · walk_at "rd"
    refine bad_sums B (fun h8 H1 E1 => ?_) (fun h8 H1 E1 => ?_)
    · rw [if_pos h8] at q
      refine ⟨true, T.sub_TooMany_TooMany, fun _ a0 ha0 => ?_, fun z => Bool.noConfusion z⟩
      walk_at "rd"
      exact q H1 E1
    · rw [if_neg h8] at q
      refine ⟨false, T.sub_NoPaper_TooMany, fun z => Bool.noConfusion z, fun _ => ⟨true, T.sub_NoPaper_NoPaper, fun _ a0 ha0 => ?_, fun z => Bool.noConfusion z⟩⟩
      walk_at "rd"
      exact q H1 E1
  · walk_at "rd"
    refine bad_least B hP (fun h8 H1 E1 => ?_) (fun h8 H1 E1 => ?_)
    · rw [if_pos h8] at q
      refine ⟨true, T.sub_TooMany_TooMany, fun _ a0 ha0 => ?_, fun z => Bool.noConfusion z⟩
      walk_at "rd"
      exact q H1 E1
    · rw [if_neg h8] at q
      refine ⟨false, T.sub_NoPaper_TooMany, fun z => Bool.noConfusion z, fun _ => ⟨true, T.sub_NoPaper_NoPaper, fun _ a0 ha0 => ?_, fun z => Bool.noConfusion z⟩⟩
      walk_at "rd"
      exact q H1 E1
def spAny (K : PySem.W.Frag) : Sp := sp2 fun a b H Q => ∃ (f yl : Addr) (ts : List T) (rows : List (List Qr.Row)) (ch ow : Nat) (us : List V) (ps : List Ps), a = .ref f ∧ b = .ref yl ∧ Bad K H f yl ts rows ch ow us ps ∧ ∀ H', Ex H H' → Q (.bl true) H'
theorem k__law_any (T : Tx K w mg) (c_sums : CalX P w K mg base "sums" 13 psums (spSumsX K mg)) (c__law_alone : CalE (OfKind mg) P w K mg base "_law_alone" 1 p_law_alone spAlone) : Cal P w K mg base "_law_any" 14 p_law_any (spAny K) := by
  refine cal2 T.F__law_any sc_law_any b_law_any rfl fun g cdv A outer s H a b Q E hr h => ?_
  obtain ⟨f, yl, ts, rows, ch, ow, us, ps, rfl, rfl, B, q⟩ := h
  refine ⟨_, (pss_cons (ps_try_as (i := 2) rfl rfl (sc_law_any).nd rfl rfl ⟨rfl, by decide, .inl T.err_FormError.gC⟩ takes0 (fun W pn xe tk pw => (pss_one (ps_expr (Qe.pe_calX c_sums (hr.mono (by omega)) tk (pa_cons (pv 0) (pa_cons (pv 1) pa_nil)))))) (fun a oe cls d pn hz hf => (pss_one (ps_ret (Qe.pe_calE c__law_alone (roomH (hr.mono (by omega))) List.mem_cons_self hz hf (pa_cons (pv 2) pa_nil)))))) (pss_one (ps_ret pe_bl))), ?_⟩
  rw [t_law_any]
  try dsimp only [cxOf, Cx.nox, Cx.wish]
  walk_at "rd"
  refine bad_sums B (fun h8 H1 E1 => ?_) (fun h8 H1 E1 => ?_)
  · refine ⟨true, T.sub_TooMany_FormError, fun _ a ha => ?_, fun z => Bool.noConfusion z⟩
    walk_at "rd"
    refine ⟨⟨rfl, "TooMany", by decide, rfl⟩, rd_sp1 ⟨rfl, ?_⟩⟩
    exact q H1 E1
  · refine ⟨true, T.sub_NoPaper_FormError, fun _ a ha => ?_, fun z => Bool.noConfusion z⟩
    walk_at "rd"
    refine ⟨⟨rfl, "NoPaper", by decide, rfl⟩, rd_sp1 ⟨rfl, ?_⟩⟩
    exact q H1 E1
def spRefused (K : PySem.W.Frag) (PL : Addr) : Sp := sp3 fun a b c H Q => ∃ (f yl : Addr) (ts : List T) (rows : List (List Qr.Row)) (ch ow : Nat) (us : List V) (ps : List Ps), a = .ref f ∧ b = .ref yl ∧ c = .str (wordX ch ps.length) ∧ Bad K H f yl ts rows ch ow us ps ∧ H PL = some (.tbl #[]) ∧ ∀ H', Ex H H' → Q (.bl true) H'
theorem k__law_refused {PL : Addr} (T : Tx K w mg) (c__law_tried : Cal P w K mg base "_law_tried" 15 p_law_tried (spTried K PL)) (c__law_any : Cal P w K mg base "_law_any" 14 p_law_any (spAny K)) : Cal P w K mg base "_law_refused" 16 p_law_refused (spRefused K PL) := by
  refine cal3 T.F__law_refused sc_law_refused b_law_refused rfl fun g cdv A outer s H a b c Q E hr h => ?_
  obtain ⟨f, yl, ts, rows, ch, ow, us, ps, rfl, rfl, rfl, B, hP, q⟩ := h
  refine ⟨_, (pss_cons (ps_if (PW.pt (pw_or (pt_cmpR (op_neA hr) (pe_cal c__law_tried (hr.mono (by omega)) (pa_cons (pv 0) (pa_cons (pv 1) (pa_cons pe_int pa_nil)))) (pv 2) (nomark _)) (pw_or1 (pt_cmpR (op_neA hr) (pe_cal c__law_tried (hr.mono (by omega)) (pa_cons (pv 0) (pa_cons (pv 1) (pa_cons pe_int pa_nil)))) (pv 2) (nomark _))))) (pss_one (ps_ret pe_bl)) pss_nil) (pss_one (ps_ret (pe_cal c__law_any (hr.mono (by omega)) (pa_cons (pv 0) (pa_cons (pv 1) pa_nil)))))), ?_⟩
  rw [t_law_refused]
  try dsimp only [cxOf, Cx.nox, Cx.wish]
  generalize ew : wordX ch ps.length = wd
  have hw : wd = "many" ∨ wd = "paper" := by
    rw [← ew]
    unfold wordX
    by_cases h : 8 < ch * ps.length
    · rw [if_pos h]; exact .inl rfl
    · rw [if_neg h]; exact .inr rfl
  walk_at "rd"
  refine rd_sp3 ⟨f, yl, 0, ts, rows, ch, ow, us, ps, rfl, rfl, rfl, B, hP, fun H1 E1 => ?_⟩
  rw [ew]
  rcases hw with rfl | rfl
  all_goals
    walk_at "rd"
    refine rd_sp3 ⟨f, yl, 1, ts, rows, ch, ow, us, ps, rfl, rfl, rfl, B.ex E1, E1 _ _ hP, fun H2 E2 => ?_⟩
    rw [ew]
    walk_at "rd"
    exact rd_sp2 ⟨f, yl, ts, rows, ch, ow, us, ps, rfl, rfl, B.ex (E1.trans E2), fun H3 E3 => q H3 (E1.trans (E2.trans E3))⟩
def spKinds (K : PySem.W.Frag) : Sp := sp1 fun a H Q => ∃ (l : Addr) (us : List V) (zs : List ZX), a = .ref l ∧ SqL K H l us ∧ TvA K H us (zs.map pS) ∧ ∀ H', Ex H H' → Q (.bl true) H'
theorem k__law_kinds (T : Tx K w mg) (c__law_whole : Cal P w K mg base "_law_whole" 1 p_law_whole (spWhole K)) : Cal P w K mg base "_law_kinds" 2 p_law_kinds (spKinds K) := by
  refine cal1 T.F__law_kinds sc_law_kinds b_law_kinds rfl fun g cdv A outer s H a Q E hr h => ?_
  obtain ⟨l, us, zs, rfl, hl, hu, q⟩ := h
  refine ⟨_, (pss_cons (ps_for PassesOwn.never rfl (pi_seq (pv 0)) (pg_name (i := 1) (sc_law_kinds).nd rfl (by first | exact Or.inl rfl | exact Or.inr rfl)) (pss_cons (ps_if (PW.pt (pw_or (pt_not (pt_tru (pe_callB call_isi (by rfl) T.m_isinstance (by decide +kernel) (pa_cons (pv 1) (pa_cons (pe_ty (n := "tuple") T.m_tuple (by decide +kernel)) pa_nil))))) (pw_or (pt_not (pt_tru (pe_callB call_isi (by rfl) T.m_isinstance (by decide +kernel) (pa_cons (pe_ix ix_seq (pv 1) pe_int (fun _ _ => rfl)) (pa_cons (pe_ty (n := "tuple") T.m_tuple (by decide +kernel)) pa_nil))))) (pw_or1 (pt_not (pt_tru (pe_cal c__law_whole (hr.mono (by omega)) (pa_cons (pe_ix ix_seq (pv 1) pe_int (fun _ _ => rfl)) pa_nil)))))))) (pss_one (ps_ret pe_bl)) pss_nil) (pss_one (ps_for PassesOwn.never rfl (pi_seq (pe_ix ix_seq (pv 1) pe_int (fun _ _ => rfl))) (pg_name (i := 2) (sc_law_kinds).nd rfl (by first | exact Or.inl rfl | exact Or.inr rfl)) (pss_one (ps_if (PW.pt (pw_or (pt_not (pt_tru (pe_callB call_isi (by rfl) T.m_isinstance (by decide +kernel) (pa_cons (pv 2) (pa_cons (pe_ty (n := "tuple") T.m_tuple (by decide +kernel)) pa_nil))))) (pw_or1 (pt_cmpR (op_neA hr) (pe_lc (own := [("_law_one", 3)]) rfl (sc_law_kinds).nd (pi_seq (pv 2)) (blkOk_by (N := n_law_kinds) (sc := defScope s_law_kinds) (by decide +kernel)) (fun _ _ _ _ _ => (pg_name (i := 3) (sc_law_kinds).nd rfl (by first | exact Or.inl rfl | exact Or.inr rfl))) (fun _ _ _ _ _ => (pts_one (pt_not (pt_truK (K := K) rfl (pe_callB (isiK (K := K) rfl) (by rfl) T.m_isinstance (by decide +kernel) (pa_cons (pv 3) (pa_cons (pe_ty (n := "bool") T.m_bool (by decide +kernel)) pa_nil))))))) (fun _ _ _ _ _ => (pv 3))) (pe_lst pa_nil) (nomark _))))) (pss_one (ps_ret pe_bl)) pss_nil)))))) (pss_one (ps_ret pe_bl))), ?_⟩
  rw [t_law_kinds]
  try dsimp only [cxOf, Cx.nox, Cx.wish]
  have lu : us.length = zs.length := by rw [hu.len, List.length_map]
  walk_at "rd"
  refine forW_Lx hl (fun i σ H' => (∃ y z x, σ = [some (.ref l), y, z, x]) ∧ Ex H H') ?_ ?_ ?_ ?_
  · exact ⟨⟨_, _, _, rfl⟩, Evl.Ex.refl _⟩
  · rintro i σ H' hi ⟨_, e⟩
    exact sql_ex hl e
  · rintro i v σ H1 hv ⟨⟨y, z, x, rfl⟩, E1⟩
    obtain ⟨t, ht, tv⟩ := hu.getV hv
    rw [List.getElem?_map] at ht
    cases ez : zs[i]? with
    | none => rw [ez] at ht; cases ht
    | some zz =>
    rw [ez] at ht
    cases (Option.some.inj ht)
    have tv1 := tv_ex tv E1
    obtain ⟨a0, xs, rfl, hs, ha⟩ := id tv1.tupE
    obtain ⟨y0, xs, rfl, hy0, ha⟩ := ha.consE
    obtain ⟨y1, xs, rfl, hy1, ha⟩ := ha.consE
    cases ha.nilE
    cases hy1
    obtain ⟨c0, cs, rfl, hc, hca⟩ := id hy0.tupE
    have hy0' : Tv K H1 (.ref c0) (.tup (zz.1.map tB)) := hy0
    have tv1' : Tv K H1 (.ref a0) (.tup [tBs zz.1, .int zz.2]) := tv1
    walk_at "rd"
    refine rd_ixT hs (atI_nat (j := 0) rfl) ?_
    walk_at "rd"
    refine rd_ixT hs (atI_nat (j := 1) rfl) ?_
    walk_at "rd"
    refine rd_sp1 ⟨.int _, .int _, ?_⟩
    walk_at "rd"
    refine rd_ixT hs (atI_nat (j := 0) rfl) ?_
    refine rd_fsT hc ?_
    refine forW_T cs (fun j σ H' => (∃ z x, σ = [some (.ref l), some (.ref a0), z, x]) ∧ Ex H1 H') ?_ ?_ ?_ ?_
    · exact ⟨⟨_, _, rfl⟩, Evl.Ex.refl _⟩
    · rintro j σ H' hj ⟨_, e⟩
      exact sqt_ex hc e
    · rintro j v σ H2 hv ⟨⟨z, x, rfl⟩, E2⟩
      obtain ⟨t, ht, tvr⟩ := hca.getV hv
      rw [List.getElem?_map] at ht
      cases eb : zz.1[j]? with
      | none => rw [eb] at ht; cases ht
      | some bs =>
      rw [eb] at ht
      cases (Option.some.inj ht)
      obtain ⟨r0, rs, rfl, hrs, hra⟩ := tvr.tupE
      obtain rfl := tva_blsE hra
      have hr2 := sqt_ex hrs E2
      have tr2 : Tv K H2 (.ref r0) (.tup (bs.map Qa.T.bl)) := .tup hr2 (tva_bls bs)
      have hide : Ex H1 H2 ∧ Ex H H1 := ⟨E2, E1⟩
      clear E2 E1
      walk_at "rd"
      obtain ⟨E2, E1⟩ := hide
      refine lcW_T (bs.map V.bl) (fun D j H' => H' D = some (.lst []) ∧ Ex H2 H') ?_ ?_ ?_ ?_
      · exact fun D H' hD e h => ⟨h, e⟩
      · rintro D j H' hD hj ⟨_, e⟩
        exact sqt_ex hr2 e
      · rintro D j v H3 hD hv ⟨h3, E3⟩
        rw [List.getElem?_map] at hv
        cases eb2 : bs[j]? with
        | none => rw [eb2] at hv; cases hv
        | some b =>
        rw [eb2] at hv
        cases (Option.some.inj hv)
        walk_at "rd"
        refine ⟨rfl, ?_⟩
        walk_at "rd"
        exact ⟨h3, E3⟩
      rintro D H3 hD ⟨h3, E3⟩
      walk_at "rd"
      refine new_lst (hl := Nat.zero_le _) fun l4 H4 hl4 E4 h4 => ?_
      refine rd_neNil (ns := []) (fun k hk => (by cases hk)) (.of (E4 _ _ h3)) (.of h4) ?_
      walk_at "rd"
      exact ⟨⟨_, _, rfl⟩, E2.trans (E3.trans E4)⟩
    · rintro σ H2 ⟨⟨z, x, rfl⟩, E2⟩
      exact ⟨⟨_, _, _, rfl⟩, E1.trans E2⟩
  · rintro σ H1 ⟨⟨y, z, x, rfl⟩, E1⟩
    walk_at "rd"
    exact q H1 E1
end
end KF
open PySem PySem.Spec PyProof.Rows L2 Qa Qr
open Qg Qe Qi Qm Qw Qy


namespace KF
section
variable {P : Program} {w : World} {K : PySem.W.Frag} {mg : Str → Option Value} {base : Heap} {H : Hp} {Q : VK} {E : XK}
/-- the owed line that hangs on choices alone -/
def tS : T := .tup [.str "choose", .int 0, .tup [.str "choose", .int 1, .tup [.str "number", .int 5], .tup [.str "number", .int 3]], .tup [.str "number", .int 3]]
theorem tS_rule (n r ch : Nat) (h : 1 < ch) : isRule ⟨(n : Nat), (r : Nat), (ch : Nat)⟩ 8 tS = true := by
  have p0 : isPlace (.int 0) ((ch : Nat) : Int) = true := by simp [isPlace, within]; omega
  have p1 : isPlace (.int 1) ((ch : Nat) : Int) = true := by simp [isPlace, within]; omega
  have q5 : isNum (.int 5) = true := by decide
  have q3 : isNum (.int 3) = true := by decide
  refine isRule_mono (n := 3) ?_ (by decide)
  show isRule _ (2 + 1) (.tup _) = true
  rw [R_choose, p0]
  have r5 : ∀ s : Sz, ∀ k, isRule s (k + 1) (.tup [.str "number", .int 5]) = true := fun s k => by rw [R_number]; exact q5
  have r3 : ∀ s : Sz, ∀ k, isRule s (k + 1) (.tup [.str "number", .int 3]) = true := fun s k => by rw [R_number]; exact q3
  rw [show isRule ⟨(n : Nat), (r : Nat), (ch : Nat)⟩ 2 (.tup [.str "choose", .int 1, .tup [.str "number", .int 5], .tup [.str "number", .int 3]]) = true by
    show isRule _ (1 + 1) (.tup _) = true
    rw [R_choose, p1, r5 _ 0, r3 _ 0]
    rfl, r3 _ 1]
  rfl
theorem tS_line : beh "line" 8 tS = [] := by decide +kernel
theorem FormD.owed {H H' : Hp} {la ta : Addr} {vs tvs : List V} {ts : List T} {rows : List (List Qr.Row)} {ch ow : Nat} {ord : List Nat} {v : V} (F : FormD K H la ta vs tvs ts rows ch ord) (hch : 1 < ch) (e : Tame H H') (hla : H' la = some (.lst (vs.set ow v))) (hta : H' ta = some (.lst tvs)) (hv : Tv K H' v tS) :
    FormD K H' la ta (vs.set ow v) tvs (ts.set ow tS) rows ch ord := by
  refine ⟨hla, KF.TvA.set hv (e.tvA F.ltv), by rw [List.length_set]; exact F.few, fun t ht => ?_, by rw [List.length_set]; exact F.perm, fun j t hj x hx => ?_, hta, e.tvA F.ttv, F.tgood, F.tfew, F.chf⟩
  · rw [List.length_set]
    rcases List.mem_or_eq_of_mem_set ht with h | rfl
    · exact F.rule t h
    · exact tS_rule _ _ _ hch
  · rw [List.getElem?_set] at hj
    by_cases h : ow = j
    · rw [if_pos h] at hj
      split at hj
      · cases hj
        rw [tS_line] at hx
        cases hx
      · cases hj
    · rw [if_neg h] at hj
      exact F.ahead j t hj x hx
theorem rows_t {H H' : Hp} {α : Type} {f : α → List Qa.T} {us : List V} {xs : List α} (h : RowsL K f H us xs) (e : ExT H H') : RowsL K f H' us xs := pd_mono h fun _ _ _ _ z => by
  obtain ⟨a, vs, e1, h1, h2⟩ := z
  exact ⟨a, vs, e1, sql_t h1 e, tva_t h2 e⟩
theorem rowsH_t {H H' : Hp} {α : Type} {f : α → List Qa.T} {us : List V} {xs : List α} (h : RowsH K f H us xs) (e : ExT H H') : RowsH K f H' us xs := pd_mono h fun _ _ _ _ z => by
  obtain ⟨a, vs, e1, h1, h2⟩ := z
  exact ⟨a, vs, e1, lst_t h1 e, tva_t h2 e⟩
theorem rows_p {H : Hp} {us : List V} {pzs : List Pz} (h : RowsH K fP H us pzs) : RowsL K psT H us (pzs.map psOf) := pd_mapR psOf (pd_mono (rowsH_l h) fun x u _ _ z => z)
theorem tbl_st {H H' : Hp} {st P : Addr} {ps : Array Value} (t : H P = some (.tbl ps)) (S : St1 st H H') (n : P ≠ st) : H' P = some (.tbl ps) := S.fr _ _ n t
theorem okB (n : Nat) (bs : List Bool) : okT (n + 1) (tB bs) = true := ok_bls n bs
theorem okBs (n : Nat) (c : List (List Bool)) : okT (n + 2) (tBs c) = true := okL_all (n := n + 1) fun t ht => by
  obtain ⟨bs, _, rfl⟩ := List.mem_map.mp ht
  exact okB n bs
theorem okS (z : ZX) : okT 3 (pS z) = true := by
  show okL 2 [tBs z.1, .int z.2] = true
  simp only [okL, okBs 0 z.1, Bool.true_and]
  rfl
theorem okSs (zs : List ZX) : okL 3 (zs.map pS) = true := okL_all fun t ht => by
  obtain ⟨z, _, rfl⟩ := List.mem_map.mp ht
  exact okS z
theorem least_uniq {zs : List ZX} {z z' : ZX} (h : IsLeast zs z) (h' : IsLeast zs z') : z = z' := by
  obtain ⟨i, hi, a⟩ := h
  obtain ⟨j, hj, b⟩ := h'
  have a1 := a j z' hj
  have b1 := b i z hi
  have : i = j := by
    by_cases h1 : j < i
    · have := a1.2 h1; omega
    · by_cases h2 : i < j
      · have := b1.2 h2; omega
      · omega
  subst this
  rw [hi] at hj
  exact Option.some.inj hj
/-- the best so far -/
def BestAt (zs : List ZX) (m : Nat) (z : ZX) : Prop := ∃ k : Nat, zs[k]? = some z ∧ k < m ∧ ∀ (j : Nat) (y : ZX), j < m → zs[j]? = some y → z.2 ≤ y.2 ∧ (j < k → z.2 < y.2)
theorem BestAt.step {zs : List ZX} {i : Nat} {z y : ZX} (b : BestAt zs (max i 1) z) (hy : zs[i]? = some y) : BestAt zs (max (i + 1) 1) (if y.2 < z.2 then y else z) := by
  obtain ⟨k, hk, hm, h⟩ := b
  by_cases c : y.2 < z.2
  · rw [if_pos c]
    have hi : 1 ≤ i := by
      by_cases e : i = 0
      · subst e
        have := (h 0 y (by omega) hy).1
        omega
      · omega
    refine ⟨i, hy, by omega, fun j x hj hx => ?_⟩
    by_cases e : j = i
    · subst e
      rw [hy] at hx
      cases hx
      exact ⟨Int.le_refl _, fun q => absurd q (Nat.lt_irrefl _)⟩
    · have := (h j x (by omega) hx).1
      exact ⟨by omega, fun _ => by omega⟩
  · rw [if_neg c]
    refine ⟨k, hk, by omega, fun j x hj hx => ?_⟩
    by_cases e : j < max i 1
    · exact h j x e hx
    · obtain rfl : j = i := by omega
      rw [hy] at hx
      cases hx
      exact ⟨by omega, fun q => by omega⟩
theorem tv_pS {H : Hp} {v : V} {z : ZX} (h : Tv K H v (pS z)) : ∃ a c, v = .ref a ∧ SqT K H a [c, .int z.2] ∧ Tv K H c (tBs z.1) := by
  obtain ⟨a, xs, rfl, hs, ha⟩ := h.tupE
  obtain ⟨y0, xs, rfl, h0, ha⟩ := ha.consE
  obtain ⟨y1, xs, rfl, h1, ha⟩ := ha.consE
  cases ha.nilE
  cases h1
  exact ⟨a, y0, rfl, hs, h0⟩
def spLaw (K : PySem.W.Frag) (PL : Addr) : Sp := sp1 fun a H Q => ∃ (l : Addr) (ns : List Int), a = .ref l ∧ SqL K H l (ns.map V.int) ∧ H PL = some (.tbl #[]) ∧ ∀ H', Q (.bl true) H'
theorem k_law {PL : Addr} (T : Tx K w mg) (c__law_cell_at : Cal P w K mg base "_law_cell_at" 1 p_law_cell_at (spCell K)) (c__law_mixed : Cal P w K mg base "_law_mixed" 1 p_law_mixed (spMixed K)) (c__law_form : Cal P w K mg base "_law_form" 12 p_law_form (spFormD K)) (c_form_of : Cal P w K mg base "form_of" 22 pform_of (spFormOf K))
    (c__law_next : Cal P w K mg base "_law_next" 1 p_law_next (spNext K)) (c__law_papers : Cal P w K mg base "_law_papers" 3 p_law_papers (spLPapers K)) (c__law_refused : Cal P w K mg base "_law_refused" 16 p_law_refused (spRefused K PL))
    (c__law_all : Cal P w K mg base "_law_all" 12 p_law_all (spLAll K)) (c__law_kinds : Cal P w K mg base "_law_kinds" 2 p_law_kinds (spKinds K)) (c_sums : CalX P w K mg base "sums" 13 psums (spSumsX K mg)) (c_least : CalX P w K mg base "least" 14 pleast (spLeastX K mg PL)) : Cal P w K mg base "law" 24 plaw (spLaw K PL) := by
  refine cal1 T.F_law sclaw blaw rfl fun g cdv A outer s H a Q E hr h => ?_
  obtain ⟨l, ns, rfl, hl, hPL, q⟩ := h
  refine ⟨_, (pss_cons (ps_set (i := 1) (sclaw).nd rfl (by first | exact Or.inl rfl | exact Or.inr rfl) (pe_cal c__law_form (hr.mono (by omega)) (pa_cons (pv 0) (pa_cons pe_int pa_nil)))) (pss_cons (ps_set (i := 2) (sclaw).nd rfl (by first | exact Or.inl rfl | exact Or.inr rfl) (pe_lst (pa_cons (pe_cal c__law_mixed (hr.mono (by omega)) (pa_cons (pe_cal c__law_cell_at (hr.mono (by omega)) (pa_cons (pv 0) (pa_cons pe_int pa_nil))) (pa_cons pe_int pa_nil))) pa_nil))) (pss_cons (ps_set (i := 3) (sclaw).nd rfl (by first | exact Or.inl rfl | exact Or.inr rfl) (pe_cal c__law_next (hr.mono (by omega)) (pa_cons (pv 2) (pa_cons pe_int pa_nil)))) (pss_cons (ps_set (i := 4) (sclaw).nd rfl (by first | exact Or.inl rfl | exact Or.inr rfl) (pe_ix ix_seq (pv 1) pe_int (fun _ _ => rfl))) (Evl.pss_cut (ps_if (pt_cmpR (op_eqA hr) (pe_cal c__law_next (hr.mono (by omega)) (pa_cons (pv 2) (pa_cons pe_int pa_nil))) pe_int (nomark _)) (pss_one (ps_set (i := 3) (sclaw).nd rfl (by first | exact Or.inl rfl | exact Or.inr rfl) (pe_op op_addA pe_int (pe_op op_fdiv pe_int (pe_callB (cr_max2 rfl) (by rfl) T.m_max (by decide +kernel) (pa_cons pe_int (pa_cons (pv 4) pa_nil))))))) (pss_one (ps_if (pt_cmpR op_gt (pe_op op_mul (pv 4) (pv 3)) (pe_op op_addA pe_int (pe_op op_mul pe_int (pe_callTy cr_int1 (by rfl) T.m_int (by decide +kernel) (pa_cons (pe_cmpR (op_eqA hr) (pe_cal c__law_next (hr.mono (by omega)) (pa_cons (pv 2) (pa_cons pe_int pa_nil))) pe_int (nomark _)) pa_nil)))) (nomark _)) (pss_one (ps_set (i := 3) (sclaw).nd rfl (by first | exact Or.inl rfl | exact Or.inr rfl) (pe_op op_fdiv pe_int (pv 4)))) pss_nil))) (pss_cons (ps_set (i := 5) (sclaw).nd rfl (by first | exact Or.inl rfl | exact Or.inr rfl) (pe_ix ix_seq (pv 1) pe_int (fun _ _ => rfl))) (Evl.pss_cut (ps_if (PW.pt (pw_and (pt_cmpR op_gt (pv 4) pe_int (nomark _)) (pw_and1 (pt_cmpR (op_eqA hr) (pe_cal c__law_next (hr.mono (by omega)) (pa_cons (pv 2) (pa_cons pe_int pa_nil))) pe_int (nomark _))))) (pss_one (ps_asg (pe_tup (pa_cons pe_str (pa_cons pe_int (pa_cons (pe_tup (pa_cons pe_str (pa_cons pe_int (pa_cons (pe_tup (pa_cons pe_str (pa_cons pe_int pa_nil))) (pa_cons (pe_tup (pa_cons pe_str (pa_cons pe_int pa_nil))) pa_nil))))) (pa_cons (pe_tup (pa_cons pe_str (pa_cons pe_int pa_nil))) pa_nil))))) (pg_sub (pv 5) (pe_ix ix_seq (pv 1) pe_int (fun _ _ => rfl)) set_list))) pss_nil) (pss_cons (ps_set (i := 6) (sclaw).nd rfl (by first | exact Or.inl rfl | exact Or.inr rfl) (pe_cal c_form_of (hr.mono (by omega)) (pa_cons (pv 5) (pa_cons (pe_ix ix_seq (pv 1) pe_int (fun _ _ => rfl)) (pa_cons (pv 4) (pa_cons (pe_ix ix_seq (pv 1) pe_int (fun _ _ => rfl)) pa_nil)))))) (pss_cons (ps_setLc (i := 7) (own := [("_law_year", 8)]) rfl (sclaw).nd rfl rfl (sw_true rfl rfl rfl (by decide +kernel)) (pi_range1 (by rfl) T.m_range (pa_cons (pv 3) pa_nil)) (blkOk_by (N := nlaw) (sc := defScope slaw) (by decide +kernel)) (fun _ _ _ _ _ => (pg_name (i := 8) (sclaw).nd rfl (by first | exact Or.inl rfl | exact Or.inr rfl))) (fun _ _ _ _ _ => pts_nil) (fun _ _ _ _ _ => (pe_cal c__law_papers (hr.mono (by omega)) (pa_cons (pv 2) (pa_cons (pe_ix (ixK (K := K) rfl) (pv 1) pe_int (fun _ _ => rfl)) pa_nil))))) (Evl.pss_cut (ps_if (PW.pt (pw_and (pt_cmpR (op_eqA hr) (pe_cal c__law_next (hr.mono (by omega)) (pa_cons (pv 2) (pa_cons pe_int pa_nil))) pe_int (nomark _)) (pw_and1 (pt_cmpR op_gt (pv 3) pe_int (nomark _))))) (pss_cons (ps_asg (pe_lst (pa_cons (pe_tup (pa_cons pe_str (pa_cons pe_int pa_nil))) pa_nil)) (pg_sub (pv 7) (pe_op op_sub (pv 3) pe_int) set_list)) (pss_one (ps_ret (pe_cal c__law_refused (hr.mono (by omega)) (pa_cons (pv 6) (pa_cons (pv 7) (pa_cons (pe_ix ix_seq (pe_lst (pa_cons pe_str (pa_cons pe_str pa_nil))) (pe_callTy cr_int1 (by rfl) T.m_int (by decide +kernel) (pa_cons (pe_cmpR op_gt (pe_op op_mul (pv 4) (pv 3)) pe_int (nomark _)) pa_nil)) (fun _ _ => rfl)) pa_nil))))))) pss_nil) (pss_cons (ps_if (pt_cmpR op_gt (pe_op op_mul (pv 4) (pv 3)) pe_int (nomark _)) (pss_one (ps_ret (pe_cal c__law_refused (hr.mono (by omega)) (pa_cons (pv 6) (pa_cons (pv 7) (pa_cons pe_str pa_nil)))))) pss_nil) (pss_cons (ps_set (i := 9) (sclaw).nd rfl (by first | exact Or.inl rfl | exact Or.inr rfl) (pe_cal c__law_all (hr.mono (by omega)) (pa_cons (pv 6) (pa_cons (pv 7) pa_nil)))) (pss_cons (ps_set (i := 10) (sclaw).nd rfl (by first | exact Or.inl rfl | exact Or.inr rfl) (Qe.pe_calX c_sums (hr.mono (by omega)) takes0 (pa_cons (pv 6) (pa_cons (pv 7) pa_nil)))) (pss_cons (ps_if (PW.pt (pw_or (pt_not (pt_tru (pe_callB call_isi (by rfl) T.m_isinstance (by decide +kernel) (pa_cons (pv 10) (pa_cons (pe_ty (n := "list") T.m_list (by decide +kernel)) pa_nil))))) (pw_or (pt_cmpR (op_neA hr) (pv 10) (pv 9) (nomark _)) (pw_or1 (pt_not (pt_tru (pe_cal c__law_kinds (hr.mono (by omega)) (pa_cons (pv 10) pa_nil)))))))) (pss_one (ps_ret pe_bl)) pss_nil) (pss_cons (ps_set (i := 11) (sclaw).nd rfl (by first | exact Or.inl rfl | exact Or.inr rfl) (pe_ix ix_seq (pv 9) pe_int (fun _ _ => rfl))) (pss_cons (ps_for PassesOwn.never rfl (pi_seq (pv 9)) (pg_name (i := 12) (sclaw).nd rfl (by first | exact Or.inl rfl | exact Or.inr rfl)) (pss_one (ps_if (pt_cmpR op_lt (pe_ix ix_seq (pv 12) pe_int (fun _ _ => rfl)) (pe_ix ix_seq (pv 11) pe_int (fun _ _ => rfl)) (nomark _)) (pss_one (ps_set (i := 11) (sclaw).nd rfl (by first | exact Or.inl rfl | exact Or.inr rfl) (pv 12))) pss_nil))) (pss_cons (ps_set (i := 13) (sclaw).nd rfl (by first | exact Or.inl rfl | exact Or.inr rfl) (Qe.pe_calX c_least (hr.mono (by omega)) takes0 (pa_cons (pv 6) (pa_cons (pv 7) pa_nil)))) (pss_cons (ps_if (PW.pt (pw_or (pt_not (pt_tru (pe_cal c__law_kinds (hr.mono (by omega)) (pa_cons (pe_lst (pa_cons (pv 13) pa_nil)) pa_nil)))) (pw_or1 (pt_cmpR (op_neA hr) (pv 13) (pv 11) (nomark _))))) (pss_one (ps_ret pe_bl)) pss_nil) (pss_cons (ps_expr (pe_bm PySem.F.plainAttrs_list PySem.F.slot_list_append PySem.F.type_list_append mt_append (Qe.pe_calX c_sums (hr.mono (by omega)) takes0 (pa_cons (pv 6) (pa_cons (pe_lst pa_nil) pa_nil))) (pa_cons pe_int pa_nil))) (pss_one (ps_ret (pe_and (pe_cmpR (op_eqA hr) (pv 10) (pv 9) (nomark _)) (pe_one (pe_cmpR (op_eqA hr) (Qe.pe_calX c_sums (hr.mono (by omega)) takes0 (pa_cons (pv 6) (pa_cons (pv 7) pa_nil))) (pv 9) (nomark _))))))))))))))))))))))))), ?_⟩
  rw [tlaw]
  try dsimp only [cxOf, Cx.nox, Cx.wish]
  walk_at "rd"
  refine rd_sp2 ⟨l, ns, 7, rfl, rfl, by decide, by decide, hl, fun pf la ta wd vs tvs ts rows ch ow ord ws H1 hpf F lM how W hp0 hla0 hta0 hwd0 nlt npl npt nwl _ E1 => ?_⟩
  have few := F.few
  have hch := F.chf
  have hws := W.good
  have hwf := W.few
  walk_at "rd"
  refine rd_sp2 ⟨l, ns, 2, rfl, rfl, sql_ex hl E1, fun r1 => ?_⟩
  walk_at "rd"
  refine rd_sp2 ⟨_, _, rfl, rfl, fun c c0 c1 => ?_⟩
  walk_at "rd"
  refine new_lst fun st H3 hst E3 h3 => ?_
  have E03 := E1.trans E3
  have nst : ∀ {b : Addr} {o : HO}, H1 b = some o → b ≠ st := fun {b o} hb => by rintro rfl; rw [hb] at hst; cases hst
  have st3 : ∃ s, H3 st = some (.lst [.int s]) := ⟨_, h3⟩
  walk_at "rd"
  refine nx st3 (by decide) fun n1 H4 a4 b4 S4 => ?_
  walk_at "rd"
  have npf := nst hpf
  have nla := nst F.lat
  have nta := nst F.tat
  have nwd := nst W.at_
  have nPL := nst (E1 _ _ hPL)
  refine rd_ixL (.of (lst_st (E3 _ _ hpf) S4 npf)) (atI_nat (j := 2) rfl) ?_
  walk_at "rd"
  refine rd_cut (fun σ H' => ∃ n : Nat, n ≤ 9 ∧ σ = [some (.ref l), some (.ref pf), some (.ref st), some (.int n), some (.int ch), none, none, none, none, none, none, none, none, none] ∧ St1 st H3 H') ?_ ?_
  · walk_at "rd"
    refine nx S4.st (by decide) fun n2 H5 a5 b5 S5 => ?_
    have S35 := S4.trans S5
    walk_at "rd"
    refine rd_ite (fun h => ?_) (fun h => ?_)
    · walk_at "rd"
      generalize em : (if (ch : Int) > 1 then (ch : Int) else 1) = m
      have hm : 1 ≤ m ∧ m ≤ 8 := by
        rw [← em]
        split <;> omega
      have hd : 0 ≤ 8 / m ∧ 8 / m ≤ 8 := ⟨Int.ediv_nonneg (by decide) (by omega), Int.ediv_le_self _ (by decide)⟩
      exact ⟨(1 + 8 / m).toNat, by omega, by rw [Int.toNat_of_nonneg (by omega)], S35⟩
    · obtain ⟨n0, rfl⟩ : ∃ n0 : Nat, n1 = n0 := ⟨n1.toNat, by omega⟩
      walk_at "rd"
      refine nx S35.st (by decide) fun n3 H6 a6 b6 S6 => ?_
      have S36 := S35.trans S6
      walk_at "rd"
      refine rd_ite (fun h2 => ?_) (fun h2 => ?_)
      · walk_at "rd"
        have hc1 : 1 ≤ ch := by
          by_cases z : ch = 0
          · subst z
            simp at h2
            split at h2 <;> omega
          · omega
        have hd : 0 ≤ (6 : Int) / ch ∧ (6 : Int) / ch ≤ 6 := ⟨Int.ediv_nonneg (by decide) (by omega), Int.ediv_le_self _ (by decide)⟩
        walk_at "rd"
        exact ⟨((6 : Int) / ch).toNat, by omega, by rw [Int.toNat_of_nonneg (by omega)], S36⟩
      · walk_at "rd"
        exact ⟨n0, by omega, rfl, S36⟩
  rintro σ H5 ⟨n, hn9, rfl, S5⟩
  have hpf5 := lst_st (E3 _ _ hpf) S5 npf
  have hwd5 := lst_st (E3 _ _ W.at_) S5 nwd
  have hla5 := lst_st (E3 _ _ F.lat) S5 nla
  have hta5 := lst_st (E3 _ _ F.tat) S5 nta
  have hPL5 := tbl_st (E03 _ _ hPL) S5 nPL
  have T15 : Tame H1 H5 := (Tame.ex E3).trans S5.tame
  have st5 := S5.st
  have hlal : la ≠ ta := nlt
  clear S4 S5 st3 h3 E3 hpf hPL
  walk_at "rd"
  refine rd_ixL (.of hpf5) (atI_nat (j := 0) rfl) ?_
  walk_at "rd"
  refine rd_cut (fun σ H' => σ = [some (.ref l), some (.ref pf), some (.ref st), some (.int n), some (.int ch), some (.ref la), none, none, none, none, none, none, none, none] ∧ ∃ (vs' : List V) (ts' : List Qa.T), FormD K H' la ta vs' tvs ts' rows ch ord ∧ ts'.length = ts.length ∧
    H' pf = some (.lst [.ref la, .ref ta, .int ch, .int ow, .ref wd]) ∧ H' wd = some (.lst (ws.map V.str)) ∧ H' PL = some (.tbl #[]) ∧ ∃ s, H' st = some (.lst [.int s])) ?_ ?_
  · have F5 : FormD K H5 la ta vs tvs ts rows ch ord := ⟨hla5, T15.tvA F.ltv, F.few, F.rule, F.perm, F.ahead, hta5, T15.tvA F.ttv, F.tgood, F.tfew, F.chf⟩
    walk_at "rd"
    by_cases h : 1 < ch
    · rw [decide_eq_true (show (1 : Int) < ch by omega)]
      walk_at "rd"
      refine nx st5 (by decide) fun n6 H6 a6 b6 S6 => ?_
      have hla6 := lst_st hla5 S6 nla
      have hta6 := lst_st hta5 S6 nta
      have hpf6 := lst_st hpf5 S6 npf
      have hwd6 := lst_st hwd5 S6 nwd
      have hPL6 := tbl_st hPL5 S6 nPL
      have T16 := T15.trans S6.tame
      have st6 := S6.st
      clear S6
      walk_at "rd"
      refine rd_ite (fun h2 => ?_) (fun h2 => ?_)
      · walk_at "rd"
        refine new_tup fun t1 J1 ht1 D1 d1 => ?_
        walk_at "rd"
        refine new_tup fun t2 J2 ht2 D2 d2 => ?_
        walk_at "rd"
        refine new_tup fun t3 J3 ht3 D3 d3 => ?_
        walk_at "rd"
        refine new_tup fun t4 J4 ht4 D4 d4 => ?_
        walk_at "rd"
        refine new_tup fun t5 J5 ht5 D5 d5 => ?_
        have D25 := D3.trans (D4.trans D5)
        have D15 := D2.trans D25
        have D05 := D1.trans D15
        have hpfJ : SqL K J5 pf [.ref la, .ref ta, .int ch, .int ow, .ref wd] := .of (D05 _ _ hpf6)
        walk_at "rd"
        refine rd_ixL hpfJ (atI_nat (j := 3) rfl) ?_
        have hlaJ := D05 _ _ hla6
        have lvs : vs.length = ts.length := F.ltv.len
        refine rd_setL hlaJ (j := ow) (ixN_k (by omega)) ?_
        have tvJ : Tv K J5 (.ref t5) tS := .tup (.of d5) (.cons (.str _ (by decide)) (.cons (.int _) (.cons (.tup (.of ((D4.trans D5) _ _ d3)) (.cons (.str _ (by decide)) (.cons (.int _) (.cons (.tup (.of (D15 _ _ d1)) (.cons (.str _ (by decide)) (.cons (.int _) .nil))) (.cons (.tup (.of (D25 _ _ d2)) (.cons (.str _ (by decide)) (.cons (.int _) .nil))) .nil)))))
          (.cons (.tup (.of (D5 _ _ d4)) (.cons (.str _ (by decide)) (.cons (.int _) .nil))) .nil))))
        have up := Tame.upd (ys := vs.set ow (.ref t5)) hlaJ
        have nps : ∀ {b : Addr} {o : HO}, b ≠ la → H6 b = some o → upd J5 la (.lst (vs.set ow (.ref t5))) b = some o := fun nb hb => by rw [upd_ne nb]; exact D05 _ _ hb
        obtain ⟨s0, hs0⟩ := st6
        refine ⟨rfl, _, _, F.owed h ((T16.trans (Tame.ex D05)).trans up) upd_same (nps (Ne.symm hlal) hta6) (up.tv tvJ), List.length_set, nps npl hpf6, nps nwl hwd6, nps (by rintro rfl; rw [hla6] at hPL6; cases hPL6) hPL6, s0, nps (Ne.symm nla) hs0⟩
      · walk_at "rd"
        exact ⟨rfl, vs, ts, ⟨hla6, T16.tvA F.ltv, F.few, F.rule, F.perm, F.ahead, hta6, T16.tvA F.ttv, F.tgood, F.tfew, F.chf⟩, rfl, hpf6, hwd6, hPL6, st6⟩
    · rw [decide_eq_false (show ¬ (1 : Int) < ch by omega)]
      walk_at "rd"
      exact ⟨rfl, vs, ts, F5, rfl, hpf5, hwd5, hPL5, st5⟩
  clear hpf5 hwd5 hla5 hta5 hPL5 T15 st5 F W
  rintro σ H6 ⟨rfl, vs', ts', F6, lts, hpf6, hwd6, hPL6, st6⟩
  walk_at "rd"
  refine rd_ixL (.of hpf6) (atI_nat (j := 1) rfl) ?_
  walk_at "rd"
  refine rd_ixL (.of hpf6) (atI_nat (j := 3) rfl) ?_
  walk_at "rd"
  refine made ts' F6 (by omega) fun fp H7 FG hfp E7 => ?_
  have hpf7 := E7 _ _ hpf6
  have hwd7 := E7 _ _ hwd6
  have hPL7 := E7 _ _ hPL6
  have st7 := sta_ex st6 E7
  clear E7 hpf6 hwd6 hPL6 st6 F6
  walk_at "rd"
  rw [Int.toNat_natCast]
  refine lcW_R (fun D i H' => ∃ (us : List V) (pzs : List Pz), H' D = some (.lst us) ∧ RowsH K fP H' us pzs ∧ pzs.length = i ∧ (∀ pz ∈ pzs, Papers pz ws) ∧ (∀ v ∈ us, v ≠ .ref st) ∧ (∀ v ∈ us, v ≠ .ref D) ∧ St1 st H7 H' ∧ D ≠ st) ?_ ?_ ?_
  · exact fun D H' hD e h => ⟨[], [], h, .nil, rfl, fun _ h => (by cases h), fun _ h => (by cases h), fun _ h => (by cases h), .ex st7 e, ne_st st7 hD⟩
  · rintro D i Ha hD hi ⟨us, pzs, ha, hrow, lp, hP, n1s, n2s, Sa, nD⟩
    walk_at "lcn"
    walk_at "rd"
    refine rd_ixL (.of (lst_st hpf7 Sa npf)) (atI_nat (j := 4) rfl) ?_
    walk_at "rd"
    refine rd_sp2 ⟨st, wd, ws, rfl, rfl, Sa.st, nwd, lst_st hwd7 Sa nwd, hws, by omega, fun pp vsP pz Hb PZ hb tvb hpp nps Sb => ?_⟩
    have hDb := lst_st ha Sb nD
    have npD : pp ≠ D := by rintro rfl; rw [ha] at hpp; cases hpp
    have lus : us.length = pzs.length := pd_len hrow
    refine ⟨us, hDb, by rw [sizeLine_eq]; omega, us ++ [.ref pp], pzs ++ [pz], upd_same, ?_, by rw [List.length_append, lp]; rfl, ?_, ?_, ?_, (Sa.trans Sb).upd hD hDb nD, nD⟩
    · exact pd_app (rowsH_up (rowsH_st hrow n1s Sb) n2s hDb) (.cons ⟨pp, vsP, rfl, by rw [upd_ne npD]; exact hb, (Tame.upd hDb).tvA tvb⟩ .nil)
    · intro z hz
      rcases List.mem_append.mp hz with hz | hz
      · exact hP z hz
      · cases List.mem_singleton.mp hz
        exact PZ
    · intro z hz
      rcases List.mem_append.mp hz with hz | hz
      · exact n1s z hz
      · cases List.mem_singleton.mp hz
        exact fun e => nps (by cases e; rfl)
    · intro z hz
      rcases List.mem_append.mp hz with hz | hz
      · exact n2s z hz
      · cases List.mem_singleton.mp hz
        exact fun e => npD (by cases e; rfl)
  rintro yl H8 hyl ⟨us, pzs, h8, hus, lp, hP, n1s, nyy, S8, nyl⟩
  have FG8 := FG.tame S8.tame
  have hPL8 := tbl_st hPL7 S8 nPL
  have st8 := S8.st
  clear S8 hpf7 hwd7 hPL7 FG st7
  have lus : us.length = pzs.length := pd_len hus
  have hmul : ((ch : Nat) : Int) * ((n : Nat) : Int) = ((ch * n : Nat) : Int) := by simp
  have hcn : ch * n ≤ 8 * 9 := Nat.mul_le_mul hch hn9
  walk_at "rd"
  refine rd_cut (fun σ H' => σ = [some (.ref l), some (.ref pf), some (.ref st), some (.int n), some (.int ch), some (.ref la), some (.ref fp), some (.ref yl), none, none, none, none, none, none] ∧ H' yl = some (.lst us) ∧ RowsH K fP H' us pzs ∧ FormG K H' fp ts' rows ch ow ∧ H' PL = some (.tbl #[])) ?_ ?_
  · walk_at "rd"
    refine nx st8 (by decide) fun n9 H9 a9 b9 S9 => ?_
    have h9 := lst_st h8 S9 nyl
    have hus9 := rowsH_st hus n1s S9
    have FG9 := FG8.tame S9.tame
    have hPL9 := tbl_st hPL8 S9 nPL
    clear S9 h8 hus FG8 hPL8 st8
    walk_at "rd"
    by_cases hn9 : n9 = 1
    · rw [decide_eq_true hn9]
      walk_at "rd"
      refine rd_ite (fun hn0 => ?_) (fun hn0 => ?_)
      · walk_at "rd"
        refine new_tup fun t1 J1 ht1 D1 d1 => ?_
        walk_at "rd"
        refine new_lst fun t2 J2 ht2 D2 d2 => ?_
        have D02 := D1.trans D2
        have hylJ := D02 _ _ h9
        have n2 : t2 ≠ yl := by rintro rfl; rw [D1 _ _ h9] at ht2; cases ht2
        have hylS : SqL K J2 yl us := .of hylJ
        walk_at "rd"
        have en : ((n : Nat) : Int) - 1 = ((n - 1 : Nat) : Int) := by omega
        rw [en]
        refine rd_setL hylJ (j := n - 1) (ixN_k (by omega)) ?_
        have nus : ∀ v ∈ us, v ≠ .ref yl := nyy
        have up := Tame.upd (ys := us.set (n - 1) (.ref t2)) hylJ
        have rws : RowsL K psT (upd J2 yl (.lst (us.set (n - 1) (.ref t2)))) (us.set (n - 1) (.ref t2)) ((pzs.map psOf).set (n - 1) [(.str "A", .int 1)]) := by
          refine pd_set ⟨t2, _, rfl, .of (by rw [upd_ne n2]; exact d2), up.tvA (.cons (.tup (.of (D2 _ _ d1)) (.cons (.str _ (by decide)) (.cons (.int _) .nil))) .nil)⟩ _ ?_
          exact pd_mapR psOf (pd_mono (rowsH_l (rowsH_up (rowsH_ex hus9 D02) nus hylJ)) fun x u _ _ z => z)
        have FGJ := (FG9.ex D02).tame up
        have hPLJ : upd J2 yl (.lst (us.set (n - 1) (.ref t2))) PL = some (.tbl #[]) := by
          have := D02 _ _ hPL9
          rw [upd_ne (by rintro rfl; rw [hylJ] at this; cases this)]
          exact this
        have hylU : upd J2 yl (.lst (us.set (n - 1) (.ref t2))) yl = some (.lst (us.set (n - 1) (.ref t2))) := upd_same
        generalize upd J2 yl (.lst (us.set (n - 1) (.ref t2))) = J3 at rws FGJ hPLJ hylU ⊢
        have B : Bad K J3 fp yl ts' rows ch ow (us.set (n - 1) (.ref t2)) ((pzs.map psOf).set (n - 1) [(.str "A", .int 1)]) := by
          refine ⟨FGJ, .of hylU, rws, fun p hp => ?_, by rw [List.length_set, List.length_map, lp]; omega, .inr ⟨[(.str "A", .int 1)], ?_, by decide +kernel⟩⟩
          · rcases List.mem_or_eq_of_mem_set hp with h | rfl
            · obtain ⟨z, hz, rfl⟩ := List.mem_map.mp h
              rw [psOf_len]
              have := (hP z hz).few
              omega
            · decide
          · exact List.mem_set (by rw [List.length_map, lp]; omega) _
        have eP : ((pzs.map psOf).set (n - 1) [(Qa.T.str "A", Qa.T.int 1)]).length = n := by rw [List.length_set, List.length_map, lp]
        walk_at "rd"
        refine new_lst fun t4 J4 ht4 D4 d4 => ?_
        walk_at "rd"
        rw [hmul]
        by_cases h8 : 8 < ch * n
        · rw [decide_eq_true (show (8 : Int) < ((ch * n : Nat) : Int) by omega)]
          walk_at "rd"
          refine rd_ixL (.of d4) (atI_nat (j := 1) rfl) ?_
          walk_at "rd"
          exact rd_sp3 ⟨fp, yl, ts', rows, ch, ow, _, _, rfl, rfl, by unfold wordX; rw [eP, if_pos h8], B.ex D4, D4 _ _ hPLJ, fun H' _ => q H'⟩
        · rw [decide_eq_false (show ¬ (8 : Int) < ((ch * n : Nat) : Int) by omega)]
          walk_at "rd"
          refine rd_ixL (.of d4) (atI_nat (j := 0) rfl) ?_
          walk_at "rd"
          exact rd_sp3 ⟨fp, yl, ts', rows, ch, ow, _, _, rfl, rfl, by unfold wordX; rw [eP, if_neg h8], B.ex D4, D4 _ _ hPLJ, fun H' _ => q H'⟩
      · walk_at "rd"
        exact ⟨rfl, h9, hus9, FG9, hPL9⟩
    · rw [decide_eq_false hn9]
      walk_at "rd"
      exact ⟨rfl, h9, hus9, FG9, hPL9⟩
  clear h8 hus FG8 hPL8 st8
  rintro σ H9 ⟨rfl, h9, hus9, FG9, hPL9⟩
  have good : ∀ pz ∈ pzs, papOk (psOf pz) [] = true ∧ pz.length ≤ 500 := fun pz hz => ⟨(hP pz hz).good, by have := (hP pz hz).few; omega⟩
  have nds : ∀ pz ∈ pzs, (pz.map (·.1)).Nodup := fun pz hz => (hP pz hz).nd

  have rws9 : RowsL K psT H9 us (pzs.map psOf) := pd_mapR psOf (pd_mono (rowsH_l hus9) fun x u _ _ z => z)
  have eps : (pzs.map psOf).length = n := by rw [List.length_map, lp]
  have each : ∀ p ∈ pzs.map psOf, p.length ≤ 1000 := fun p hp => by
    obtain ⟨z, hz, rfl⟩ := List.mem_map.mp hp
    rw [psOf_len]
    have := (good z hz).2
    omega
  have ok : ∀ p ∈ pzs.map psOf, papOk p [] = true := fun p hp => by
    obtain ⟨z, hz, rfl⟩ := List.mem_map.mp hp
    exact (good z hz).1
  walk_at "rd"
  rw [hmul]
  refine rd_ite (fun h8 => ?_) (fun h8 => ?_)
  · walk_at "rd"
    exact rd_sp3 ⟨fp, yl, ts', rows, ch, ow, us, pzs.map psOf, rfl, rfl, by unfold wordX; rw [eps, if_pos (by omega)], ⟨FG9, .of h9, rws9, each, by rw [eps]; omega, .inl (by rw [eps]; omega)⟩, hPL9, fun H' _ => q H'⟩
  have h8 : ch * n ≤ 8 := by omega
  -- the sums, wherever they are told
  have call : ∀ {H' : Hp} {R : VK} {E : XK}, FormG K H' fp ts' rows ch ow → SqL K H' yl us → RowsL K psT H' us (pzs.map psOf) → (∀ r H2 us2 zs, H' r = none → Ex H' H2 → H2 r = some (.lst us2) → TvA K H2 us2 (zs.map pS) → Sums rows ts' ow ch (pzs.map psOf) zs → R (.ref r) H2) → spSumsX K mg [.ref fp, .ref yl] H' R E := fun {H' R E} g1 g2 g3 k =>
    rd_spX2 ⟨fp, yl, ts', rows, ch, ow, us, pzs.map psOf, rfl, rfl, g1, g2, g3, each, by rw [eps]; omega, fun z => by rw [eps] at z; omega, fun _ => ⟨fun ⟨p, hp, z⟩ => (by rw [ok p hp] at z; cases z), fun _ r H2 us2 zs hr e h2 t2 hS => k r H2 us2 zs hr e h2 t2 hS⟩⟩
  have uniq : ∀ {zs zs' : List ZX}, Sums rows ts' ow ch (pzs.map psOf) zs → Sums rows ts' ow ch (pzs.map psOf) zs' → zs = zs' := fun a b => sums_uniq (sz := ⟨ts'.length, rows.length, ch⟩) FG9.rule rfl FG9.acyc a b
  walk_at "rd"
  refine rd_sp2 ⟨fp, yl, ts', rows, ch, ow, us, pzs, rfl, rfl, FG9, .of h9, rowsH_l hus9, nds, by rw [lp]; exact h8, by omega, fun p10 H10 us10 zs hp10 E10 h10 tv10 hS => ?_⟩
  walk_at "rd"
  refine call (FG9.ex E10) (.of (E10 _ _ h9)) (rows_ex rws9 E10) fun r11 H11 us11 zs2 hr11 E11 h11 tv11 hS2 => ?_
  obtain rfl := uniq hS hS2
  clear hS2
  have E911 := E10.trans E11
  have tl11 : Tv K H11 (.ref r11) .lst := .lst (.of h11)
  have lz0 : 0 < zs.length := by
    have := congrArg List.length hS.all
    rw [List.length_map, chs_len] at this
    rw [this]
    exact Nat.pow_pos (by decide)
  have h10' := E11 _ _ h10
  have tv10' := tva_ex tv10 E11
  have FG11 := FG9.ex E911
  have h9' := E911 _ _ h9
  have hus11 := rowsH_ex hus9 E911
  have hPL11 := E911 _ _ hPL9
  have lus10 : us10.length = zs.length := by rw [tv10.len, List.length_map]
  clear E911 E11 E10 h10 tv10
  walk_at "rd"
  refine rd_neLsts (okSs zs) (by decide) (.of h11) tv11 (.of h10') tv10' ?_
  walk_at "rd"
  refine rd_sp1 ⟨r11, us11, zs, rfl, .of h11, tv11, fun H12 E12 => ?_⟩
  walk_at "rd"
  obtain ⟨v0, hv0, tz0⟩ := tv10'.get (i := 0) (t := pS zs[0]) (by rw [List.getElem?_map, List.getElem?_eq_getElem lz0]; rfl)
  have h10e := E12 _ _ h10'
  have h10S : SqL K H12 p10 us10 := .of h10e
  have tv10S := tva_ex tv10' E12
  refine rd_ixL h10S (atI_nat hv0) ?_
  have hide : Ex H11 H12 ∧ True := ⟨E12, trivial⟩
  clear E12
  walk_at "rd"
  obtain ⟨E12, _⟩ := hide
  refine forW_Lx h10S (fun i σ H' => H' = H12 ∧ ∃ vb zb y, σ = [some (.ref l), some (.ref pf), some (.ref st), some (.int n), some (.int ch), some (.ref la), some (.ref fp), some (.ref yl), none, some (.ref p10), some (.ref r11), some vb, y, none] ∧ Tv K H12 vb (pS zb) ∧ BestAt zs (max i 1) zb) ?_ ?_ ?_ ?_
  · refine ⟨rfl, v0, zs[0], _, rfl, tv_ex tz0 E12, 0, List.getElem?_eq_getElem lz0, by omega, fun j y hj hy => ?_⟩
    obtain rfl : j = 0 := by omega
    rw [List.getElem?_eq_getElem lz0] at hy
    cases hy
    exact ⟨Int.le_refl _, fun z => absurd z (Nat.lt_irrefl _)⟩
  · rintro i σ H' hi ⟨rfl, _⟩
    exact h10S
  · rintro i v σ H' hv ⟨rfl, vb, zb, y, rfl, tvb, hB⟩
    obtain ⟨t, ht, tv⟩ := tv10S.getV hv
    rw [List.getElem?_map] at ht
    cases ez : zs[i]? with
    | none => rw [ez] at ht; cases ht
    | some zi =>
    rw [ez] at ht
    cases (Option.some.inj ht)
    have hB' := hB.step ez
    obtain ⟨ai, ci, rfl, hsi, _⟩ := tv_pS tv
    obtain ⟨ab, cb, rfl, hsb, _⟩ := tv_pS tvb
    walk_at "rd"
    refine rd_ixT hsi (atI_nat (j := 1) rfl) ?_
    walk_at "rd"
    refine rd_ixT hsb (atI_nat (j := 1) rfl) ?_
    walk_at "rd"
    refine rd_ite (fun h => ?_) (fun h => ?_)
    · rw [if_pos h] at hB'
      walk_at "rd"
      exact ⟨rfl, _, zi, _, rfl, tv, hB'⟩
    · rw [if_neg h] at hB'
      walk_at "rd"
      exact ⟨rfl, _, zb, _, rfl, tvb, hB'⟩
  rintro σ H' ⟨rfl, vb, zb, y, rfl, tvb, hB⟩
  have hLb : IsLeast zs zb := by
    obtain ⟨k, hk, hm, h⟩ := hB
    refine ⟨k, hk, fun j y hj => h j y ?_ hj⟩
    have := (List.getElem?_eq_some_iff.mp hj).1
    omega
  have h11' := E12 _ _ h11
  have tv11' := tva_ex tv11 E12
  have FG12 := FG11.ex E12
  have h9'' := E12 _ _ h9'
  have hus12 := rowsH_ex hus11 E12
  have rws12 := rows_p hus12
  have hPL12 := E12 _ _ hPL11
  clear E12
  walk_at "rd"
  refine rd_spX2 ⟨fp, yl, ts', rows, ch, ow, us, pzs.map psOf, rfl, rfl, FG12, .of h9'', rws12, each, by rw [eps]; omega, hPL12, fun z => by rw [eps] at z; omega, fun _ => ⟨fun ⟨p, hp, z⟩ => (by rw [ok p hp] at z; cases z), fun _ v H13 zs3 z3 E13 hS3 hL3 tv3 => ?_⟩⟩
  obtain rfl := uniq hS hS3
  obtain rfl := least_uniq hLb hL3
  have h10d := lst_t h10e E13
  have tv10d := tva_t tv10S E13
  have h11d := lst_t h11' E13
  have tv11d := tva_t tv11' E13
  have FG13 := FG12.tame E13.tame
  have h9d := lst_t h9'' E13
  have hus13 := rowsH_t hus12 E13
  have tvbd := tv_t tvb E13
  clear E13
  walk_at "rd"
  refine new_lst fun l14 H14 hl14 E14 h14 => ?_
  walk_at "rd"
  refine rd_sp1 ⟨l14, _, [zb], rfl, .of h14, .cons (tv_ex tv3 E14) .nil, fun H15 E15 => ?_⟩
  have E135 := E14.trans E15
  walk_at "rd"
  obtain ⟨ab, cb, rfl, hsb, tcb⟩ := tv_pS (tv_ex tvbd E135)
  obtain ⟨a3, c3, rfl, hs3, tc3⟩ := tv_pS (tv_ex tv3 E135)
  refine rd_neTups (ts := [tBs zb.1, .int zb.2]) (n := 2) (okS zb) (by decide) hs3 (.cons tc3 (.cons (.int _) .nil)) hsb (.cons tcb (.cons (.int _) .nil)) ?_
  walk_at "rd"
  refine new_lst (hl := Nat.zero_le _) fun e16 H16 he16 E16 h16 => ?_
  have E136 := E135.trans E16
  have hide : Ex H13 H16 ∧ True := ⟨E136, trivial⟩
  clear E136 E16 E135 E15 E14
  walk_at "rd"
  obtain ⟨E136, _⟩ := hide
  refine rd_spX2 ⟨fp, e16, ts', rows, ch, ow, [], [], rfl, rfl, FG13.ex E136, .of h16, .nil, fun p hp => (by cases hp), Nat.zero_le _, fun z => (by simp at z), fun _ => ⟨fun ⟨p, hp, _⟩ => (by cases hp), fun _ r17 H17 us17 zs17 hr17 E17 h17 tv17 hS17 => ?_⟩⟩
  have l17 : us17.length = 1 := by
    have := congrArg List.length hS17.all
    rw [List.length_map] at this
    rw [tv17.len, List.length_map, this]
    rfl
  have E137 := E136.trans E17
  have hus16 := rowsH_ex hus13 E136
  have n17 : ∀ {b : Addr} {o : HO}, H13 b = some o → b ≠ r17 := fun {b o} hb => by rintro rfl; rw [E136 _ _ hb] at hr17; cases hr17
  have s17 : SqL K H17 r17 us17 := .of h17
  have hide : Ex H13 H17 ∧ Ex H16 H17 := ⟨E137, E17⟩
  clear E137 E17 E136
  walk_at "rd"
  obtain ⟨E137, E17⟩ := hide
  refine rd_append h17 (by omega) ?_
  have up := Tame.upd (ys := us17 ++ [.int 7]) h17
  have keep : ∀ {b : Addr} {o : HO}, H13 b = some o → upd H17 r17 (.lst (us17 ++ [.int 7])) b = some o := fun {b o} hb => by rw [upd_ne (n17 hb)]; exact E137 _ _ hb
  have hus17 := rowsH_up (ws := us17 ++ [.int 7]) (rowsH_ex hus16 E17) (rowsH_ne hus16 hr17) h17
  have FG17 := (FG13.ex E137).tame up
  have h11e := keep h11d
  have h9e := keep h9d
  have h10f := keep h10d
  have tv10f := up.tvA (tva_ex tv10d E137)
  have tv11f := up.tvA (tva_ex tv11d E137)
  generalize upd H17 r17 (.lst (us17 ++ [.int 7])) = H18 at hus17 FG17 h11e h9e h10f tv10f tv11f ⊢
  clear keep up E137 E17
  walk_at "rd"
  refine rd_eqLsts (okSs zs) (by decide) (.of h11e) tv11f (.of h10f) tv10f ?_
  walk_at "rd"
  refine call FG17 (.of h9e) (rows_p hus17) fun r19 H19 us19 zs19 hr19 E19 h19 tv19 hS19 => ?_
  obtain rfl := uniq hS hS19
  walk_at "rd"
  refine rd_eqLsts (okSs zs) (by decide) (.of h19) tv19 (.of (E19 _ _ h10f)) (tva_ex tv10f E19) ?_
  exact q _
end
end KF
open PySem PySem.Spec PyProof.Rows L2 Qa Qr
open Qg Qe Qi Qm Qw Qy


namespace KF
section
variable {P : Program} {w : World} {K : PySem.W.Frag} {mg : Str → Option Value} {base : Heap} {H : Hp} {Q : VK} {E : XK}
theorem all {cL PL : Addr} (T : Tx K w mg) (C1 : CodeIs K mg "least" cL) (B1 : GxR.TabB base mg cL PL) : Cal P w K mg base "law" 30 plaw (spLaw K PL) := by
  have a1 := k_is_whole (P := P) (base := base) T
  have a2 := k_is_within T a1
  have a3 := k_is_number T a2
  have a4 := k_is_percent T a2
  have a5 := k_is_place T a1 a2
  have a6 := k_is_word (P := P) (base := base) T
  have a7 := k__has_form (P := P) (base := base) T
  have a8 := k_is_rule T (k_rwn T a7 a3 a4 a6 a5 8)
  have a9 := k_named T (k_behn (P := P) (base := base) T 8)
  have t1 := k_is_table T (k__is_row T a3 a4) (k__starts_rise T)
  have r1 := k_ring_of T (k__lines_named T a9 a5) (k__ring_from T)
  have f1 := k_form_of T (k__need_tables T t1) (k__need_sizes T a2 a5) (k__need_rules T a8) r1
  have o1 := k_order_of T (k__lines_namedT T a9 a5)
  have h1 := k_hundredths (P := P) (base := base) T
  have n1 := k_at_number T h1
  have w1 := k_worthn T h1 n1 8
  have l1 := k_lines_of T (k_Sheet___init__ T) w1
  have s1 := kx_sums T o1 (kx_papers_of T (k_is_paper T a6 a3)) (k__with_a_year_more T (k__rows T) l1)
  have s2 := kx_least T B1 C1 s1
  have b1 := k__law_next (P := P) (base := base) T
  have b2 := k__law_number T b1
  have b3 := k__law_plain T b1 b2
  have b4 := k_lrulen T b1 b3 7
  have b5 := k__law_form T (k__law_mixed T) (k__law_cell_at T) b1 (k__law_sizes T) (k__law_words T b1) (k__law_order T b1) b4 (k__law_table T b1 b2)
  have c1 := k__law_all (P := P) (base := base) T (k__law_row T (k_lnamedn T 8)) (k__law_choices T) (k__law_sum T (k__law_reckoned T (k_lvaluen T (k__law_at T) 8)))
  have c2 := k__law_refused (P := P) (base := base) T (k__law_tried T s1 s2) (k__law_any T s1 (k__law_alone T))
  exact (k_law T (k__law_cell_at T) (k__law_mixed T) b5 f1 b1 (k__law_papers T b1 b2) c2 c1 (k__law_kinds T (k__law_whole T)) s1 s2).mono (by omega)
end
end KF
open PySem PySem.Spec PyProof.Rows L2 Qa Qr


namespace KF

theorem tx_mk {K : PySem.W.Frag} {w : World} {mg : Str → Option Value} {h : Heap} (X : K.In h) (G : h.Ns mainGlobals mg) {f0 f1 f2 f3 f4 f5 f6 f7 f8 f9 f10 f11 f12 f13 f14 f15 f16 f17 f18 f19 f20 f21 f22 f23 f24 f25 f26 f27 f28 f29 f30 f31 f32 f33 f34 f35 f36 f37 f38 f39 f40 f41 f42 f43 f44 f45 f46 f47 f48 f49 f50 f51 f52 f53 f54 f55 f56 f57 f58 f59 f60 : Addr} {od0 an0 od1 an1 od2 an2 od3 an3 od4 an4 od5 an5 od6 an6 od7 an7 od8 an8 od9 an9 od10 an10 od11 an11 od12 an12 od13 an13 od14 an14 od15 an15 od16 an16 od17 an17 od18 an18 od19 an19 od20 an20 od21 an21 od22 an22 od23 an23 od24 an24 od25 an25 od26 an26 od27 an27 od28 an28 od29 an29 od30 an30 od31 an31 od32 an32 od33 an33 od34 an34 od35 an35 od36 an36 od37 an37 od38 an38 od39 an39 od40 an40 od41 an41 od42 an42 od43 an43 od44 an44 od45 an45 od46 an46 od47 an47 od48 an48 od49 an49 od50 an50 od51 an51 od52 an52 od53 an53 od54 an54 od55 an55 od56 an56 od57 an57 od58 an58 od59 an59 od60 an60 : Option Addr} {sl0 sl1 sl2 sl3 sl4 sl5 sl6 sl7 sl8 sl9 sl10 sl11 sl12 sl13 sl14 sl15 sl16 sl17 sl18 sl19 sl20 sl21 sl22 sl23 sl24 sl25 sl26 sl27 sl28 sl29 sl30 sl31 sl32 sl33 sl34 sl35 sl36 sl37 sl38 sl39 sl40 sl41 sl42 sl43 sl44 sl45 sl46 sl47 sl48 sl49 sl50 sl51 sl52 sl53 sl54 sl55 sl56 sl57 sl58 sl59 sl60 : Array (Option Value)} {oc0 kV0 dc0 pm0 cd0 ct0 oc1 kV1 dc1 pm1 cd1 ct1 oc2 kV2 dc2 pm2 cd2 ct2 oc3 kV3 dc3 pm3 cd3 ct3 oc4 kV4 dc4 pm4 cd4 ct4 oc5 kV5 dc5 pm5 cd5 ct5 oc6 kV6 dc6 pm6 cd6 ct6 oc7 kV7 dc7 pm7 cd7 ct7 oc8 kV8 dc8 pm8 cd8 ct8 oc9 kV9 dc9 pm9 cd9 ct9 oc10 kV10 dc10 pm10 cd10 ct10 oc11 kV11 dc11 pm11 cd11 ct11 oc12 kV12 dc12 pm12 cd12 ct12 oc13 kV13 dc13 pm13 cd13 ct13 oc14 kV14 dc14 pm14 cd14 ct14 oc15 kV15 dc15 pm15 cd15 ct15 oc16 kV16 dc16 pm16 cd16 ct16 oc17 kV17 dc17 pm17 cd17 ct17 oc18 kV18 dc18 pm18 cd18 ct18 oc19 kV19 dc19 pm19 cd19 ct19 oc20 kV20 dc20 pm20 cd20 ct20 oc21 kV21 dc21 pm21 cd21 ct21 oc22 kV22 dc22 pm22 cd22 ct22 oc23 kV23 dc23 pm23 cd23 ct23 oc24 kV24 dc24 pm24 cd24 ct24 oc25 kV25 dc25 pm25 cd25 ct25 oc26 kV26 dc26 pm26 cd26 ct26 oc27 kV27 dc27 pm27 cd27 ct27 oc28 kV28 dc28 pm28 cd28 ct28 oc29 kV29 dc29 pm29 cd29 ct29 oc30 kV30 dc30 pm30 cd30 ct30 oc31 kV31 dc31 pm31 cd31 ct31 oc32 kV32 dc32 pm32 cd32 ct32 oc33 kV33 dc33 pm33 cd33 ct33 oc34 kV34 dc34 pm34 cd34 ct34 oc35 kV35 dc35 pm35 cd35 ct35 oc36 kV36 dc36 pm36 cd36 ct36 oc37 kV37 dc37 pm37 cd37 ct37 oc38 kV38 dc38 pm38 cd38 ct38 oc39 kV39 dc39 pm39 cd39 ct39 oc40 kV40 dc40 pm40 cd40 ct40 oc41 kV41 dc41 pm41 cd41 ct41 oc42 kV42 dc42 pm42 cd42 ct42 oc43 kV43 dc43 pm43 cd43 ct43 oc44 kV44 dc44 pm44 cd44 ct44 oc45 kV45 dc45 pm45 cd45 ct45 oc46 kV46 dc46 pm46 cd46 ct46 oc47 kV47 dc47 pm47 cd47 ct47 oc48 kV48 dc48 pm48 cd48 ct48 oc49 kV49 dc49 pm49 cd49 ct49 oc50 kV50 dc50 pm50 cd50 ct50 oc51 kV51 dc51 pm51 cd51 ct51 oc52 kV52 dc52 pm52 cd52 ct52 oc53 kV53 dc53 pm53 cd53 ct53 oc54 kV54 dc54 pm54 cd54 ct54 oc55 kV55 dc55 pm55 cd55 ct55 oc56 kV56 dc56 pm56 cd56 ct56 oc57 kV57 dc57 pm57 cd57 ct57 oc58 kV58 dc58 pm58 cd58 ct58 oc59 kV59 dc59 pm59 cd59 ct59 oc60 kV60 dc60 pm60 cd60 ct60 : Value} {t0 t1 t2 t3 t4 t5 t6 t7 t8 t9 t10 t11 t12 t13 t14 : Tok} {e0 : Addr} {es0 : Array DictEntry} {n0 : Nat} {ec0 ec1 ec2 ec3 ec4 ec5 ec6 ec7 ec8 ec9 : Addr} {cc0 : Addr} {mf0 : Addr} {mod0 man0 : Option Addr} {msl0 : Array (Option Value)} {moc0 mkV0 mdc0 mpm0 mcd0 mct0 : Value}
    (z0 : PySem.W.nsIn K mainGlobals "ValueError" = some none)
    (z1 : PySem.W.nsIn K mainGlobals "sorted" = some none)
    (z2 : PySem.W.nsIn K mainGlobals "zip" = some none)
    (z3 : PySem.W.nsIn K mainGlobals "range" = some none)
    (z4 : PySem.W.nsIn K mainGlobals "max" = some none)
    (z5 : PySem.W.nsIn K mainGlobals "min" = some none)
    (z6 : PySem.W.nsIn K mainGlobals "tuple" = some none)
    (z7 : PySem.W.nsIn K mainGlobals "list" = some none)
    (z8 : PySem.W.nsIn K mainGlobals "isinstance" = some none)
    (z9 : PySem.W.nsIn K mainGlobals "int" = some none)
    (z10 : PySem.W.nsIn K mainGlobals "set" = some none)
    (z11 : PySem.W.nsIn K mainGlobals "len" = some none)
    (z12 : PySem.W.nsIn K mainGlobals "enumerate" = some none)
    (z13 : PySem.W.nsIn K mainGlobals "sum" = some none)
    (z14 : PySem.W.nsIn K mainGlobals "bool" = some none)
    (z15 : PySem.W.nsIn K mainGlobals "str" = some none)
    (z16 : PySem.W.nsIn K mainGlobals "dict" = some none)
    (w0 : PySem.W.nsIn K mainGlobals "FARTHEST" = some (some (.int 1000000000 t0)))
    (w1 : PySem.W.nsIn K mainGlobals "FULL_PERCENT" = some (some (.int 100 t1)))
    (w2 : PySem.W.nsIn K mainGlobals "DEEPEST" = some (some (.int 8 t2)))
    (w3 : PySem.W.nsIn K mainGlobals "LONGEST_WORD" = some (some (.int 8 t3)))
    (w4 : PySem.W.nsIn K mainGlobals "LETTERS" = some (some (.str "abcdefghijklmnopqrstuvwxyz" t4)))
    (w5 : PySem.W.nsIn K mainGlobals "MOST_ROWS" = some (some (.int 20 t5)))
    (w6 : PySem.W.nsIn K mainGlobals "ROW_PARTS" = some (some (.int 3 t6)))
    (w7 : PySem.W.nsIn K mainGlobals "MOST_LINES" = some (some (.int 40 t7)))
    (w8 : PySem.W.nsIn K mainGlobals "MOST_TABLES" = some (some (.int 5 t8)))
    (w9 : PySem.W.nsIn K mainGlobals "MOST_CHOICES" = some (some (.int 8 t9)))
    (w10 : PySem.W.nsIn K mainGlobals "LINES" = some (some (.int 0 t10)))
    (w11 : PySem.W.nsIn K mainGlobals "TABLES" = some (some (.int 1 t11)))
    (w12 : PySem.W.nsIn K mainGlobals "CHOICES" = some (some (.int 2 t12)))
    (w13 : PySem.W.nsIn K mainGlobals "OWED" = some (some (.int 3 t13)))
    (w14 : PySem.W.nsIn K mainGlobals "MOST_IN_ALL" = some (some (.int 8 t14)))
    (da0 : PySem.W.nsIn K mainGlobals "PARTS" = some (some (.ref e0))) (dl0 : K.lookup e0 = some ⟨.type "dict", none, .dict es0 n0, #[]⟩) (dm0 : (e0 == sysModules) = false) (dp0 : Paired (EntIs K w) es0.toList tPARTS)
    (hq_heappop : PySem.W.nsIn K mainGlobals "heappop" = some (some (.builtin "_heapq.heappop")))
    (hq_heappush : PySem.W.nsIn K mainGlobals "heappush" = some (some (.builtin "_heapq.heappush")))
    (ea0 : PySem.W.nsIn K mainGlobals "FormError" = some (some (.ref ec0))) (ex0 : PySem.W.excIn K ec0 [.type "ValueError", .type "Exception", .type "BaseException", .type "object"] "ValueError.__new__" = true) (ek0 : PySem.W.keepIn K (.ref ec0) = true) (eb0 : PySem.W.subIn K (.ref ec0) (.type "BaseException") = some true) (et0 : PySem.W.typeIn K (.ref ec0) = some (.type "type")) (ed0 : PySem.W.hasDictIn K ec0 = true)
    (ea1 : PySem.W.nsIn K mainGlobals "NoTable" = some (some (.ref ec1))) (ex1 : PySem.W.excIn K ec1 [.type "ValueError", .type "Exception", .type "BaseException", .type "object"] "ValueError.__new__" = true) (ek1 : PySem.W.keepIn K (.ref ec1) = true) (eb1 : PySem.W.subIn K (.ref ec1) (.type "BaseException") = some true) (et1 : PySem.W.typeIn K (.ref ec1) = some (.type "type")) (ed1 : PySem.W.hasDictIn K ec1 = true)
    (ea2 : PySem.W.nsIn K mainGlobals "NoForm" = some (some (.ref ec2))) (ex2 : PySem.W.excIn K ec2 [.type "ValueError", .type "Exception", .type "BaseException", .type "object"] "ValueError.__new__" = true) (ek2 : PySem.W.keepIn K (.ref ec2) = true) (eb2 : PySem.W.subIn K (.ref ec2) (.type "BaseException") = some true) (et2 : PySem.W.typeIn K (.ref ec2) = some (.type "type")) (ed2 : PySem.W.hasDictIn K ec2 = true)
    (ea3 : PySem.W.nsIn K mainGlobals "NoRule" = some (some (.ref ec3))) (ex3 : PySem.W.excIn K ec3 [.type "ValueError", .type "Exception", .type "BaseException", .type "object"] "ValueError.__new__" = true) (ek3 : PySem.W.keepIn K (.ref ec3) = true) (eb3 : PySem.W.subIn K (.ref ec3) (.type "BaseException") = some true) (et3 : PySem.W.typeIn K (.ref ec3) = some (.type "type")) (ed3 : PySem.W.hasDictIn K ec3 = true)
    (ea4 : PySem.W.nsIn K mainGlobals "Ring" = some (some (.ref ec4))) (ex4 : PySem.W.excIn K ec4 [.type "ValueError", .type "Exception", .type "BaseException", .type "object"] "ValueError.__new__" = true) (ek4 : PySem.W.keepIn K (.ref ec4) = true) (eb4 : PySem.W.subIn K (.ref ec4) (.type "BaseException") = some true) (et4 : PySem.W.typeIn K (.ref ec4) = some (.type "type")) (ed4 : PySem.W.hasDictIn K ec4 = true)
    (ea5 : PySem.W.nsIn K mainGlobals "NoPaper" = some (some (.ref ec5))) (ex5 : PySem.W.excIn K ec5 [.type "ValueError", .type "Exception", .type "BaseException", .type "object"] "ValueError.__new__" = true) (ek5 : PySem.W.keepIn K (.ref ec5) = true) (eb5 : PySem.W.subIn K (.ref ec5) (.type "BaseException") = some true) (et5 : PySem.W.typeIn K (.ref ec5) = some (.type "type")) (ed5 : PySem.W.hasDictIn K ec5 = true)
    (ea6 : PySem.W.nsIn K mainGlobals "NoYear" = some (some (.ref ec6))) (ex6 : PySem.W.excIn K ec6 [.type "ValueError", .type "Exception", .type "BaseException", .type "object"] "ValueError.__new__" = true) (ek6 : PySem.W.keepIn K (.ref ec6) = true) (eb6 : PySem.W.subIn K (.ref ec6) (.type "BaseException") = some true) (et6 : PySem.W.typeIn K (.ref ec6) = some (.type "type")) (ed6 : PySem.W.hasDictIn K ec6 = true)
    (ea7 : PySem.W.nsIn K mainGlobals "NoLine" = some (some (.ref ec7))) (ex7 : PySem.W.excIn K ec7 [.type "ValueError", .type "Exception", .type "BaseException", .type "object"] "ValueError.__new__" = true) (ek7 : PySem.W.keepIn K (.ref ec7) = true) (eb7 : PySem.W.subIn K (.ref ec7) (.type "BaseException") = some true) (et7 : PySem.W.typeIn K (.ref ec7) = some (.type "type")) (ed7 : PySem.W.hasDictIn K ec7 = true)
    (ea8 : PySem.W.nsIn K mainGlobals "NoChoice" = some (some (.ref ec8))) (ex8 : PySem.W.excIn K ec8 [.type "ValueError", .type "Exception", .type "BaseException", .type "object"] "ValueError.__new__" = true) (ek8 : PySem.W.keepIn K (.ref ec8) = true) (eb8 : PySem.W.subIn K (.ref ec8) (.type "BaseException") = some true) (et8 : PySem.W.typeIn K (.ref ec8) = some (.type "type")) (ed8 : PySem.W.hasDictIn K ec8 = true)
    (ea9 : PySem.W.nsIn K mainGlobals "TooMany" = some (some (.ref ec9))) (ex9 : PySem.W.excIn K ec9 [.type "ValueError", .type "Exception", .type "BaseException", .type "object"] "ValueError.__new__" = true) (ek9 : PySem.W.keepIn K (.ref ec9) = true) (eb9 : PySem.W.subIn K (.ref ec9) (.type "BaseException") = some true) (et9 : PySem.W.typeIn K (.ref ec9) = some (.type "type")) (ed9 : PySem.W.hasDictIn K ec9 = true)
    (eq0 : PySem.W.subIn K (.ref ec4) (.ref ec9) = some false)
    (eq1 : PySem.W.subIn K (.ref ec4) (.ref ec5) = some false)
    (eq2 : PySem.W.subIn K (.ref ec4) (.ref ec0) = some true)
    (eq3 : PySem.W.subIn K (.ref ec1) (.ref ec9) = some false)
    (eq4 : PySem.W.subIn K (.ref ec1) (.ref ec5) = some false)
    (eq5 : PySem.W.subIn K (.ref ec1) (.ref ec0) = some true)
    (eq6 : PySem.W.subIn K (.ref ec2) (.ref ec9) = some false)
    (eq7 : PySem.W.subIn K (.ref ec2) (.ref ec5) = some false)
    (eq8 : PySem.W.subIn K (.ref ec2) (.ref ec0) = some true)
    (eq9 : PySem.W.subIn K (.ref ec9) (.ref ec9) = some true)
    (eq10 : PySem.W.subIn K (.ref ec9) (.ref ec5) = some false)
    (eq11 : PySem.W.subIn K (.ref ec9) (.ref ec0) = some true)
    (eq12 : PySem.W.subIn K (.ref ec3) (.ref ec9) = some false)
    (eq13 : PySem.W.subIn K (.ref ec3) (.ref ec5) = some false)
    (eq14 : PySem.W.subIn K (.ref ec3) (.ref ec0) = some true)
    (eq15 : PySem.W.subIn K (.ref ec5) (.ref ec9) = some false)
    (eq16 : PySem.W.subIn K (.ref ec5) (.ref ec5) = some true)
    (eq17 : PySem.W.subIn K (.ref ec5) (.ref ec0) = some true)
    (eg0 : ExcC K ec4)
    (eg1 : ExcC K ec1)
    (eg2 : ExcC K ec2)
    (eg3 : ExcC K ec9)
    (eg4 : ExcC K ec3)
    (eg5 : ExcC K ec5)
    (ey0 : PySem.W.kitOne K (.ref ec4) (.ref ec3) = some false)
    (ey1 : PySem.W.kitOne K (.ref ec4) (.ref ec6) = some false)
    (ey2 : PySem.W.kitOne K (.ref ec4) (.ref ec9) = some false)
    (ey3 : PySem.W.kitOne K (.ref ec4) (.ref ec1) = some false)
    (ey4 : PySem.W.kitOne K (.ref ec4) (.ref ec2) = some false)
    (ey5 : PySem.W.kitOne K (.ref ec4) (.ref ec5) = some false)
    (ey6 : PySem.W.kitOne K (.ref ec4) (.ref ec8) = some false)
    (ey7 : PySem.W.kitOne K (.ref ec4) (.ref ec4) = some true)
    (ey8 : PySem.W.kitOne K (.ref ec4) (.ref ec7) = some false)
    (ey9 : PySem.W.kitOne K (.ref ec4) (.type "ValueError") = some true)
    (ey10 : PySem.W.kitOne K (.ref ec1) (.ref ec3) = some false)
    (ey11 : PySem.W.kitOne K (.ref ec1) (.ref ec6) = some false)
    (ey12 : PySem.W.kitOne K (.ref ec1) (.ref ec9) = some false)
    (ey13 : PySem.W.kitOne K (.ref ec1) (.ref ec1) = some true)
    (ey14 : PySem.W.kitOne K (.ref ec1) (.ref ec2) = some false)
    (ey15 : PySem.W.kitOne K (.ref ec1) (.ref ec5) = some false)
    (ey16 : PySem.W.kitOne K (.ref ec1) (.ref ec8) = some false)
    (ey17 : PySem.W.kitOne K (.ref ec1) (.ref ec4) = some false)
    (ey18 : PySem.W.kitOne K (.ref ec1) (.ref ec7) = some false)
    (ey19 : PySem.W.kitOne K (.ref ec1) (.type "ValueError") = some true)
    (ey20 : PySem.W.kitOne K (.ref ec2) (.ref ec3) = some false)
    (ey21 : PySem.W.kitOne K (.ref ec2) (.ref ec6) = some false)
    (ey22 : PySem.W.kitOne K (.ref ec2) (.ref ec9) = some false)
    (ey23 : PySem.W.kitOne K (.ref ec2) (.ref ec1) = some false)
    (ey24 : PySem.W.kitOne K (.ref ec2) (.ref ec2) = some true)
    (ey25 : PySem.W.kitOne K (.ref ec2) (.ref ec5) = some false)
    (ey26 : PySem.W.kitOne K (.ref ec2) (.ref ec8) = some false)
    (ey27 : PySem.W.kitOne K (.ref ec2) (.ref ec4) = some false)
    (ey28 : PySem.W.kitOne K (.ref ec2) (.ref ec7) = some false)
    (ey29 : PySem.W.kitOne K (.ref ec2) (.type "ValueError") = some true)
    (ey30 : PySem.W.kitOne K (.ref ec9) (.ref ec3) = some false)
    (ey31 : PySem.W.kitOne K (.ref ec9) (.ref ec6) = some false)
    (ey32 : PySem.W.kitOne K (.ref ec9) (.ref ec9) = some true)
    (ey33 : PySem.W.kitOne K (.ref ec9) (.ref ec1) = some false)
    (ey34 : PySem.W.kitOne K (.ref ec9) (.ref ec2) = some false)
    (ey35 : PySem.W.kitOne K (.ref ec9) (.ref ec5) = some false)
    (ey36 : PySem.W.kitOne K (.ref ec9) (.ref ec8) = some false)
    (ey37 : PySem.W.kitOne K (.ref ec9) (.ref ec4) = some false)
    (ey38 : PySem.W.kitOne K (.ref ec9) (.ref ec7) = some false)
    (ey39 : PySem.W.kitOne K (.ref ec9) (.type "ValueError") = some true)
    (ey40 : PySem.W.kitOne K (.ref ec3) (.ref ec3) = some true)
    (ey41 : PySem.W.kitOne K (.ref ec3) (.ref ec6) = some false)
    (ey42 : PySem.W.kitOne K (.ref ec3) (.ref ec9) = some false)
    (ey43 : PySem.W.kitOne K (.ref ec3) (.ref ec1) = some false)
    (ey44 : PySem.W.kitOne K (.ref ec3) (.ref ec2) = some false)
    (ey45 : PySem.W.kitOne K (.ref ec3) (.ref ec5) = some false)
    (ey46 : PySem.W.kitOne K (.ref ec3) (.ref ec8) = some false)
    (ey47 : PySem.W.kitOne K (.ref ec3) (.ref ec4) = some false)
    (ey48 : PySem.W.kitOne K (.ref ec3) (.ref ec7) = some false)
    (ey49 : PySem.W.kitOne K (.ref ec3) (.type "ValueError") = some true)
    (ey50 : PySem.W.kitOne K (.ref ec5) (.ref ec3) = some false)
    (ey51 : PySem.W.kitOne K (.ref ec5) (.ref ec6) = some false)
    (ey52 : PySem.W.kitOne K (.ref ec5) (.ref ec9) = some false)
    (ey53 : PySem.W.kitOne K (.ref ec5) (.ref ec1) = some false)
    (ey54 : PySem.W.kitOne K (.ref ec5) (.ref ec2) = some false)
    (ey55 : PySem.W.kitOne K (.ref ec5) (.ref ec5) = some true)
    (ey56 : PySem.W.kitOne K (.ref ec5) (.ref ec8) = some false)
    (ey57 : PySem.W.kitOne K (.ref ec5) (.ref ec4) = some false)
    (ey58 : PySem.W.kitOne K (.ref ec5) (.ref ec7) = some false)
    (ey59 : PySem.W.kitOne K (.ref ec5) (.type "ValueError") = some true)
    (ua0 : PySem.W.nsIn K mainGlobals "Sheet" = some (some (.ref cc0))) (ub0 : PySem.W.plainGet K cc0 Str.empty = true) (uc0 : PySem.W.hasDictIn K cc0 = true) (ud0 : PySem.W.plainOver K cc0 = true) (ue0 : PySem.W.findIn K (.ref cc0) "__setattr__" = some (some (.builtin "object.__setattr__"))) (uf0 : PySem.W.makesIn K cc0 = true) (ug0 : PySem.W.keepIn K (.ref cc0) = true)
    (un0_0 : PySem.W.findIn K (.ref cc0) "tables" = some none)
    (un0_1 : PySem.W.findIn K (.ref cc0) "papers" = some none)
    (un0_2 : PySem.W.findIn K (.ref cc0) "earlier" = some none)
    (un0_3 : PySem.W.findIn K (.ref cc0) "taken" = some none)
    (un0_4 : PySem.W.findIn K (.ref cc0) "lines" = some none)
    (ma0 : PySem.W.findIn K (.ref cc0) "__init__" = some (some (.ref mf0))) (mi0 : PySem.W.isFn K (.ref mf0) = true) (ml0 : K.lookup mf0 = some ⟨moc0, mod0, .func (PySem.W.fnOf "__init__" "Sheet.__init__" (defArgs sSheet___init__) (defBody sSheet___init__) (defScope sSheet___init__) .none mkV0 mdc0 mpm0 man0 mcd0 mct0), msl0⟩) (mc0 : PySem.W.codeIn K mcd0 "Sheet.__init__" = true) (mk0 : PySem.W.keepIn K (.ref mf0) = true)
    (a0 : PySem.W.nsIn K mainGlobals "is_whole" = some (some (.ref f0))) (l0 : K.lookup f0 = some ⟨oc0, od0, .func (PySem.W.fnOf "is_whole" "is_whole" (defArgs sis_whole) (defBody sis_whole) (defScope sis_whole) .none kV0 dc0 pm0 an0 cd0 ct0), sl0⟩) (c0 : PySem.W.codeIn K cd0 "is_whole" = true) (k0 : PySem.W.keepIn K (.ref f0) = true)
    (a1 : PySem.W.nsIn K mainGlobals "is_within" = some (some (.ref f1))) (l1 : K.lookup f1 = some ⟨oc1, od1, .func (PySem.W.fnOf "is_within" "is_within" (defArgs sis_within) (defBody sis_within) (defScope sis_within) .none kV1 dc1 pm1 an1 cd1 ct1), sl1⟩) (c1 : PySem.W.codeIn K cd1 "is_within" = true) (k1 : PySem.W.keepIn K (.ref f1) = true)
    (a2 : PySem.W.nsIn K mainGlobals "is_number" = some (some (.ref f2))) (l2 : K.lookup f2 = some ⟨oc2, od2, .func (PySem.W.fnOf "is_number" "is_number" (defArgs sis_number) (defBody sis_number) (defScope sis_number) .none kV2 dc2 pm2 an2 cd2 ct2), sl2⟩) (c2 : PySem.W.codeIn K cd2 "is_number" = true) (k2 : PySem.W.keepIn K (.ref f2) = true)
    (a3 : PySem.W.nsIn K mainGlobals "is_percent" = some (some (.ref f3))) (l3 : K.lookup f3 = some ⟨oc3, od3, .func (PySem.W.fnOf "is_percent" "is_percent" (defArgs sis_percent) (defBody sis_percent) (defScope sis_percent) .none kV3 dc3 pm3 an3 cd3 ct3), sl3⟩) (c3 : PySem.W.codeIn K cd3 "is_percent" = true) (k3 : PySem.W.keepIn K (.ref f3) = true)
    (a4 : PySem.W.nsIn K mainGlobals "is_place" = some (some (.ref f4))) (l4 : K.lookup f4 = some ⟨oc4, od4, .func (PySem.W.fnOf "is_place" "is_place" (defArgs sis_place) (defBody sis_place) (defScope sis_place) .none kV4 dc4 pm4 an4 cd4 ct4), sl4⟩) (c4 : PySem.W.codeIn K cd4 "is_place" = true) (k4 : PySem.W.keepIn K (.ref f4) = true)
    (a5 : PySem.W.nsIn K mainGlobals "hundredths" = some (some (.ref f5))) (l5 : K.lookup f5 = some ⟨oc5, od5, .func (PySem.W.fnOf "hundredths" "hundredths" (defArgs shundredths) (defBody shundredths) (defScope shundredths) .none kV5 dc5 pm5 an5 cd5 ct5), sl5⟩) (c5 : PySem.W.codeIn K cd5 "hundredths" = true) (k5 : PySem.W.keepIn K (.ref f5) = true)
    (a6 : PySem.W.nsIn K mainGlobals "is_rule" = some (some (.ref f6))) (l6 : K.lookup f6 = some ⟨oc6, od6, .func (PySem.W.fnOf "is_rule" "is_rule" (defArgs sis_rule) (defBody sis_rule) (defScope sis_rule) .none kV6 dc6 pm6 an6 cd6 ct6), sl6⟩) (c6 : PySem.W.codeIn K cd6 "is_rule" = true) (k6 : PySem.W.keepIn K (.ref f6) = true)
    (a7 : PySem.W.nsIn K mainGlobals "is_word" = some (some (.ref f7))) (l7 : K.lookup f7 = some ⟨oc7, od7, .func (PySem.W.fnOf "is_word" "is_word" (defArgs sis_word) (defBody sis_word) (defScope sis_word) .none kV7 dc7 pm7 an7 cd7 ct7), sl7⟩) (c7 : PySem.W.codeIn K cd7 "is_word" = true) (k7 : PySem.W.keepIn K (.ref f7) = true)
    (a8 : PySem.W.nsIn K mainGlobals "named" = some (some (.ref f8))) (l8 : K.lookup f8 = some ⟨oc8, od8, .func (PySem.W.fnOf "named" "named" (defArgs snamed) (defBody snamed) (defScope snamed) .none kV8 dc8 pm8 an8 cd8 ct8), sl8⟩) (c8 : PySem.W.codeIn K cd8 "named" = true) (k8 : PySem.W.keepIn K (.ref f8) = true)
    (a9 : PySem.W.nsIn K mainGlobals "_is_rule_within" = some (some (.ref f9))) (l9 : K.lookup f9 = some ⟨oc9, od9, .func (PySem.W.fnOf "_is_rule_within" "_is_rule_within" (defArgs s_is_rule_within) (defBody s_is_rule_within) (defScope s_is_rule_within) .none kV9 dc9 pm9 an9 cd9 ct9), sl9⟩) (c9 : PySem.W.codeIn K cd9 "_is_rule_within" = true) (k9 : PySem.W.keepIn K (.ref f9) = true)
    (a10 : PySem.W.nsIn K mainGlobals "_has_form" = some (some (.ref f10))) (l10 : K.lookup f10 = some ⟨oc10, od10, .func (PySem.W.fnOf "_has_form" "_has_form" (defArgs s_has_form) (defBody s_has_form) (defScope s_has_form) .none kV10 dc10 pm10 an10 cd10 ct10), sl10⟩) (c10 : PySem.W.codeIn K cd10 "_has_form" = true) (k10 : PySem.W.keepIn K (.ref f10) = true)
    (a11 : PySem.W.nsIn K mainGlobals "_is_part" = some (some (.ref f11))) (l11 : K.lookup f11 = some ⟨oc11, od11, .func (PySem.W.fnOf "_is_part" "_is_part" (defArgs s_is_part) (defBody s_is_part) (defScope s_is_part) .none kV11 dc11 pm11 an11 cd11 ct11), sl11⟩) (c11 : PySem.W.codeIn K cd11 "_is_part" = true) (k11 : PySem.W.keepIn K (.ref f11) = true)
    (a12 : PySem.W.nsIn K mainGlobals "_behind" = some (some (.ref f12))) (l12 : K.lookup f12 = some ⟨oc12, od12, .func (PySem.W.fnOf "_behind" "_behind" (defArgs s_behind) (defBody s_behind) (defScope s_behind) .none kV12 dc12 pm12 an12 cd12 ct12), sl12⟩) (c12 : PySem.W.codeIn K cd12 "_behind" = true) (k12 : PySem.W.keepIn K (.ref f12) = true)
    (a13 : PySem.W.nsIn K mainGlobals "is_table" = some (some (.ref f13))) (l13 : K.lookup f13 = some ⟨oc13, od13, .func (PySem.W.fnOf "is_table" "is_table" (defArgs sis_table) (defBody sis_table) (defScope sis_table) .none kV13 dc13 pm13 an13 cd13 ct13), sl13⟩) (c13 : PySem.W.codeIn K cd13 "is_table" = true) (k13 : PySem.W.keepIn K (.ref f13) = true)
    (a14 : PySem.W.nsIn K mainGlobals "at_number" = some (some (.ref f14))) (l14 : K.lookup f14 = some ⟨oc14, od14, .func (PySem.W.fnOf "at_number" "at_number" (defArgs sat_number) (defBody sat_number) (defScope sat_number) .none kV14 dc14 pm14 an14 cd14 ct14), sl14⟩) (c14 : PySem.W.codeIn K cd14 "at_number" = true) (k14 : PySem.W.keepIn K (.ref f14) = true)
    (a15 : PySem.W.nsIn K mainGlobals "_is_row" = some (some (.ref f15))) (l15 : K.lookup f15 = some ⟨oc15, od15, .func (PySem.W.fnOf "_is_row" "_is_row" (defArgs s_is_row) (defBody s_is_row) (defScope s_is_row) .none kV15 dc15 pm15 an15 cd15 ct15), sl15⟩) (c15 : PySem.W.codeIn K cd15 "_is_row" = true) (k15 : PySem.W.keepIn K (.ref f15) = true)
    (a16 : PySem.W.nsIn K mainGlobals "_starts_rise" = some (some (.ref f16))) (l16 : K.lookup f16 = some ⟨oc16, od16, .func (PySem.W.fnOf "_starts_rise" "_starts_rise" (defArgs s_starts_rise) (defBody s_starts_rise) (defScope s_starts_rise) .none kV16 dc16 pm16 an16 cd16 ct16), sl16⟩) (c16 : PySem.W.codeIn K cd16 "_starts_rise" = true) (k16 : PySem.W.keepIn K (.ref f16) = true)
    (a17 : PySem.W.nsIn K mainGlobals "form_of" = some (some (.ref f17))) (l17 : K.lookup f17 = some ⟨oc17, od17, .func (PySem.W.fnOf "form_of" "form_of" (defArgs sform_of) (defBody sform_of) (defScope sform_of) .none kV17 dc17 pm17 an17 cd17 ct17), sl17⟩) (c17 : PySem.W.codeIn K cd17 "form_of" = true) (k17 : PySem.W.keepIn K (.ref f17) = true)
    (a18 : PySem.W.nsIn K mainGlobals "ring_of" = some (some (.ref f18))) (l18 : K.lookup f18 = some ⟨oc18, od18, .func (PySem.W.fnOf "ring_of" "ring_of" (defArgs sring_of) (defBody sring_of) (defScope sring_of) .none kV18 dc18 pm18 an18 cd18 ct18), sl18⟩) (c18 : PySem.W.codeIn K cd18 "ring_of" = true) (k18 : PySem.W.keepIn K (.ref f18) = true)
    (a19 : PySem.W.nsIn K mainGlobals "order_of" = some (some (.ref f19))) (l19 : K.lookup f19 = some ⟨oc19, od19, .func (PySem.W.fnOf "order_of" "order_of" (defArgs sorder_of) (defBody sorder_of) (defScope sorder_of) .none kV19 dc19 pm19 an19 cd19 ct19), sl19⟩) (c19 : PySem.W.codeIn K cd19 "order_of" = true) (k19 : PySem.W.keepIn K (.ref f19) = true)
    (a20 : PySem.W.nsIn K mainGlobals "_need_tables" = some (some (.ref f20))) (l20 : K.lookup f20 = some ⟨oc20, od20, .func (PySem.W.fnOf "_need_tables" "_need_tables" (defArgs s_need_tables) (defBody s_need_tables) (defScope s_need_tables) .none kV20 dc20 pm20 an20 cd20 ct20), sl20⟩) (c20 : PySem.W.codeIn K cd20 "_need_tables" = true) (k20 : PySem.W.keepIn K (.ref f20) = true)
    (a21 : PySem.W.nsIn K mainGlobals "_need_sizes" = some (some (.ref f21))) (l21 : K.lookup f21 = some ⟨oc21, od21, .func (PySem.W.fnOf "_need_sizes" "_need_sizes" (defArgs s_need_sizes) (defBody s_need_sizes) (defScope s_need_sizes) .none kV21 dc21 pm21 an21 cd21 ct21), sl21⟩) (c21 : PySem.W.codeIn K cd21 "_need_sizes" = true) (k21 : PySem.W.keepIn K (.ref f21) = true)
    (a22 : PySem.W.nsIn K mainGlobals "_need_rules" = some (some (.ref f22))) (l22 : K.lookup f22 = some ⟨oc22, od22, .func (PySem.W.fnOf "_need_rules" "_need_rules" (defArgs s_need_rules) (defBody s_need_rules) (defScope s_need_rules) .none kV22 dc22 pm22 an22 cd22 ct22), sl22⟩) (c22 : PySem.W.codeIn K cd22 "_need_rules" = true) (k22 : PySem.W.keepIn K (.ref f22) = true)
    (a23 : PySem.W.nsIn K mainGlobals "_lines_named" = some (some (.ref f23))) (l23 : K.lookup f23 = some ⟨oc23, od23, .func (PySem.W.fnOf "_lines_named" "_lines_named" (defArgs s_lines_named) (defBody s_lines_named) (defScope s_lines_named) .none kV23 dc23 pm23 an23 cd23 ct23), sl23⟩) (c23 : PySem.W.codeIn K cd23 "_lines_named" = true) (k23 : PySem.W.keepIn K (.ref f23) = true)
    (a24 : PySem.W.nsIn K mainGlobals "_ring_from" = some (some (.ref f24))) (l24 : K.lookup f24 = some ⟨oc24, od24, .func (PySem.W.fnOf "_ring_from" "_ring_from" (defArgs s_ring_from) (defBody s_ring_from) (defScope s_ring_from) .none kV24 dc24 pm24 an24 cd24 ct24), sl24⟩) (c24 : PySem.W.codeIn K cd24 "_ring_from" = true) (k24 : PySem.W.keepIn K (.ref f24) = true)
    (a25 : PySem.W.nsIn K mainGlobals "is_paper" = some (some (.ref f25))) (l25 : K.lookup f25 = some ⟨oc25, od25, .func (PySem.W.fnOf "is_paper" "is_paper" (defArgs sis_paper) (defBody sis_paper) (defScope sis_paper) .none kV25 dc25 pm25 an25 cd25 ct25), sl25⟩) (c25 : PySem.W.codeIn K cd25 "is_paper" = true) (k25 : PySem.W.keepIn K (.ref f25) = true)
    (a26 : PySem.W.nsIn K mainGlobals "papers_of" = some (some (.ref f26))) (l26 : K.lookup f26 = some ⟨oc26, od26, .func (PySem.W.fnOf "papers_of" "papers_of" (defArgs spapers_of) (defBody spapers_of) (defScope spapers_of) .none kV26 dc26 pm26 an26 cd26 ct26), sl26⟩) (c26 : PySem.W.codeIn K cd26 "papers_of" = true) (k26 : PySem.W.keepIn K (.ref f26) = true)
    (a27 : PySem.W.nsIn K mainGlobals "lines_of" = some (some (.ref f27))) (l27 : K.lookup f27 = some ⟨oc27, od27, .func (PySem.W.fnOf "lines_of" "lines_of" (defArgs slines_of) (defBody slines_of) (defScope slines_of) .none kV27 dc27 pm27 an27 cd27 ct27), sl27⟩) (c27 : PySem.W.codeIn K cd27 "lines_of" = true) (k27 : PySem.W.keepIn K (.ref f27) = true)
    (a28 : PySem.W.nsIn K mainGlobals "_worth" = some (some (.ref f28))) (l28 : K.lookup f28 = some ⟨oc28, od28, .func (PySem.W.fnOf "_worth" "_worth" (defArgs s_worth) (defBody s_worth) (defScope s_worth) .none kV28 dc28 pm28 an28 cd28 ct28), sl28⟩) (c28 : PySem.W.codeIn K cd28 "_worth" = true) (k28 : PySem.W.keepIn K (.ref f28) = true)
    (a29 : PySem.W.nsIn K mainGlobals "_of_both" = some (some (.ref f29))) (l29 : K.lookup f29 = some ⟨oc29, od29, .func (PySem.W.fnOf "_of_both" "_of_both" (defArgs s_of_both) (defBody s_of_both) (defScope s_of_both) .none kV29 dc29 pm29 an29 cd29 ct29), sl29⟩) (c29 : PySem.W.codeIn K cd29 "_of_both" = true) (k29 : PySem.W.keepIn K (.ref f29) = true)
    (a30 : PySem.W.nsIn K mainGlobals "sums" = some (some (.ref f30))) (l30 : K.lookup f30 = some ⟨oc30, od30, .func (PySem.W.fnOf "sums" "sums" (defArgs ssums) (defBody ssums) (defScope ssums) .none kV30 dc30 pm30 an30 cd30 ct30), sl30⟩) (c30 : PySem.W.codeIn K cd30 "sums" = true) (k30 : PySem.W.keepIn K (.ref f30) = true)
    (a31 : PySem.W.nsIn K mainGlobals "least" = some (some (.ref f31))) (l31 : K.lookup f31 = some ⟨oc31, od31, .func (PySem.W.fnOf "least" "least" (defArgs sleast) (defBody sleast) (defScope sleast) .none kV31 dc31 pm31 an31 cd31 ct31), sl31⟩) (c31 : PySem.W.codeIn K cd31 "least" = true) (k31 : PySem.W.keepIn K (.ref f31) = true)
    (a32 : PySem.W.nsIn K mainGlobals "_with_a_year_more" = some (some (.ref f32))) (l32 : K.lookup f32 = some ⟨oc32, od32, .func (PySem.W.fnOf "_with_a_year_more" "_with_a_year_more" (defArgs s_with_a_year_more) (defBody s_with_a_year_more) (defScope s_with_a_year_more) .none kV32 dc32 pm32 an32 cd32 ct32), sl32⟩) (c32 : PySem.W.codeIn K cd32 "_with_a_year_more" = true) (k32 : PySem.W.keepIn K (.ref f32) = true)
    (a33 : PySem.W.nsIn K mainGlobals "_rows" = some (some (.ref f33))) (l33 : K.lookup f33 = some ⟨oc33, od33, .func (PySem.W.fnOf "_rows" "_rows" (defArgs s_rows) (defBody s_rows) (defScope s_rows) .none kV33 dc33 pm33 an33 cd33 ct33), sl33⟩) (c33 : PySem.W.codeIn K cd33 "_rows" = true) (k33 : PySem.W.keepIn K (.ref f33) = true)
    (a34 : PySem.W.nsIn K mainGlobals "_law_cell_at" = some (some (.ref f34))) (l34 : K.lookup f34 = some ⟨oc34, od34, .func (PySem.W.fnOf "_law_cell_at" "_law_cell_at" (defArgs s_law_cell_at) (defBody s_law_cell_at) (defScope s_law_cell_at) .none kV34 dc34 pm34 an34 cd34 ct34), sl34⟩) (c34 : PySem.W.codeIn K cd34 "_law_cell_at" = true) (k34 : PySem.W.keepIn K (.ref f34) = true)
    (a35 : PySem.W.nsIn K mainGlobals "_law_mixed" = some (some (.ref f35))) (l35 : K.lookup f35 = some ⟨oc35, od35, .func (PySem.W.fnOf "_law_mixed" "_law_mixed" (defArgs s_law_mixed) (defBody s_law_mixed) (defScope s_law_mixed) .none kV35 dc35 pm35 an35 cd35 ct35), sl35⟩) (c35 : PySem.W.codeIn K cd35 "_law_mixed" = true) (k35 : PySem.W.keepIn K (.ref f35) = true)
    (a36 : PySem.W.nsIn K mainGlobals "_law_next" = some (some (.ref f36))) (l36 : K.lookup f36 = some ⟨oc36, od36, .func (PySem.W.fnOf "_law_next" "_law_next" (defArgs s_law_next) (defBody s_law_next) (defScope s_law_next) .none kV36 dc36 pm36 an36 cd36 ct36), sl36⟩) (c36 : PySem.W.codeIn K cd36 "_law_next" = true) (k36 : PySem.W.keepIn K (.ref f36) = true)
    (a37 : PySem.W.nsIn K mainGlobals "_law_whole" = some (some (.ref f37))) (l37 : K.lookup f37 = some ⟨oc37, od37, .func (PySem.W.fnOf "_law_whole" "_law_whole" (defArgs s_law_whole) (defBody s_law_whole) (defScope s_law_whole) .none kV37 dc37 pm37 an37 cd37 ct37), sl37⟩) (c37 : PySem.W.codeIn K cd37 "_law_whole" = true) (k37 : PySem.W.keepIn K (.ref f37) = true)
    (a38 : PySem.W.nsIn K mainGlobals "_law_number" = some (some (.ref f38))) (l38 : K.lookup f38 = some ⟨oc38, od38, .func (PySem.W.fnOf "_law_number" "_law_number" (defArgs s_law_number) (defBody s_law_number) (defScope s_law_number) .none kV38 dc38 pm38 an38 cd38 ct38), sl38⟩) (c38 : PySem.W.codeIn K cd38 "_law_number" = true) (k38 : PySem.W.keepIn K (.ref f38) = true)
    (a39 : PySem.W.nsIn K mainGlobals "_law_table" = some (some (.ref f39))) (l39 : K.lookup f39 = some ⟨oc39, od39, .func (PySem.W.fnOf "_law_table" "_law_table" (defArgs s_law_table) (defBody s_law_table) (defScope s_law_table) .none kV39 dc39 pm39 an39 cd39 ct39), sl39⟩) (c39 : PySem.W.codeIn K cd39 "_law_table" = true) (k39 : PySem.W.keepIn K (.ref f39) = true)
    (a40 : PySem.W.nsIn K mainGlobals "_law_words" = some (some (.ref f40))) (l40 : K.lookup f40 = some ⟨oc40, od40, .func (PySem.W.fnOf "_law_words" "_law_words" (defArgs s_law_words) (defBody s_law_words) (defScope s_law_words) .none kV40 dc40 pm40 an40 cd40 ct40), sl40⟩) (c40 : PySem.W.codeIn K cd40 "_law_words" = true) (k40 : PySem.W.keepIn K (.ref f40) = true)
    (a41 : PySem.W.nsIn K mainGlobals "_law_plain" = some (some (.ref f41))) (l41 : K.lookup f41 = some ⟨oc41, od41, .func (PySem.W.fnOf "_law_plain" "_law_plain" (defArgs s_law_plain) (defBody s_law_plain) (defScope s_law_plain) .none kV41 dc41 pm41 an41 cd41 ct41), sl41⟩) (c41 : PySem.W.codeIn K cd41 "_law_plain" = true) (k41 : PySem.W.keepIn K (.ref f41) = true)
    (a42 : PySem.W.nsIn K mainGlobals "_law_rule" = some (some (.ref f42))) (l42 : K.lookup f42 = some ⟨oc42, od42, .func (PySem.W.fnOf "_law_rule" "_law_rule" (defArgs s_law_rule) (defBody s_law_rule) (defScope s_law_rule) .none kV42 dc42 pm42 an42 cd42 ct42), sl42⟩) (c42 : PySem.W.codeIn K cd42 "_law_rule" = true) (k42 : PySem.W.keepIn K (.ref f42) = true)
    (a43 : PySem.W.nsIn K mainGlobals "_law_sizes" = some (some (.ref f43))) (l43 : K.lookup f43 = some ⟨oc43, od43, .func (PySem.W.fnOf "_law_sizes" "_law_sizes" (defArgs s_law_sizes) (defBody s_law_sizes) (defScope s_law_sizes) .none kV43 dc43 pm43 an43 cd43 ct43), sl43⟩) (c43 : PySem.W.codeIn K cd43 "_law_sizes" = true) (k43 : PySem.W.keepIn K (.ref f43) = true)
    (a44 : PySem.W.nsIn K mainGlobals "_law_order" = some (some (.ref f44))) (l44 : K.lookup f44 = some ⟨oc44, od44, .func (PySem.W.fnOf "_law_order" "_law_order" (defArgs s_law_order) (defBody s_law_order) (defScope s_law_order) .none kV44 dc44 pm44 an44 cd44 ct44), sl44⟩) (c44 : PySem.W.codeIn K cd44 "_law_order" = true) (k44 : PySem.W.keepIn K (.ref f44) = true)
    (a45 : PySem.W.nsIn K mainGlobals "_law_form" = some (some (.ref f45))) (l45 : K.lookup f45 = some ⟨oc45, od45, .func (PySem.W.fnOf "_law_form" "_law_form" (defArgs s_law_form) (defBody s_law_form) (defScope s_law_form) .none kV45 dc45 pm45 an45 cd45 ct45), sl45⟩) (c45 : PySem.W.codeIn K cd45 "_law_form" = true) (k45 : PySem.W.keepIn K (.ref f45) = true)
    (a46 : PySem.W.nsIn K mainGlobals "_law_named" = some (some (.ref f46))) (l46 : K.lookup f46 = some ⟨oc46, od46, .func (PySem.W.fnOf "_law_named" "_law_named" (defArgs s_law_named) (defBody s_law_named) (defScope s_law_named) .none kV46 dc46 pm46 an46 cd46 ct46), sl46⟩) (c46 : PySem.W.codeIn K cd46 "_law_named" = true) (k46 : PySem.W.keepIn K (.ref f46) = true)
    (a47 : PySem.W.nsIn K mainGlobals "_law_at" = some (some (.ref f47))) (l47 : K.lookup f47 = some ⟨oc47, od47, .func (PySem.W.fnOf "_law_at" "_law_at" (defArgs s_law_at) (defBody s_law_at) (defScope s_law_at) .none kV47 dc47 pm47 an47 cd47 ct47), sl47⟩) (c47 : PySem.W.codeIn K cd47 "_law_at" = true) (k47 : PySem.W.keepIn K (.ref f47) = true)
    (a48 : PySem.W.nsIn K mainGlobals "_law_value" = some (some (.ref f48))) (l48 : K.lookup f48 = some ⟨oc48, od48, .func (PySem.W.fnOf "_law_value" "_law_value" (defArgs s_law_value) (defBody s_law_value) (defScope s_law_value) .none kV48 dc48 pm48 an48 cd48 ct48), sl48⟩) (c48 : PySem.W.codeIn K cd48 "_law_value" = true) (k48 : PySem.W.keepIn K (.ref f48) = true)
    (a49 : PySem.W.nsIn K mainGlobals "_law_papers" = some (some (.ref f49))) (l49 : K.lookup f49 = some ⟨oc49, od49, .func (PySem.W.fnOf "_law_papers" "_law_papers" (defArgs s_law_papers) (defBody s_law_papers) (defScope s_law_papers) .none kV49 dc49 pm49 an49 cd49 ct49), sl49⟩) (c49 : PySem.W.codeIn K cd49 "_law_papers" = true) (k49 : PySem.W.keepIn K (.ref f49) = true)
    (a50 : PySem.W.nsIn K mainGlobals "_law_alone" = some (some (.ref f50))) (l50 : K.lookup f50 = some ⟨oc50, od50, .func (PySem.W.fnOf "_law_alone" "_law_alone" (defArgs s_law_alone) (defBody s_law_alone) (defScope s_law_alone) .none kV50 dc50 pm50 an50 cd50 ct50), sl50⟩) (c50 : PySem.W.codeIn K cd50 "_law_alone" = true) (k50 : PySem.W.keepIn K (.ref f50) = true)
    (a51 : PySem.W.nsIn K mainGlobals "_law_reckoned" = some (some (.ref f51))) (l51 : K.lookup f51 = some ⟨oc51, od51, .func (PySem.W.fnOf "_law_reckoned" "_law_reckoned" (defArgs s_law_reckoned) (defBody s_law_reckoned) (defScope s_law_reckoned) .none kV51 dc51 pm51 an51 cd51 ct51), sl51⟩) (c51 : PySem.W.codeIn K cd51 "_law_reckoned" = true) (k51 : PySem.W.keepIn K (.ref f51) = true)
    (a52 : PySem.W.nsIn K mainGlobals "_law_row" = some (some (.ref f52))) (l52 : K.lookup f52 = some ⟨oc52, od52, .func (PySem.W.fnOf "_law_row" "_law_row" (defArgs s_law_row) (defBody s_law_row) (defScope s_law_row) .none kV52 dc52 pm52 an52 cd52 ct52), sl52⟩) (c52 : PySem.W.codeIn K cd52 "_law_row" = true) (k52 : PySem.W.keepIn K (.ref f52) = true)
    (a53 : PySem.W.nsIn K mainGlobals "_law_sum" = some (some (.ref f53))) (l53 : K.lookup f53 = some ⟨oc53, od53, .func (PySem.W.fnOf "_law_sum" "_law_sum" (defArgs s_law_sum) (defBody s_law_sum) (defScope s_law_sum) .none kV53 dc53 pm53 an53 cd53 ct53), sl53⟩) (c53 : PySem.W.codeIn K cd53 "_law_sum" = true) (k53 : PySem.W.keepIn K (.ref f53) = true)
    (a54 : PySem.W.nsIn K mainGlobals "_law_choices" = some (some (.ref f54))) (l54 : K.lookup f54 = some ⟨oc54, od54, .func (PySem.W.fnOf "_law_choices" "_law_choices" (defArgs s_law_choices) (defBody s_law_choices) (defScope s_law_choices) .none kV54 dc54 pm54 an54 cd54 ct54), sl54⟩) (c54 : PySem.W.codeIn K cd54 "_law_choices" = true) (k54 : PySem.W.keepIn K (.ref f54) = true)
    (a55 : PySem.W.nsIn K mainGlobals "_law_all" = some (some (.ref f55))) (l55 : K.lookup f55 = some ⟨oc55, od55, .func (PySem.W.fnOf "_law_all" "_law_all" (defArgs s_law_all) (defBody s_law_all) (defScope s_law_all) .none kV55 dc55 pm55 an55 cd55 ct55), sl55⟩) (c55 : PySem.W.codeIn K cd55 "_law_all" = true) (k55 : PySem.W.keepIn K (.ref f55) = true)
    (a56 : PySem.W.nsIn K mainGlobals "_law_tried" = some (some (.ref f56))) (l56 : K.lookup f56 = some ⟨oc56, od56, .func (PySem.W.fnOf "_law_tried" "_law_tried" (defArgs s_law_tried) (defBody s_law_tried) (defScope s_law_tried) .none kV56 dc56 pm56 an56 cd56 ct56), sl56⟩) (c56 : PySem.W.codeIn K cd56 "_law_tried" = true) (k56 : PySem.W.keepIn K (.ref f56) = true)
    (a57 : PySem.W.nsIn K mainGlobals "_law_any" = some (some (.ref f57))) (l57 : K.lookup f57 = some ⟨oc57, od57, .func (PySem.W.fnOf "_law_any" "_law_any" (defArgs s_law_any) (defBody s_law_any) (defScope s_law_any) .none kV57 dc57 pm57 an57 cd57 ct57), sl57⟩) (c57 : PySem.W.codeIn K cd57 "_law_any" = true) (k57 : PySem.W.keepIn K (.ref f57) = true)
    (a58 : PySem.W.nsIn K mainGlobals "_law_refused" = some (some (.ref f58))) (l58 : K.lookup f58 = some ⟨oc58, od58, .func (PySem.W.fnOf "_law_refused" "_law_refused" (defArgs s_law_refused) (defBody s_law_refused) (defScope s_law_refused) .none kV58 dc58 pm58 an58 cd58 ct58), sl58⟩) (c58 : PySem.W.codeIn K cd58 "_law_refused" = true) (k58 : PySem.W.keepIn K (.ref f58) = true)
    (a59 : PySem.W.nsIn K mainGlobals "_law_kinds" = some (some (.ref f59))) (l59 : K.lookup f59 = some ⟨oc59, od59, .func (PySem.W.fnOf "_law_kinds" "_law_kinds" (defArgs s_law_kinds) (defBody s_law_kinds) (defScope s_law_kinds) .none kV59 dc59 pm59 an59 cd59 ct59), sl59⟩) (c59 : PySem.W.codeIn K cd59 "_law_kinds" = true) (k59 : PySem.W.keepIn K (.ref f59) = true)
    (a60 : PySem.W.nsIn K mainGlobals "law" = some (some (.ref f60))) (l60 : K.lookup f60 = some ⟨oc60, od60, .func (PySem.W.fnOf "law" "law" (defArgs slaw) (defBody slaw) (defScope slaw) .none kV60 dc60 pm60 an60 cd60 ct60), sl60⟩) (c60 : PySem.W.codeIn K cd60 "law" = true) (k60 : PySem.W.keepIn K (.ref f60) = true) : Tx K w mg :=
  ⟨PySem.W.mg_none_of X G z0,
   PySem.W.mg_none_of X G z1,
   PySem.W.mg_none_of X G z2,
   PySem.W.mg_none_of X G z3,
   PySem.W.mg_none_of X G z4,
   PySem.W.mg_none_of X G z5,
   PySem.W.mg_none_of X G z6,
   PySem.W.mg_none_of X G z7,
   PySem.W.mg_none_of X G z8,
   PySem.W.mg_none_of X G z9,
   PySem.W.mg_none_of X G z10,
   PySem.W.mg_none_of X G z11,
   PySem.W.mg_none_of X G z12,
   PySem.W.mg_none_of X G z13,
   PySem.W.mg_none_of X G z14,
   PySem.W.mg_none_of X G z15,
   PySem.W.mg_none_of X G z16,
   ⟨_, PySem.W.mg_of X G w0⟩,
   ⟨_, PySem.W.mg_of X G w1⟩,
   ⟨_, PySem.W.mg_of X G w2⟩,
   ⟨_, PySem.W.mg_of X G w3⟩,
   ⟨_, PySem.W.mg_of X G w4⟩,
   ⟨_, PySem.W.mg_of X G w5⟩,
   ⟨_, PySem.W.mg_of X G w6⟩,
   ⟨_, PySem.W.mg_of X G w7⟩,
   ⟨_, PySem.W.mg_of X G w8⟩,
   ⟨_, PySem.W.mg_of X G w9⟩,
   ⟨_, PySem.W.mg_of X G w10⟩,
   ⟨_, PySem.W.mg_of X G w11⟩,
   ⟨_, PySem.W.mg_of X G w12⟩,
   ⟨_, PySem.W.mg_of X G w13⟩,
   ⟨_, PySem.W.mg_of X G w14⟩,
   ⟨_, PySem.W.mg_of X G da0, _, _, dl0, dm0, dp0⟩,
   PySem.W.mg_of X G hq_heappop,
   PySem.W.mg_of X G hq_heappush,
   Qe.errC_mk (PySem.W.mg_of X G ea0) ex0 ek0 eb0 et0 ed0,
   Qe.errC_mk (PySem.W.mg_of X G ea1) ex1 ek1 eb1 et1 ed1,
   Qe.errC_mk (PySem.W.mg_of X G ea2) ex2 ek2 eb2 et2 ed2,
   Qe.errC_mk (PySem.W.mg_of X G ea3) ex3 ek3 eb3 et3 ed3,
   Qe.errC_mk (PySem.W.mg_of X G ea4) ex4 ek4 eb4 et4 ed4,
   Qe.errC_mk (PySem.W.mg_of X G ea5) ex5 ek5 eb5 et5 ed5,
   Qe.errC_mk (PySem.W.mg_of X G ea6) ex6 ek6 eb6 et6 ed6,
   Qe.errC_mk (PySem.W.mg_of X G ea7) ex7 ek7 eb7 et7 ed7,
   Qe.errC_mk (PySem.W.mg_of X G ea8) ex8 ek8 eb8 et8 ed8,
   Qe.errC_mk (PySem.W.mg_of X G ea9) ex9 ek9 eb9 et9 ed9,
   Qe.catch_mk (PySem.W.mg_of X G ea4) (PySem.W.mg_of X G ea9) (Qe.errC_mk (PySem.W.mg_of X G ea9) ex9 ek9 eb9 et9 ed9) eq0,
   Qe.catch_mk (PySem.W.mg_of X G ea4) (PySem.W.mg_of X G ea5) (Qe.errC_mk (PySem.W.mg_of X G ea5) ex5 ek5 eb5 et5 ed5) eq1,
   Qe.catch_mk (PySem.W.mg_of X G ea4) (PySem.W.mg_of X G ea0) (Qe.errC_mk (PySem.W.mg_of X G ea0) ex0 ek0 eb0 et0 ed0) eq2,
   Qe.catch_mk (PySem.W.mg_of X G ea1) (PySem.W.mg_of X G ea9) (Qe.errC_mk (PySem.W.mg_of X G ea9) ex9 ek9 eb9 et9 ed9) eq3,
   Qe.catch_mk (PySem.W.mg_of X G ea1) (PySem.W.mg_of X G ea5) (Qe.errC_mk (PySem.W.mg_of X G ea5) ex5 ek5 eb5 et5 ed5) eq4,
   Qe.catch_mk (PySem.W.mg_of X G ea1) (PySem.W.mg_of X G ea0) (Qe.errC_mk (PySem.W.mg_of X G ea0) ex0 ek0 eb0 et0 ed0) eq5,
   Qe.catch_mk (PySem.W.mg_of X G ea2) (PySem.W.mg_of X G ea9) (Qe.errC_mk (PySem.W.mg_of X G ea9) ex9 ek9 eb9 et9 ed9) eq6,
   Qe.catch_mk (PySem.W.mg_of X G ea2) (PySem.W.mg_of X G ea5) (Qe.errC_mk (PySem.W.mg_of X G ea5) ex5 ek5 eb5 et5 ed5) eq7,
   Qe.catch_mk (PySem.W.mg_of X G ea2) (PySem.W.mg_of X G ea0) (Qe.errC_mk (PySem.W.mg_of X G ea0) ex0 ek0 eb0 et0 ed0) eq8,
   Qe.catch_mk (PySem.W.mg_of X G ea9) (PySem.W.mg_of X G ea9) (Qe.errC_mk (PySem.W.mg_of X G ea9) ex9 ek9 eb9 et9 ed9) eq9,
   Qe.catch_mk (PySem.W.mg_of X G ea9) (PySem.W.mg_of X G ea5) (Qe.errC_mk (PySem.W.mg_of X G ea5) ex5 ek5 eb5 et5 ed5) eq10,
   Qe.catch_mk (PySem.W.mg_of X G ea9) (PySem.W.mg_of X G ea0) (Qe.errC_mk (PySem.W.mg_of X G ea0) ex0 ek0 eb0 et0 ed0) eq11,
   Qe.catch_mk (PySem.W.mg_of X G ea3) (PySem.W.mg_of X G ea9) (Qe.errC_mk (PySem.W.mg_of X G ea9) ex9 ek9 eb9 et9 ed9) eq12,
   Qe.catch_mk (PySem.W.mg_of X G ea3) (PySem.W.mg_of X G ea5) (Qe.errC_mk (PySem.W.mg_of X G ea5) ex5 ek5 eb5 et5 ed5) eq13,
   Qe.catch_mk (PySem.W.mg_of X G ea3) (PySem.W.mg_of X G ea0) (Qe.errC_mk (PySem.W.mg_of X G ea0) ex0 ek0 eb0 et0 ed0) eq14,
   Qe.catch_mk (PySem.W.mg_of X G ea5) (PySem.W.mg_of X G ea9) (Qe.errC_mk (PySem.W.mg_of X G ea9) ex9 ek9 eb9 et9 ed9) eq15,
   Qe.catch_mk (PySem.W.mg_of X G ea5) (PySem.W.mg_of X G ea5) (Qe.errC_mk (PySem.W.mg_of X G ea5) ex5 ek5 eb5 et5 ed5) eq16,
   Qe.catch_mk (PySem.W.mg_of X G ea5) (PySem.W.mg_of X G ea0) (Qe.errC_mk (PySem.W.mg_of X G ea0) ex0 ek0 eb0 et0 ed0) eq17,
   Qe.excC_at (PySem.W.mg_of X G ea4) eg0,
   Qe.excC_at (PySem.W.mg_of X G ea1) eg1,
   Qe.excC_at (PySem.W.mg_of X G ea2) eg2,
   Qe.excC_at (PySem.W.mg_of X G ea9) eg3,
   Qe.excC_at (PySem.W.mg_of X G ea3) eg4,
   Qe.excC_at (PySem.W.mg_of X G ea5) eg5,
   Qe.kit_at2 (PySem.W.mg_of X G ea4) (PySem.W.mg_of X G ea3) ey0,
   Qe.kit_at2 (PySem.W.mg_of X G ea4) (PySem.W.mg_of X G ea6) ey1,
   Qe.kit_at2 (PySem.W.mg_of X G ea4) (PySem.W.mg_of X G ea9) ey2,
   Qe.kit_at2 (PySem.W.mg_of X G ea4) (PySem.W.mg_of X G ea1) ey3,
   Qe.kit_at2 (PySem.W.mg_of X G ea4) (PySem.W.mg_of X G ea2) ey4,
   Qe.kit_at2 (PySem.W.mg_of X G ea4) (PySem.W.mg_of X G ea5) ey5,
   Qe.kit_at2 (PySem.W.mg_of X G ea4) (PySem.W.mg_of X G ea8) ey6,
   Qe.kit_at2 (PySem.W.mg_of X G ea4) (PySem.W.mg_of X G ea4) ey7,
   Qe.kit_at2 (PySem.W.mg_of X G ea4) (PySem.W.mg_of X G ea7) ey8,
   Qe.kit_at1 (PySem.W.mg_of X G ea4) ey9,
   Qe.kit_at2 (PySem.W.mg_of X G ea1) (PySem.W.mg_of X G ea3) ey10,
   Qe.kit_at2 (PySem.W.mg_of X G ea1) (PySem.W.mg_of X G ea6) ey11,
   Qe.kit_at2 (PySem.W.mg_of X G ea1) (PySem.W.mg_of X G ea9) ey12,
   Qe.kit_at2 (PySem.W.mg_of X G ea1) (PySem.W.mg_of X G ea1) ey13,
   Qe.kit_at2 (PySem.W.mg_of X G ea1) (PySem.W.mg_of X G ea2) ey14,
   Qe.kit_at2 (PySem.W.mg_of X G ea1) (PySem.W.mg_of X G ea5) ey15,
   Qe.kit_at2 (PySem.W.mg_of X G ea1) (PySem.W.mg_of X G ea8) ey16,
   Qe.kit_at2 (PySem.W.mg_of X G ea1) (PySem.W.mg_of X G ea4) ey17,
   Qe.kit_at2 (PySem.W.mg_of X G ea1) (PySem.W.mg_of X G ea7) ey18,
   Qe.kit_at1 (PySem.W.mg_of X G ea1) ey19,
   Qe.kit_at2 (PySem.W.mg_of X G ea2) (PySem.W.mg_of X G ea3) ey20,
   Qe.kit_at2 (PySem.W.mg_of X G ea2) (PySem.W.mg_of X G ea6) ey21,
   Qe.kit_at2 (PySem.W.mg_of X G ea2) (PySem.W.mg_of X G ea9) ey22,
   Qe.kit_at2 (PySem.W.mg_of X G ea2) (PySem.W.mg_of X G ea1) ey23,
   Qe.kit_at2 (PySem.W.mg_of X G ea2) (PySem.W.mg_of X G ea2) ey24,
   Qe.kit_at2 (PySem.W.mg_of X G ea2) (PySem.W.mg_of X G ea5) ey25,
   Qe.kit_at2 (PySem.W.mg_of X G ea2) (PySem.W.mg_of X G ea8) ey26,
   Qe.kit_at2 (PySem.W.mg_of X G ea2) (PySem.W.mg_of X G ea4) ey27,
   Qe.kit_at2 (PySem.W.mg_of X G ea2) (PySem.W.mg_of X G ea7) ey28,
   Qe.kit_at1 (PySem.W.mg_of X G ea2) ey29,
   Qe.kit_at2 (PySem.W.mg_of X G ea9) (PySem.W.mg_of X G ea3) ey30,
   Qe.kit_at2 (PySem.W.mg_of X G ea9) (PySem.W.mg_of X G ea6) ey31,
   Qe.kit_at2 (PySem.W.mg_of X G ea9) (PySem.W.mg_of X G ea9) ey32,
   Qe.kit_at2 (PySem.W.mg_of X G ea9) (PySem.W.mg_of X G ea1) ey33,
   Qe.kit_at2 (PySem.W.mg_of X G ea9) (PySem.W.mg_of X G ea2) ey34,
   Qe.kit_at2 (PySem.W.mg_of X G ea9) (PySem.W.mg_of X G ea5) ey35,
   Qe.kit_at2 (PySem.W.mg_of X G ea9) (PySem.W.mg_of X G ea8) ey36,
   Qe.kit_at2 (PySem.W.mg_of X G ea9) (PySem.W.mg_of X G ea4) ey37,
   Qe.kit_at2 (PySem.W.mg_of X G ea9) (PySem.W.mg_of X G ea7) ey38,
   Qe.kit_at1 (PySem.W.mg_of X G ea9) ey39,
   Qe.kit_at2 (PySem.W.mg_of X G ea3) (PySem.W.mg_of X G ea3) ey40,
   Qe.kit_at2 (PySem.W.mg_of X G ea3) (PySem.W.mg_of X G ea6) ey41,
   Qe.kit_at2 (PySem.W.mg_of X G ea3) (PySem.W.mg_of X G ea9) ey42,
   Qe.kit_at2 (PySem.W.mg_of X G ea3) (PySem.W.mg_of X G ea1) ey43,
   Qe.kit_at2 (PySem.W.mg_of X G ea3) (PySem.W.mg_of X G ea2) ey44,
   Qe.kit_at2 (PySem.W.mg_of X G ea3) (PySem.W.mg_of X G ea5) ey45,
   Qe.kit_at2 (PySem.W.mg_of X G ea3) (PySem.W.mg_of X G ea8) ey46,
   Qe.kit_at2 (PySem.W.mg_of X G ea3) (PySem.W.mg_of X G ea4) ey47,
   Qe.kit_at2 (PySem.W.mg_of X G ea3) (PySem.W.mg_of X G ea7) ey48,
   Qe.kit_at1 (PySem.W.mg_of X G ea3) ey49,
   Qe.kit_at2 (PySem.W.mg_of X G ea5) (PySem.W.mg_of X G ea3) ey50,
   Qe.kit_at2 (PySem.W.mg_of X G ea5) (PySem.W.mg_of X G ea6) ey51,
   Qe.kit_at2 (PySem.W.mg_of X G ea5) (PySem.W.mg_of X G ea9) ey52,
   Qe.kit_at2 (PySem.W.mg_of X G ea5) (PySem.W.mg_of X G ea1) ey53,
   Qe.kit_at2 (PySem.W.mg_of X G ea5) (PySem.W.mg_of X G ea2) ey54,
   Qe.kit_at2 (PySem.W.mg_of X G ea5) (PySem.W.mg_of X G ea5) ey55,
   Qe.kit_at2 (PySem.W.mg_of X G ea5) (PySem.W.mg_of X G ea8) ey56,
   Qe.kit_at2 (PySem.W.mg_of X G ea5) (PySem.W.mg_of X G ea4) ey57,
   Qe.kit_at2 (PySem.W.mg_of X G ea5) (PySem.W.mg_of X G ea7) ey58,
   Qe.kit_at1 (PySem.W.mg_of X G ea5) ey59,
   Qi.cls_at (PySem.W.mg_of X G ua0) ub0 uc0 ud0 ue0,
   Qi.no_at (PySem.W.mg_of X G ua0) un0_0,
   Qi.no_at (PySem.W.mg_of X G ua0) un0_1,
   Qi.no_at (PySem.W.mg_of X G ua0) un0_2,
   Qi.no_at (PySem.W.mg_of X G ua0) un0_3,
   Qi.no_at (PySem.W.mg_of X G ua0) un0_4,
   Qi.init_at (PySem.W.mg_of X G ua0) (fun_mk (st := sSheet___init__) ml0 mc0 mk0) uf0 ma0 mi0 ug0,
   ⟨_, _, fun_mk (st := sis_whole) l0 c0 k0, PySem.W.mg_of X G a0⟩,
   ⟨_, _, fun_mk (st := sis_within) l1 c1 k1, PySem.W.mg_of X G a1⟩,
   ⟨_, _, fun_mk (st := sis_number) l2 c2 k2, PySem.W.mg_of X G a2⟩,
   ⟨_, _, fun_mk (st := sis_percent) l3 c3 k3, PySem.W.mg_of X G a3⟩,
   ⟨_, _, fun_mk (st := sis_place) l4 c4 k4, PySem.W.mg_of X G a4⟩,
   ⟨_, _, fun_mk (st := shundredths) l5 c5 k5, PySem.W.mg_of X G a5⟩,
   ⟨_, _, fun_mk (st := sis_rule) l6 c6 k6, PySem.W.mg_of X G a6⟩,
   ⟨_, _, fun_mk (st := sis_word) l7 c7 k7, PySem.W.mg_of X G a7⟩,
   ⟨_, _, fun_mk (st := snamed) l8 c8 k8, PySem.W.mg_of X G a8⟩,
   ⟨_, _, fun_mk (st := s_is_rule_within) l9 c9 k9, PySem.W.mg_of X G a9⟩,
   ⟨_, _, fun_mk (st := s_has_form) l10 c10 k10, PySem.W.mg_of X G a10⟩,
   ⟨_, _, fun_mk (st := s_is_part) l11 c11 k11, PySem.W.mg_of X G a11⟩,
   ⟨_, _, fun_mk (st := s_behind) l12 c12 k12, PySem.W.mg_of X G a12⟩,
   ⟨_, _, fun_mk (st := sis_table) l13 c13 k13, PySem.W.mg_of X G a13⟩,
   ⟨_, _, fun_mk (st := sat_number) l14 c14 k14, PySem.W.mg_of X G a14⟩,
   ⟨_, _, fun_mk (st := s_is_row) l15 c15 k15, PySem.W.mg_of X G a15⟩,
   ⟨_, _, fun_mk (st := s_starts_rise) l16 c16 k16, PySem.W.mg_of X G a16⟩,
   ⟨_, _, fun_mk (st := sform_of) l17 c17 k17, PySem.W.mg_of X G a17⟩,
   ⟨_, _, fun_mk (st := sring_of) l18 c18 k18, PySem.W.mg_of X G a18⟩,
   ⟨_, _, fun_mk (st := sorder_of) l19 c19 k19, PySem.W.mg_of X G a19⟩,
   ⟨_, _, fun_mk (st := s_need_tables) l20 c20 k20, PySem.W.mg_of X G a20⟩,
   ⟨_, _, fun_mk (st := s_need_sizes) l21 c21 k21, PySem.W.mg_of X G a21⟩,
   ⟨_, _, fun_mk (st := s_need_rules) l22 c22 k22, PySem.W.mg_of X G a22⟩,
   ⟨_, _, fun_mk (st := s_lines_named) l23 c23 k23, PySem.W.mg_of X G a23⟩,
   ⟨_, _, fun_mk (st := s_ring_from) l24 c24 k24, PySem.W.mg_of X G a24⟩,
   ⟨_, _, fun_mk (st := sis_paper) l25 c25 k25, PySem.W.mg_of X G a25⟩,
   ⟨_, _, fun_mk (st := spapers_of) l26 c26 k26, PySem.W.mg_of X G a26⟩,
   ⟨_, _, fun_mk (st := slines_of) l27 c27 k27, PySem.W.mg_of X G a27⟩,
   ⟨_, _, fun_mk (st := s_worth) l28 c28 k28, PySem.W.mg_of X G a28⟩,
   ⟨_, _, fun_mk (st := s_of_both) l29 c29 k29, PySem.W.mg_of X G a29⟩,
   ⟨_, _, fun_mk (st := ssums) l30 c30 k30, PySem.W.mg_of X G a30⟩,
   ⟨_, _, fun_mk (st := sleast) l31 c31 k31, PySem.W.mg_of X G a31⟩,
   ⟨_, _, fun_mk (st := s_with_a_year_more) l32 c32 k32, PySem.W.mg_of X G a32⟩,
   ⟨_, _, fun_mk (st := s_rows) l33 c33 k33, PySem.W.mg_of X G a33⟩,
   ⟨_, _, fun_mk (st := s_law_cell_at) l34 c34 k34, PySem.W.mg_of X G a34⟩,
   ⟨_, _, fun_mk (st := s_law_mixed) l35 c35 k35, PySem.W.mg_of X G a35⟩,
   ⟨_, _, fun_mk (st := s_law_next) l36 c36 k36, PySem.W.mg_of X G a36⟩,
   ⟨_, _, fun_mk (st := s_law_whole) l37 c37 k37, PySem.W.mg_of X G a37⟩,
   ⟨_, _, fun_mk (st := s_law_number) l38 c38 k38, PySem.W.mg_of X G a38⟩,
   ⟨_, _, fun_mk (st := s_law_table) l39 c39 k39, PySem.W.mg_of X G a39⟩,
   ⟨_, _, fun_mk (st := s_law_words) l40 c40 k40, PySem.W.mg_of X G a40⟩,
   ⟨_, _, fun_mk (st := s_law_plain) l41 c41 k41, PySem.W.mg_of X G a41⟩,
   ⟨_, _, fun_mk (st := s_law_rule) l42 c42 k42, PySem.W.mg_of X G a42⟩,
   ⟨_, _, fun_mk (st := s_law_sizes) l43 c43 k43, PySem.W.mg_of X G a43⟩,
   ⟨_, _, fun_mk (st := s_law_order) l44 c44 k44, PySem.W.mg_of X G a44⟩,
   ⟨_, _, fun_mk (st := s_law_form) l45 c45 k45, PySem.W.mg_of X G a45⟩,
   ⟨_, _, fun_mk (st := s_law_named) l46 c46 k46, PySem.W.mg_of X G a46⟩,
   ⟨_, _, fun_mk (st := s_law_at) l47 c47 k47, PySem.W.mg_of X G a47⟩,
   ⟨_, _, fun_mk (st := s_law_value) l48 c48 k48, PySem.W.mg_of X G a48⟩,
   ⟨_, _, fun_mk (st := s_law_papers) l49 c49 k49, PySem.W.mg_of X G a49⟩,
   ⟨_, _, fun_mk (st := s_law_alone) l50 c50 k50, PySem.W.mg_of X G a50⟩,
   ⟨_, _, fun_mk (st := s_law_reckoned) l51 c51 k51, PySem.W.mg_of X G a51⟩,
   ⟨_, _, fun_mk (st := s_law_row) l52 c52 k52, PySem.W.mg_of X G a52⟩,
   ⟨_, _, fun_mk (st := s_law_sum) l53 c53 k53, PySem.W.mg_of X G a53⟩,
   ⟨_, _, fun_mk (st := s_law_choices) l54 c54 k54, PySem.W.mg_of X G a54⟩,
   ⟨_, _, fun_mk (st := s_law_all) l55 c55 k55, PySem.W.mg_of X G a55⟩,
   ⟨_, _, fun_mk (st := s_law_tried) l56 c56 k56, PySem.W.mg_of X G a56⟩,
   ⟨_, _, fun_mk (st := s_law_any) l57 c57 k57, PySem.W.mg_of X G a57⟩,
   ⟨_, _, fun_mk (st := s_law_refused) l58 c58 k58, PySem.W.mg_of X G a58⟩,
   ⟨_, _, fun_mk (st := s_law_kinds) l59 c59 k59, PySem.W.mg_of X G a59⟩,
   ⟨_, _, fun_mk (st := slaw) l60 c60 k60, PySem.W.mg_of X G a60⟩⟩

structure Lone (K : PySem.W.Frag) (mg : Str → Option Value) (h : Heap) (c P : Addr) : Prop where
  c1 : Qg.CodeIs K mg "least" c
  h1 : PySem.W.CodeHd h c P
  n1 : K.lookup P = none
  t1 : h.get? P = some { cls := .none, data := .fields #[] }
theorem sole {p : Addr × Addr → Prop} {a : Addr × Addr} (h1 : p a) : ∀ q ∈ [a], p q := fun q hq => by
  rw [List.mem_singleton.mp hq]; exact h1
theorem fin {l : PySem.W.OpenLaw} {w : World} {K : PySem.W.Frag} {mg : Str → Option Value} {h : Heap} {fa c P : Addr} (hfa : mg "law" = some (.ref fa)) (T : Tx K w mg) (W : Lone K mg h c P := by assumption) :
    LamX.LawAtS l w K CX0 30 63 "_law_script" mg fa h := by
  obtain ⟨fd, b, f⟩ := law_fd (P := l.prog) (w := w) (good := fun base => GxR.TabB base mg c P) T.F_law blaw hfa fun base g => all T W.c1 g
  refine ⟨fd, [(c, P)], spLaw K P, sole W.t1, sole W.n1, sole W.h1, b, fun H a ns _ _ hT hS => ?_, fun base KB GB hB => f base ?_⟩
  · exact ⟨_, rfl, a, ns, rfl, hS, hT (c, P) List.mem_cons_self, fun _ => rfl⟩
  · have t := hB (c, P) List.mem_cons_self
    exact ⟨t.code, t.bm, t.gP⟩
end KF
open PySem PySem.W PyProof.Rows
set_option maxHeartbeats 0 in
theorem PySem.Challenge.cw_formlines_k09_whole_choices_holds : PySem.Challenge.rw_formlines_k09_whole_choices.Holds := by
  w_on; o_law; k_head; (case hw => w_witness2)
  k_fill
  refine KF.walk_tabs (l := PySem.Challenge.rw_formlines_k09_whole_choices) (n := 63) (k := 30) (x := "_law_script") (CX := fun _ => L2.CX0) ["least"] rfl (by decide) rfl ⟨rfl, by decide, by decide⟩ (by decide +kernel) (fun w h Y => PySem.W.km_in_of Y) ?F (fun _ _ _ _ _ h => h)
  case F =>
    intro w mg fa h KX G hmg vd
    have W : KF.Lone (L2.KOf KX) mg h 412 408 := by
      have q1 : KF.tabAtB (L2.KOf KX) "least" 412 408 = true := by kernel_rfl
      obtain ⟨a1, a2, a3⟩ := KF.tabAt_ok KX G q1
      exact ⟨a1, a2, a3, KF.void_at KX G q1 (vd _ List.mem_cons_self)⟩
    refine' KF.fin hmg (KF.tx_mk KX G ?z0 ?z1 ?z2 ?z3 ?z4 ?z5 ?z6 ?z7 ?z8 ?z9 ?z10 ?z11 ?z12 ?z13 ?z14 ?z15 ?z16 ?w0 ?w1 ?w2 ?w3 ?w4 ?w5 ?w6 ?w7 ?w8 ?w9 ?w10 ?w11 ?w12 ?w13 ?w14 ?da0 ?dl0 ?dm0 ?dp0 ?hq_heappop ?hq_heappush ?ea0 ?ex0 ?ek0 ?eb0 ?et0 ?ed0 ?ea1 ?ex1 ?ek1 ?eb1 ?et1 ?ed1 ?ea2 ?ex2 ?ek2 ?eb2 ?et2 ?ed2 ?ea3 ?ex3 ?ek3 ?eb3 ?et3 ?ed3 ?ea4 ?ex4 ?ek4 ?eb4 ?et4 ?ed4 ?ea5 ?ex5 ?ek5 ?eb5 ?et5 ?ed5 ?ea6 ?ex6 ?ek6 ?eb6 ?et6 ?ed6 ?ea7 ?ex7 ?ek7 ?eb7 ?et7 ?ed7 ?ea8 ?ex8 ?ek8 ?eb8 ?et8 ?ed8 ?ea9 ?ex9 ?ek9 ?eb9 ?et9 ?ed9 ?eq0 ?eq1 ?eq2 ?eq3 ?eq4 ?eq5 ?eq6 ?eq7 ?eq8 ?eq9 ?eq10 ?eq11 ?eq12 ?eq13 ?eq14 ?eq15 ?eq16 ?eq17 ?eg0 ?eg1 ?eg2 ?eg3 ?eg4 ?eg5 ?ey0 ?ey1 ?ey2 ?ey3 ?ey4 ?ey5 ?ey6 ?ey7 ?ey8 ?ey9 ?ey10 ?ey11 ?ey12 ?ey13 ?ey14 ?ey15 ?ey16 ?ey17 ?ey18 ?ey19 ?ey20 ?ey21 ?ey22 ?ey23 ?ey24 ?ey25 ?ey26 ?ey27 ?ey28 ?ey29 ?ey30 ?ey31 ?ey32 ?ey33 ?ey34 ?ey35 ?ey36 ?ey37 ?ey38 ?ey39 ?ey40 ?ey41 ?ey42 ?ey43 ?ey44 ?ey45 ?ey46 ?ey47 ?ey48 ?ey49 ?ey50 ?ey51 ?ey52 ?ey53 ?ey54 ?ey55 ?ey56 ?ey57 ?ey58 ?ey59 ?ua0 ?ub0 ?uc0 ?ud0 ?ue0 ?uf0 ?ug0 ?un0_0 ?un0_1 ?un0_2 ?un0_3 ?un0_4 ?ma0 ?mi0 ?ml0 ?mc0 ?mk0 ?a0 ?l0 ?c0 ?k0 ?a1 ?l1 ?c1 ?k1 ?a2 ?l2 ?c2 ?k2 ?a3 ?l3 ?c3 ?k3 ?a4 ?l4 ?c4 ?k4 ?a5 ?l5 ?c5 ?k5 ?a6 ?l6 ?c6 ?k6 ?a7 ?l7 ?c7 ?k7 ?a8 ?l8 ?c8 ?k8 ?a9 ?l9 ?c9 ?k9 ?a10 ?l10 ?c10 ?k10 ?a11 ?l11 ?c11 ?k11 ?a12 ?l12 ?c12 ?k12 ?a13 ?l13 ?c13 ?k13 ?a14 ?l14 ?c14 ?k14 ?a15 ?l15 ?c15 ?k15 ?a16 ?l16 ?c16 ?k16 ?a17 ?l17 ?c17 ?k17 ?a18 ?l18 ?c18 ?k18 ?a19 ?l19 ?c19 ?k19 ?a20 ?l20 ?c20 ?k20 ?a21 ?l21 ?c21 ?k21 ?a22 ?l22 ?c22 ?k22 ?a23 ?l23 ?c23 ?k23 ?a24 ?l24 ?c24 ?k24 ?a25 ?l25 ?c25 ?k25 ?a26 ?l26 ?c26 ?k26 ?a27 ?l27 ?c27 ?k27 ?a28 ?l28 ?c28 ?k28 ?a29 ?l29 ?c29 ?k29 ?a30 ?l30 ?c30 ?k30 ?a31 ?l31 ?c31 ?k31 ?a32 ?l32 ?c32 ?k32 ?a33 ?l33 ?c33 ?k33 ?a34 ?l34 ?c34 ?k34 ?a35 ?l35 ?c35 ?k35 ?a36 ?l36 ?c36 ?k36 ?a37 ?l37 ?c37 ?k37 ?a38 ?l38 ?c38 ?k38 ?a39 ?l39 ?c39 ?k39 ?a40 ?l40 ?c40 ?k40 ?a41 ?l41 ?c41 ?k41 ?a42 ?l42 ?c42 ?k42 ?a43 ?l43 ?c43 ?k43 ?a44 ?l44 ?c44 ?k44 ?a45 ?l45 ?c45 ?k45 ?a46 ?l46 ?c46 ?k46 ?a47 ?l47 ?c47 ?k47 ?a48 ?l48 ?c48 ?k48 ?a49 ?l49 ?c49 ?k49 ?a50 ?l50 ?c50 ?k50 ?a51 ?l51 ?c51 ?k51 ?a52 ?l52 ?c52 ?k52 ?a53 ?l53 ?c53 ?k53 ?a54 ?l54 ?c54 ?k54 ?a55 ?l55 ?c55 ?k55 ?a56 ?l56 ?c56 ?k56 ?a57 ?l57 ?c57 ?k57 ?a58 ?l58 ?c58 ?k58 ?a59 ?l59 ?c59 ?k59 ?a60 ?l60 ?c60 ?k60)
    (case z0 => k_is)
    (case z1 => k_is)
    (case z2 => k_is)
    (case z3 => k_is)
    (case z4 => k_is)
    (case z5 => k_is)
    (case z6 => k_is)
    (case z7 => k_is)
    (case z8 => k_is)
    (case z9 => k_is)
    (case z10 => k_is)
    (case z11 => k_is)
    (case z12 => k_is)
    (case z13 => k_is)
    (case z14 => k_is)
    (case z15 => k_is)
    (case z16 => k_is)
    (case w0 => k_is)
    (case w1 => k_is)
    (case w2 => k_is)
    (case w3 => k_is)
    (case w4 => k_is)
    (case w5 => k_is)
    (case w6 => k_is)
    (case w7 => k_is)
    (case w8 => k_is)
    (case w9 => k_is)
    (case w10 => k_is)
    (case w11 => k_is)
    (case w12 => k_is)
    (case w13 => k_is)
    (case w14 => k_is)
    (case da0 => k_is)
    (case dl0 => k_is)
    (case dm0 => decide)
    (case dp0 => walk_at "tab")
    (case hq_heappop => k_is)
    (case hq_heappush => k_is)
    (case ea0 => k_is)
    (case ex0 => k_exc)
    (case ek0 => k_is)
    (case eb0 => k_is)
    (case et0 => k_is)
    (case ed0 => k_is)
    (case ea1 => k_is)
    (case ex1 => k_exc)
    (case ek1 => k_is)
    (case eb1 => k_is)
    (case et1 => k_is)
    (case ed1 => k_is)
    (case ea2 => k_is)
    (case ex2 => k_exc)
    (case ek2 => k_is)
    (case eb2 => k_is)
    (case et2 => k_is)
    (case ed2 => k_is)
    (case ea3 => k_is)
    (case ex3 => k_exc)
    (case ek3 => k_is)
    (case eb3 => k_is)
    (case et3 => k_is)
    (case ed3 => k_is)
    (case ea4 => k_is)
    (case ex4 => k_exc)
    (case ek4 => k_is)
    (case eb4 => k_is)
    (case et4 => k_is)
    (case ed4 => k_is)
    (case ea5 => k_is)
    (case ex5 => k_exc)
    (case ek5 => k_is)
    (case eb5 => k_is)
    (case et5 => k_is)
    (case ed5 => k_is)
    (case ea6 => k_is)
    (case ex6 => k_exc)
    (case ek6 => k_is)
    (case eb6 => k_is)
    (case et6 => k_is)
    (case ed6 => k_is)
    (case ea7 => k_is)
    (case ex7 => k_exc)
    (case ek7 => k_is)
    (case eb7 => k_is)
    (case et7 => k_is)
    (case ed7 => k_is)
    (case ea8 => k_is)
    (case ex8 => k_exc)
    (case ek8 => k_is)
    (case eb8 => k_is)
    (case et8 => k_is)
    (case ed8 => k_is)
    (case ea9 => k_is)
    (case ex9 => k_exc)
    (case ek9 => k_is)
    (case eb9 => k_is)
    (case et9 => k_is)
    (case ed9 => k_is)
    (case eq0 => k_is)
    (case eq1 => k_is)
    (case eq2 => k_is)
    (case eq3 => k_is)
    (case eq4 => k_is)
    (case eq5 => k_is)
    (case eq6 => k_is)
    (case eq7 => k_is)
    (case eq8 => k_is)
    (case eq9 => k_is)
    (case eq10 => k_is)
    (case eq11 => k_is)
    (case eq12 => k_is)
    (case eq13 => k_is)
    (case eq14 => k_is)
    (case eq15 => k_is)
    (case eq16 => k_is)
    (case eq17 => k_is)
    (case eg0 => (refine' ⟨?_, ?_, ?_, ?_, ?_, ?_, ?_, ?_⟩ <;> k_is))
    (case eg1 => (refine' ⟨?_, ?_, ?_, ?_, ?_, ?_, ?_, ?_⟩ <;> k_is))
    (case eg2 => (refine' ⟨?_, ?_, ?_, ?_, ?_, ?_, ?_, ?_⟩ <;> k_is))
    (case eg3 => (refine' ⟨?_, ?_, ?_, ?_, ?_, ?_, ?_, ?_⟩ <;> k_is))
    (case eg4 => (refine' ⟨?_, ?_, ?_, ?_, ?_, ?_, ?_, ?_⟩ <;> k_is))
    (case eg5 => (refine' ⟨?_, ?_, ?_, ?_, ?_, ?_, ?_, ?_⟩ <;> k_is))
    (case ey0 => kit_is)
    (case ey1 => kit_is)
    (case ey2 => kit_is)
    (case ey3 => kit_is)
    (case ey4 => kit_is)
    (case ey5 => kit_is)
    (case ey6 => kit_is)
    (case ey7 => kit_is)
    (case ey8 => kit_is)
    (case ey9 => kit_is)
    (case ey10 => kit_is)
    (case ey11 => kit_is)
    (case ey12 => kit_is)
    (case ey13 => kit_is)
    (case ey14 => kit_is)
    (case ey15 => kit_is)
    (case ey16 => kit_is)
    (case ey17 => kit_is)
    (case ey18 => kit_is)
    (case ey19 => kit_is)
    (case ey20 => kit_is)
    (case ey21 => kit_is)
    (case ey22 => kit_is)
    (case ey23 => kit_is)
    (case ey24 => kit_is)
    (case ey25 => kit_is)
    (case ey26 => kit_is)
    (case ey27 => kit_is)
    (case ey28 => kit_is)
    (case ey29 => kit_is)
    (case ey30 => kit_is)
    (case ey31 => kit_is)
    (case ey32 => kit_is)
    (case ey33 => kit_is)
    (case ey34 => kit_is)
    (case ey35 => kit_is)
    (case ey36 => kit_is)
    (case ey37 => kit_is)
    (case ey38 => kit_is)
    (case ey39 => kit_is)
    (case ey40 => kit_is)
    (case ey41 => kit_is)
    (case ey42 => kit_is)
    (case ey43 => kit_is)
    (case ey44 => kit_is)
    (case ey45 => kit_is)
    (case ey46 => kit_is)
    (case ey47 => kit_is)
    (case ey48 => kit_is)
    (case ey49 => kit_is)
    (case ey50 => kit_is)
    (case ey51 => kit_is)
    (case ey52 => kit_is)
    (case ey53 => kit_is)
    (case ey54 => kit_is)
    (case ey55 => kit_is)
    (case ey56 => kit_is)
    (case ey57 => kit_is)
    (case ey58 => kit_is)
    (case ey59 => kit_is)
    (case ua0 => k_is)
    (case ub0 => k_is)
    (case uc0 => k_is)
    (case ud0 => k_is)
    (case ue0 => k_is)
    (case uf0 => k_is)
    (case ug0 => k_is)
    (case un0_0 => k_is)
    (case un0_1 => k_is)
    (case un0_2 => k_is)
    (case un0_3 => k_is)
    (case un0_4 => k_is)
    (case ma0 => k_is)
    (case mi0 => k_is)
    (case ml0 => k_is)
    (case mc0 => k_is)
    (case mk0 => k_is)
    (case a0 => k_is)
    (case l0 => k_is)
    (case c0 => k_is)
    (case k0 => k_is)
    (case a1 => k_is)
    (case l1 => k_is)
    (case c1 => k_is)
    (case k1 => k_is)
    (case a2 => k_is)
    (case l2 => k_is)
    (case c2 => k_is)
    (case k2 => k_is)
    (case a3 => k_is)
    (case l3 => k_is)
    (case c3 => k_is)
    (case k3 => k_is)
    (case a4 => k_is)
    (case l4 => k_is)
    (case c4 => k_is)
    (case k4 => k_is)
    (case a5 => k_is)
    (case l5 => k_is)
    (case c5 => k_is)
    (case k5 => k_is)
    (case a6 => k_is)
    (case l6 => k_is)
    (case c6 => k_is)
    (case k6 => k_is)
    (case a7 => k_is)
    (case l7 => k_is)
    (case c7 => k_is)
    (case k7 => k_is)
    (case a8 => k_is)
    (case l8 => k_is)
    (case c8 => k_is)
    (case k8 => k_is)
    (case a9 => k_is)
    (case l9 => k_is)
    (case c9 => k_is)
    (case k9 => k_is)
    (case a10 => k_is)
    (case l10 => k_is)
    (case c10 => k_is)
    (case k10 => k_is)
    (case a11 => k_is)
    (case l11 => k_is)
    (case c11 => k_is)
    (case k11 => k_is)
    (case a12 => k_is)
    (case l12 => k_is)
    (case c12 => k_is)
    (case k12 => k_is)
    (case a13 => k_is)
    (case l13 => k_is)
    (case c13 => k_is)
    (case k13 => k_is)
    (case a14 => k_is)
    (case l14 => k_is)
    (case c14 => k_is)
    (case k14 => k_is)
    (case a15 => k_is)
    (case l15 => k_is)
    (case c15 => k_is)
    (case k15 => k_is)
    (case a16 => k_is)
    (case l16 => k_is)
    (case c16 => k_is)
    (case k16 => k_is)
    (case a17 => k_is)
    (case l17 => k_is)
    (case c17 => k_is)
    (case k17 => k_is)
    (case a18 => k_is)
    (case l18 => k_is)
    (case c18 => k_is)
    (case k18 => k_is)
    (case a19 => k_is)
    (case l19 => k_is)
    (case c19 => k_is)
    (case k19 => k_is)
    (case a20 => k_is)
    (case l20 => k_is)
    (case c20 => k_is)
    (case k20 => k_is)
    (case a21 => k_is)
    (case l21 => k_is)
    (case c21 => k_is)
    (case k21 => k_is)
    (case a22 => k_is)
    (case l22 => k_is)
    (case c22 => k_is)
    (case k22 => k_is)
    (case a23 => k_is)
    (case l23 => k_is)
    (case c23 => k_is)
    (case k23 => k_is)
    (case a24 => k_is)
    (case l24 => k_is)
    (case c24 => k_is)
    (case k24 => k_is)
    (case a25 => k_is)
    (case l25 => k_is)
    (case c25 => k_is)
    (case k25 => k_is)
    (case a26 => k_is)
    (case l26 => k_is)
    (case c26 => k_is)
    (case k26 => k_is)
    (case a27 => k_is)
    (case l27 => k_is)
    (case c27 => k_is)
    (case k27 => k_is)
    (case a28 => k_is)
    (case l28 => k_is)
    (case c28 => k_is)
    (case k28 => k_is)
    (case a29 => k_is)
    (case l29 => k_is)
    (case c29 => k_is)
    (case k29 => k_is)
    (case a30 => k_is)
    (case l30 => k_is)
    (case c30 => k_is)
    (case k30 => k_is)
    (case a31 => k_is)
    (case l31 => k_is)
    (case c31 => k_is)
    (case k31 => k_is)
    (case a32 => k_is)
    (case l32 => k_is)
    (case c32 => k_is)
    (case k32 => k_is)
    (case a33 => k_is)
    (case l33 => k_is)
    (case c33 => k_is)
    (case k33 => k_is)
    (case a34 => k_is)
    (case l34 => k_is)
    (case c34 => k_is)
    (case k34 => k_is)
    (case a35 => k_is)
    (case l35 => k_is)
    (case c35 => k_is)
    (case k35 => k_is)
    (case a36 => k_is)
    (case l36 => k_is)
    (case c36 => k_is)
    (case k36 => k_is)
    (case a37 => k_is)
    (case l37 => k_is)
    (case c37 => k_is)
    (case k37 => k_is)
    (case a38 => k_is)
    (case l38 => k_is)
    (case c38 => k_is)
    (case k38 => k_is)
    (case a39 => k_is)
    (case l39 => k_is)
    (case c39 => k_is)
    (case k39 => k_is)
    (case a40 => k_is)
    (case l40 => k_is)
    (case c40 => k_is)
    (case k40 => k_is)
    (case a41 => k_is)
    (case l41 => k_is)
    (case c41 => k_is)
    (case k41 => k_is)
    (case a42 => k_is)
    (case l42 => k_is)
    (case c42 => k_is)
    (case k42 => k_is)
    (case a43 => k_is)
    (case l43 => k_is)
    (case c43 => k_is)
    (case k43 => k_is)
    (case a44 => k_is)
    (case l44 => k_is)
    (case c44 => k_is)
    (case k44 => k_is)
    (case a45 => k_is)
    (case l45 => k_is)
    (case c45 => k_is)
    (case k45 => k_is)
    (case a46 => k_is)
    (case l46 => k_is)
    (case c46 => k_is)
    (case k46 => k_is)
    (case a47 => k_is)
    (case l47 => k_is)
    (case c47 => k_is)
    (case k47 => k_is)
    (case a48 => k_is)
    (case l48 => k_is)
    (case c48 => k_is)
    (case k48 => k_is)
    (case a49 => k_is)
    (case l49 => k_is)
    (case c49 => k_is)
    (case k49 => k_is)
    (case a50 => k_is)
    (case l50 => k_is)
    (case c50 => k_is)
    (case k50 => k_is)
    (case a51 => k_is)
    (case l51 => k_is)
    (case c51 => k_is)
    (case k51 => k_is)
    (case a52 => k_is)
    (case l52 => k_is)
    (case c52 => k_is)
    (case k52 => k_is)
    (case a53 => k_is)
    (case l53 => k_is)
    (case c53 => k_is)
    (case k53 => k_is)
    (case a54 => k_is)
    (case l54 => k_is)
    (case c54 => k_is)
    (case k54 => k_is)
    (case a55 => k_is)
    (case l55 => k_is)
    (case c55 => k_is)
    (case k55 => k_is)
    (case a56 => k_is)
    (case l56 => k_is)
    (case c56 => k_is)
    (case k56 => k_is)
    (case a57 => k_is)
    (case l57 => k_is)
    (case c57 => k_is)
    (case k57 => k_is)
    (case a58 => k_is)
    (case l58 => k_is)
    (case c58 => k_is)
    (case k58 => k_is)
    (case a59 => k_is)
    (case l59 => k_is)
    (case c59 => k_is)
    (case k59 => k_is)
    (case a60 => k_is)
    (case l60 => k_is)
    (case c60 => k_is)
    (case k60 => k_is)

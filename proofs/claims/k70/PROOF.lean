import PyProof.Rows.All
import Wide.All
import OpenK.AllK
import Wide.FinOn
import HandS.ForMost
import HandS.TryOnly
import HandS.IsInst
import HandS.Evl
import HandS.Wide
import HandS.TupAny
import HandS.SortInts
import HandS.Style
import HandS.Strs
import HandS.SetFor
import HandS.Conv
import HandS.More
import HandS.Walk
import HandS.WideBits
import HandS.Property
import HandS.TupLe
import HandS.Defaults
import HandS.Deep
import HandS.RevRange
import PyProof.StrOps2
import HandS.TupMul
import HandS.DictComp
import KE.GoesMore
import PySem.Challenge.RW_crosskeep_k70_beliefs_learn_hints
set_option Elab.async false
set_option linter.all false
set_option maxRecDepth 100000
set_option maxHeartbeats 4000000

/-! ## readings, one step at a time (a layer of our own over the hand layer) -/
namespace Xk
open PySem PySem.Spec PyProof.Rows L2

section
variable {K : PySem.W.Frag} {σ : L2.St} {H H0 H1 H2 : Hp} {Q : VK} {ta tb tc te : TE} {t u : TT} {D : Ends} {tz tu tw : TS} {g : TG} {x y z v : V} {i j : Int} {b : Bool}

/-! ### values -/
theorem rel_ref {a : Addr} : RelV (.ref a) (.ref a) := rfl
theorem rel_ty {T : String} : RelV (.ty T) (.type T) := rfl
theorem rel_int {tk : Tok} : RelV (.int i) (.int i tk) := ⟨tk, rfl⟩
theorem rel_str {s : Str} {tk : Tok} : RelV (.str s) (.str s tk) := ⟨tk, rfl⟩

/-! ### heaps -/
/-- nothing stands at p -/
structure Fr (p : Addr) (H : Hp) : Prop where
  is : H p = none
theorem same_fr {p : Addr} {o : HO} (h : Fr p H) : Same H (upd H p o) := fun c x e => by
  rw [upd_ne (ne_of_none e h.is)]
  exact e
theorem same_new {p : Addr} {o : HO} (h : H p = none) : Same H (upd H p o) := fun c x e => by
  rw [upd_ne (ne_of_none e h)]
  exact e
theorem same_mut {p : Addr} {o : HO} (e : Same H H1) (h : Fr p H) : Same H (upd H1 p o) := fun c x ha => by
  rw [upd_ne (ne_of_none ha h.is)]
  exact e c x ha
theorem same_at {a : Addr} {o : HO} (e : Same H H1) (h : H a = some o) : H1 a = some o := e a o h
theorem free_back {p : Addr} (h : Fr p H1) (e : Same H H1) : Fr p H := ⟨Same.free e h.is⟩
theorem ne_new {a p : Addr} {o : HO} (h' : Fr p H) (h : H a = some o) : a ≠ p := ne_of_none h h'.is
theorem sq_of {a : Addr} {xs : List V} (h : H a = some (.lst xs)) : SqL K H a xs := Or.inl (Or.inl h)
theorem st_of {a : Addr} {xs : List V} (h : H a = some (.tup xs)) : SqT K H a xs := Or.inl (Or.inl h)
theorem sq_same {a : Addr} {xs : List V} (h : SqL K H a xs) (e : Same H H1) : SqL K H1 a xs := e.seq h
theorem st_same {a : Addr} {xs : List V} (h : SqT K H a xs) (e : Same H H1) : SqT K H1 a xs := by
  rcases h with (h | ⟨o, h⟩) | h
  · exact .inl (.inl (e _ _ h))
  · exact .inl (.inr ⟨o, e _ _ h⟩)
  · exact .inr h
theorem size_ok {n : Nat} (h : n ≤ 100000) : n ≤ sizeLine := Nat.le_trans h (by decide)
theorem size_lt {n : Nat} (h : n < 100000) : n < sizeLine := Nat.lt_of_lt_of_le h (by decide)

/-- all that was tracked but at p is as it was -/
def But (p : Addr) (H H' : Hp) : Prop := ∀ b o, b ≠ p → H b = some o → H' b = some o
theorem But.refl (p : Addr) (H : Hp) : But p H H := fun _ _ _ h => h
theorem but_same {p : Addr} (e : Same H H1) : But p H H1 := fun b o _ h => e b o h
theorem but_trans {p : Addr} (e : But p H H1) (e' : But p H1 H2) : But p H H2 := fun b o n h => e' b o n (e b o n h)
theorem but_mut {p : Addr} {o : HO} (e : But p H H1) : But p H (upd H1 p o) := fun b u n h => by
  rw [upd_ne n]
  exact e b u n h
theorem but_new {p q : Addr} {o : HO} (e : But p H H1) (h : Fr q H) : But p H (upd H1 q o) := fun b u n g => by
  rw [upd_ne (ne_of_none g h.is)]
  exact e b u n g
theorem but_at {p a : Addr} {o : HO} (e : But p H H1) (n : a ≠ p) (h : H a = some o) : H1 a = some o := e a o n h
theorem none_but {p a : Addr} {o u : HO} (h : H p = some o) (e : But p H H1) (h1 : H1 p = some u) (ha : Fr a H1) : Fr a H := by
  refine ⟨?_⟩
  cases q : H a with
  | none => rfl
  | some v =>
    by_cases n : a = p
    · subst n
      rw [ha.is] at h1
      cases h1
    · have := e a v n q
      rw [ha.is] at this
      cases this
theorem fr_upd {p q : Addr} {o : HO} (h : Fr p (upd H q o)) : Fr p H := by
  refine ⟨?_⟩
  have h1 := h.is
  unfold upd at h1
  split at h1
  · cases h1
  · exact h1
theorem same_but {p : Addr} (e : But p H H1) (h : Fr p H0) (e0 : Same H0 H) : Same H0 H1 := fun b o g => e b o (ne_of_none g h.is) (e0 b o g)

/-! ### expressions -/
theorem x_var {n : Nat} (h : σ[n]? = some (some v)) (q : Q v H) : tVar n σ H Q := ⟨v, h, q⟩
theorem x_c (q : Q v H) : tC v σ H Q := q
theorem x_op {r : R2} (q : ta σ H fun x H1 => tb σ H1 fun y H2 => r x y H2 Q) : tOp r ta tb σ H Q := q
theorem x_un {r : V → Hp → VK → Prop} (q : ta σ H fun x H1 => r x H1 Q) : tUn r ta σ H Q := q
theorem x_I0 {f : Int → Int → V} (q : Q (f i j) H) : rI0 f (.int i) (.int j) H Q := ⟨i, j, rfl, rfl, q⟩
theorem x_I {C : Int → Int → Prop} {f : Int → Int → V} (hc : C i j) (q : Q (f i j) H) : rI C f (.int i) (.int j) H Q := ⟨i, j, rfl, rfl, hc, q⟩
theorem x_U {f : Int → V} (q : Q (f i) H) : rU f (.int i) H Q := ⟨i, rfl, q⟩
theorem x_eq (h : scal x y = true) (q : Q (.bl (decide (x = y))) H) : rEq x y H Q := ⟨h, q⟩
theorem x_ne (h : scal x y = true) (q : Q (.bl (!decide (x = y))) H) : rNe x y H Q := ⟨h, q⟩
theorem x_ixL {p : Addr} {xs : List V} (h : SqL K H p xs) (ha : atI xs i = some v) (q : Q v H) : rIxL K (.ref p) (.int i) H Q := ⟨p, xs, i, v, rfl, rfl, h, ha, q⟩
theorem x_ixT {p : Addr} {xs : List V} (h : SqT K H p xs) (ha : atI xs i = some v) (q : Q v H) : rIxT K (.ref p) (.int i) H Q := ⟨p, xs, i, v, rfl, rfl, h, ha, q⟩
theorem x_ixS {w : Str} {c : Nat} (h : w.length ≤ 100000) (ha : atI w.cps.toList i = some c) (q : Q (.str ⟨#[c]⟩) H) : rIxS (.str w) (.int i) H Q := ⟨w, i, c, rfl, rfl, size_ok h, ha, q⟩
theorem x_nil {R : List V → Hp → Prop} (q : R [] H) : tNil σ H R := q
theorem x_cons {tr : TA} {R : List V → Hp → Prop} (q : ta σ H fun x H1 => tr σ H1 fun xs H2 => R (x :: xs) H2) : tCons ta tr σ H R := q
def New (Q : VK) (o : HO) (n : Nat) (H : Hp) : Prop := n ≤ sizeLine ∧ ∀ p, H p = none → Q (.ref p) (upd H p o)
theorem x_lst {tr : TA} (q : tr σ H fun xs H1 => New Q (.lst xs) xs.length H1) : tLst tr σ H Q := q
theorem x_tup {tr : TA} (q : tr σ H fun xs H1 => New Q (.tup xs) xs.length H1) : tTup tr σ H Q := q
/-- what is new is told by what it holds; the heap gets a name -/
theorem x_new {n : Nat} {o : HO} (hl : n ≤ 100000) (k : ∀ p H2, Fr p H → Same H H2 → H2 p = some o → Q (.ref p) H2) : New Q o n H :=
  ⟨size_ok hl, fun p hp => k p _ ⟨hp⟩ (same_new hp) upd_same⟩
theorem x_new1 {o : HO} (k : ∀ p H2, Fr p H → Same H H2 → H2 p = some o → Q (.ref p) H2) : ∀ p, H p = none → Q (.ref p) (upd H p o) :=
  fun p hp => k p _ ⟨hp⟩ (same_new hp) upd_same
theorem x_cb {r : List V → Hp → VK → Prop} {tr : TA} (q : tr σ H fun vs H1 => r vs H1 Q) : tCB r tr σ H Q := q
theorem x_call {sp : Sp} {dvs : List V} {E : XK} {tr : TA} (q : tr σ H fun vs H1 => sp (vs ++ dvs) H1 Q E) : tCall sp dvs E tr σ H Q := q
theorem x_sl {r : V → Option Int → Option Int → Hp → VK → Prop} {tl th : TO} (q : te σ H fun x H1 => tl σ H1 fun l H2 => th σ H2 fun u H3 => r x l u H3 Q) : tSl r te tl th σ H Q := q
theorem x_nopart {R : Option Int → Hp → Prop} (q : R none H) : tNoPart σ H R := q
theorem x_part {R : Option Int → Hp → Prop} (q : te σ H fun x H1 => ∃ i, x = .int i ∧ R (some i) H1) : tPart te σ H R := q
theorem x_if (q : t σ H fun c H1 => if c = true then ta σ H1 Q else tb σ H1 Q) : tIf t ta tb σ H Q := q
theorem x_andV (q : ta σ H fun x H1 => ∃ c, x = .bl c ∧ if c = true then tb σ H1 Q else Q (.bl false) H1) : tAndV ta tb σ H Q := q
theorem x_orV (q : ta σ H fun x H1 => ∃ c, x = .bl c ∧ if c = true then Q (.bl true) H1 else tb σ H1 Q) : tOrV ta tb σ H Q := q
theorem x_notV (q : ta σ H fun x H1 => ∃ c, x = .bl c ∧ Q (.bl (!c)) H1) : tNotV ta σ H Q := q
theorem x_bl {R : Bool → Prop} (q : R b) : ∃ c, V.bl b = .bl c ∧ R c := ⟨b, rfl, q⟩
theorem x_isI {R : Int → Prop} (q : R i) : ∃ c, V.int i = .int c ∧ R c := ⟨i, rfl, q⟩

/-! ### built-ins by names -/
def nInt : List V → Hp → VK → Prop := fun xs H Q => (∃ i, xs = [.int i] ∧ Q (.int i) H) ∨ ∃ k, xs = [.bl k] ∧ Q (.int (if k then 1 else 0)) H
theorem call_nInt {X : Cx} : CallR X (.type "int") nInt := call_int1
theorem x_nInt (q : Q (.int i) H) : nInt [.int i] H Q := .inl ⟨i, rfl, q⟩
theorem x_nIntB (q : Q (.int (if b then 1 else 0)) H) : nInt [.bl b] H Q := .inr ⟨b, rfl, q⟩
def nLen (K : PySem.W.Frag) : List V → Hp → VK → Prop := fun xs H Q => ∃ p ys, xs = [.ref p] ∧ (SqL K H p ys ∨ SqT K H p ys) ∧ Q (.int ys.length) H
theorem call_nLen {X : Cx} : CallR X (.builtin "len") (nLen X.K) := call_len_seq
theorem x_lenL {p : Addr} {ys : List V} (h : SqL K H p ys) (q : Q (.int ys.length) H) : nLen K [.ref p] H Q := ⟨p, ys, rfl, .inl h, q⟩
theorem x_lenT {p : Addr} {ys : List V} (h : SqT K H p ys) (q : Q (.int ys.length) H) : nLen K [.ref p] H Q := ⟨p, ys, rfl, .inr h, q⟩
def nListOf (K : PySem.W.Frag) : List V → Hp → VK → Prop := fun xs H Q => ∃ p ys, xs = [.ref p] ∧ (SqL K H p ys ∨ SqT K H p ys) ∧ ∀ l, H l = none → Q (.ref l) (upd H l (.lst ys))
theorem call_nListOf {X : Cx} : CallR X (.type "list") (nListOf X.K) := call_list_of
theorem x_listL {p : Addr} {ys : List V} (h : SqL K H p ys) (k : ∀ l H2, Fr l H → Same H H2 → H2 l = some (.lst ys) → Q (.ref l) H2) : nListOf K [.ref p] H Q := ⟨p, ys, rfl, .inl h, x_new1 k⟩
theorem x_listT {p : Addr} {ys : List V} (h : SqT K H p ys) (k : ∀ l H2, Fr l H → Same H H2 → H2 l = some (.lst ys) → Q (.ref l) H2) : nListOf K [.ref p] H Q := ⟨p, ys, rfl, .inr h, x_new1 k⟩
def nTupleOf (K : PySem.W.Frag) : List V → Hp → VK → Prop := fun xs H Q => ∃ p ys, xs = [.ref p] ∧ ((SqL K H p ys ∧ ∀ l, H l = none → Q (.ref l) (upd H l (.tup ys))) ∨ (SqT K H p ys ∧ Q (.ref p) H))
theorem call_nTupleOf {X : Cx} : CallR X (.type "tuple") (nTupleOf X.K) := call_tuple_of
theorem x_tupleL {p : Addr} {ys : List V} (h : SqL K H p ys) (k : ∀ l H2, Fr l H → Same H H2 → H2 l = some (.tup ys) → Q (.ref l) H2) : nTupleOf K [.ref p] H Q := ⟨p, ys, rfl, .inl ⟨h, x_new1 k⟩⟩
theorem x_tupleT {p : Addr} {ys : List V} (h : SqT K H p ys) (q : Q (.ref p) H) : nTupleOf K [.ref p] H Q := ⟨p, ys, rfl, .inr ⟨h, q⟩⟩
theorem kit_T {a c : String} (h : kitB a c = some true) : kitB a c = some true := h
theorem kit_F {a c : String} (h : kitB a c = some false) : kitB a c = some false := h
theorem x_isi {c : String} {tt : String} {k : Bool} (ty : TyX K H x (.type tt)) (e : kitB tt c = some k) (q : Q (.bl k) H) : rIsi K [x, .ty c] H Q := ⟨x, .ty c, .type tt, .type c, k, rfl, .ty _, ty, kit_ty e, q⟩
theorem x_isiInt {c : String} {k : Bool} (e : kitB "int" c = some k) (q : Q (.bl k) H) : rIsi K [.int i, .ty c] H Q := x_isi (.base (.int i)) e q
theorem x_isiBl {c : String} {k b : Bool} (e : kitB "bool" c = some k) (q : Q (.bl k) H) : rIsi K [.bl b, .ty c] H Q := x_isi (.base (.bl b)) e q
theorem x_isiStr {c : String} {k : Bool} {s : Str} (e : kitB "str" c = some k) (q : Q (.bl k) H) : rIsi K [.str s, .ty c] H Q := x_isi (.base (.str s)) e q
theorem x_isiNon {c : String} {k : Bool} (e : kitB "NoneType" c = some k) (q : Q (.bl k) H) : rIsi K [.non, .ty c] H Q := x_isi (.base .non) e q
theorem x_isiLst {c : String} {k : Bool} {a : Addr} {xs : List V} (h : H a = some (.lst xs)) (e : kitB "list" c = some k) (q : Q (.bl k) H) : rIsi K [.ref a, .ty c] H Q := x_isi (.base (.lst h)) e q
theorem x_isiTup {c : String} {k : Bool} {a : Addr} {xs : List V} (h : H a = some (.tup xs)) (e : kitB "tuple" c = some k) (q : Q (.bl k) H) : rIsi K [.ref a, .ty c] H Q := x_isi (.base (.tup h)) e q

def nSorted (K : PySem.W.Frag) : List V → Hp → VK → Prop := fun vs H Q => ∃ (a : Addr) (ns : List Int), vs = [V.ref a] ∧ SqL K H a (ns.map V.int) ∧ ns.length < 64 ∧
  ∀ (ns' : List Int) (p : Addr), ns'.Perm ns → ns'.Pairwise (· ≤ ·) → H p = none → Q (.ref p) (upd H p (.lst (ns'.map V.int)))
theorem x_sorted {a : Addr} {ns : List Int} (h : SqL K H a (ns.map V.int)) (hl : ns.length < 64) (k : ∀ p H2 (ns' : List Int), ns'.Perm ns → ns'.Pairwise (· ≤ ·) → Fr p H → Same H H2 → H2 p = some (.lst (ns'.map V.int)) → Q (.ref p) H2) : rSorted K [.ref a] H Q :=
  ⟨a, ns, rfl, h, hl, fun ns' p h1 h2 h3 => k p _ ns' h1 h2 ⟨h3⟩ (same_new h3) upd_same⟩
/-- set(t), t a tuple of ints -/
def rSetOfI (K : PySem.W.Frag) (w : World) : List V → Hp → VK → Prop := fun vs H Q => ∃ (p : Addr) (ns : List Int), vs = [V.ref p] ∧ SqT K H p (ns.map V.int) ∧ ns.length ≤ 1000 ∧ ∀ a n, H a = none → n ≤ ns.length → Q (.ref a) (upd H a (SetO w a (fun j => decide (j ∈ ns)) n))
theorem cr_setOfI {X : Cx} (hc : X.calm = true) : CallR X (.type "set") (rSetOfI X.K X.w) := by
  intro pins s σ H xs us Q I r h
  obtain ⟨p0, ns, rfl, hq, hl, q⟩ := h
  cases r with
  | cons r rr =>
    cases rr
    cases r
    obtain ⟨its, rv, pt, hz⟩ := I.tuple hq
    have hi : IntsAre its.toArray.toList ns := ints_of_vals rv
    have hd := I.ok.hd hc
    refine call_set_tupI ns hd (show s.heap.IsTuple p0 its.toArray from pt) hi (by unfold scanBound; omega) fun h' tk c R1 hcn k => ?_
    exact ⟨.ref _, upd H s.heap.objs.size (SetO X.w s.heap.objs.size (fun j => decide (j ∈ ns)) c), I.laid (t' := tk) k (Nat.le_refl _) (setO_new R1), rfl, q _ _ (I.hok.fresh (Nat.le_refl _)) hcn⟩
theorem x_setOfI {w : World} {p : Addr} {ns : List Int} (h : SqT K H p (ns.map V.int)) (hl : ns.length ≤ 1000) (k : ∀ a H2 n, Fr a H → Same H H2 → H2 a = some (SetO w a (fun j => decide (j ∈ ns)) n) → n ≤ ns.length → Q (.ref a) H2) : rSetOfI K w [.ref p] H Q :=
  ⟨p, ns, rfl, h, hl, fun a n h1 h2 => k a _ n ⟨h1⟩ (same_new h1) upd_same h2⟩
theorem x_sortedSet {w : World} {a : Addr} {S : Int → Bool} {n : Nat} (h : H a = some (SetO w a S n)) (hl : n < 64) (k : ∀ p H2 (ns : List Int), ns.Pairwise (· < ·) → (∀ k : Int, k ∈ ns ↔ S k = true) → ns.length = n → Fr p H → Same H H2 → H2 p = some (.lst (ns.map V.int)) → Q (.ref p) H2) : rSortedSet w [.ref a] H Q :=
  ⟨a, S, n, rfl, h, hl, fun ns p h1 h2 h3 h4 => k p _ ns h1 h2 h3 ⟨h4⟩ (same_new h4) upd_same⟩
theorem x_all {a : Addr} {bs : List Bool} (h : SqL K H a (bs.map V.bl)) (q : Q (.bl (bs.all id)) H) : rAll K [.ref a] H Q := ⟨a, bs, rfl, h, q⟩
theorem x_any {a : Addr} {bs : List Bool} (h : SqL K H a (bs.map V.bl)) (q : Q (.bl (bs.any id)) H) : rAny K [.ref a] H Q := ⟨a, bs, rfl, h, q⟩
theorem x_sum {a : Addr} {ns : List Int} (h : SqL K H a (ns.map V.int)) (q : Q (.int ns.sum) H) : rSum K [.ref a] H Q := ⟨a, ns, rfl, h, q⟩
theorem x_inL {p : Addr} {xs : List V} (h : SqL K H p xs) (hx : flatV x = true) (ha : xs.all flatV = true) (q : Q (.bl (inV x xs)) H) : rIn K false x (.ref p) H Q := ⟨p, xs, rfl, .inl h, hx, ha, q⟩
theorem x_inT {p : Addr} {xs : List V} (h : SqT K H p xs) (hx : flatV x = true) (ha : xs.all flatV = true) (q : Q (.bl (inV x xs)) H) : rIn K false x (.ref p) H Q := ⟨p, xs, rfl, .inr h, hx, ha, q⟩
theorem x_niL {p : Addr} {xs : List V} (h : SqL K H p xs) (hx : flatV x = true) (ha : xs.all flatV = true) (q : Q (.bl (!inV x xs)) H) : rIn K true x (.ref p) H Q := ⟨p, xs, rfl, .inl h, hx, ha, q⟩
theorem x_niT {p : Addr} {xs : List V} (h : SqT K H p xs) (hx : flatV x = true) (ha : xs.all flatV = true) (q : Q (.bl (!inV x xs)) H) : rIn K true x (.ref p) H Q := ⟨p, xs, rfl, .inr h, hx, ha, q⟩
theorem flat_ints : ∀ ns : List Int, (ns.map V.int).all flatV = true
  | [] => rfl
  | n :: r => by
    rw [List.map_cons, List.all_cons, flat_ints r]
    rfl
theorem in_ints (i : Int) : ∀ ns : List Int, inV (.int i) (ns.map V.int) = decide (i ∈ ns)
  | [] => by simp [inV]
  | n :: r => by
    have h := in_ints i r
    unfold inV at h ⊢
    rw [List.map_cons, List.any_cons, h]
    by_cases e : n = i
    · subst e
      simp [eqV]
    · have e' : ¬ i = n := fun z => e z.symm
      simp [eqV, e, e']

def nIsN : R2 := fun x y H Q => y = .non ∧ Q (.bl (decide (x = .non))) H
def nNotN : R2 := fun x y H Q => y = .non ∧ Q (.bl (!decide (x = .non))) H
theorem op_nIsN {X : Cx} : OpR X (compareOp .Is) nIsN := op_isN
theorem op_nNotN {X : Cx} : OpR X (compareOp .IsNot) nNotN := op_notN
theorem x_nIsN (q : Q (.bl (decide (x = .non))) H) : nIsN x .non H Q := ⟨rfl, q⟩
theorem x_nNotN (q : Q (.bl (!decide (x = .non))) H) : nNotN x .non H Q := ⟨rfl, q⟩
def nAndM : R2 := fun x y H Q => ∃ (i : Int) (k : Nat), x = .int i ∧ y = .int (2 ^ k - 1) ∧ Q (.int (i % 2 ^ k)) H
theorem op_nAndM {X : Cx} : OpR X (binaryOp .BitAnd) nAndM := op_andM
theorem x_and255 (q : Q (.int (i % 256)) H) : nAndM (.int i) (.int 255) H Q := ⟨i, 8, rfl, rfl, q⟩

/-! ### the same rules, K told: within a comprehension's block too -/
section
variable {X : Cx} {w : World}
theorem k_in (e : X.K = K) : OpR X (compareOp .In) (rIn K false) := e ▸ op_in_seq
theorem k_enum {e : Expr} {ta : TA} {p pos tpos : Pos} {elts : List Expr} {kk : Nat} (hk : X.K = K) (hg : Gl X "enumerate") (hm : X.mg "enumerate" = none) (ha : PA X [e] ta) (hs : starEach [e] X.env = [(false, eval e X.env)] := by rfl) :
    PI X (.Tuple elts kk tpos) (.Call (.Name "enumerate" p) [e] [] pos) (iEnum K ta) := hk ▸ pi_enum hg hm ha hs
theorem k_gtup {es : List Expr} {k : Nat} {pos : Pos} {gs : TGs} {n : Nat} (hk : X.K = K) (hc : X.calm = true) (h : PGs X es gs)
    (hn : (assignEach es X.env).length = n := by rfl) (hst : (assignEach es X.env).findIdx? (·.1) = none := by rfl) : PG X (.Tuple es k pos) (gTup K n gs) := hk ▸ pg_tup hc h hn hst
theorem k_nin (e : X.K = K) : OpR X (compareOp .NotIn) (rIn K true) := e ▸ op_notIn_seq
theorem k_ixL (e : X.K = K) : IxR X (rIxL K) := e ▸ ix_list
theorem k_ixT (e : X.K = K) : IxR X (rIxT K) := e ▸ ix_tup
theorem k_slL (e : X.K = K) : SlR X (rSlL K) := e ▸ sl_list
theorem k_len (e : X.K = K) : CallR X (.builtin "len") (nLen K) := e ▸ call_nLen
theorem k_list (e : X.K = K) : CallR X (.type "list") (nListOf K) := e ▸ call_nListOf
theorem k_tuple (e : X.K = K) : CallR X (.type "tuple") (nTupleOf K) := e ▸ call_nTupleOf
theorem k_isi (e : X.K = K) : CallR X (.builtin "isinstance") (rIsi K) := e ▸ call_isi
theorem k_all (hc : X.calm = true) (e : X.K = K) : CallR X (.builtin "all") (rAll K) := e ▸ cr_all hc
theorem k_any (hc : X.calm = true) (e : X.K = K) : CallR X (.builtin "any") (rAny K) := e ▸ cr_any hc
theorem k_sum (hc : X.calm = true) (e : X.K = K) : CallR X (.builtin "sum") (rSum K) := e ▸ cr_sum hc
theorem k_sorted (e : X.K = K) : CallR X (.builtin "sorted") (rSorted K) := e ▸ cr_sorted
theorem k_sortedS (e : X.K = K) : CallR X (.builtin "sorted") (rSortedS K) := e ▸ cr_sortedS
theorem k_sortedSet (hc : X.calm = true) (e : X.w = w) : CallR X (.builtin "sorted") (rSortedSet w) := e ▸ cr_sortedSet hc
theorem k_setOfI (hc : X.calm = true) (e : X.K = K) (e' : X.w = w) : CallR X (.type "set") (rSetOfI K w) := e ▸ e' ▸ cr_setOfI hc
theorem k_eqD (hu : X.A.units + 64 < cLine) (e : X.K = K) : OpR X (compareOp .Eq) (rEqD K) := e ▸ op_eqD hu
theorem k_neD (hu : X.A.units + 64 < cLine) (e : X.K = K) : OpR X (compareOp .NotEq) (rNeD K) := e ▸ op_neD hu
end

/-! ### tests -/
theorem x_test {R : Bool → Hp → Prop} (q : te σ H fun x H1 => ∃ k, x = .bl k ∧ R k H1) : tTest te σ H R := q
theorem x_B {R : Bool → Hp → Prop} (q : te σ H fun x H1 => ∃ k, x = .bl k ∧ R k H1) : tB te σ H R := q
theorem x_and {R : Bool → Hp → Prop} (q : t σ H fun c H1 => if c = true then u σ H1 R else R false H1) : tAnd t u σ H R := q
theorem x_or {R : Bool → Hp → Prop} (q : t σ H fun c H1 => if c = true then R true H1 else u σ H1 R) : tOr t u σ H R := q
theorem x_not {R : Bool → Hp → Prop} (q : t σ H fun c H1 => R (!c) H1) : tNot t σ H R := q
theorem x_yes {R : Bool → Hp → Prop} (q : R true H) : tYes σ H R := q
theorem x_chain {r r' : R2} (q : ta σ H fun x H1 => tb σ H1 fun y H2 => r x y H2 fun z H3 => ∃ k, z = .bl k ∧ (if k = true then tc σ H3 fun w' H4 => r' y w' H4 Q else Q (.bl false) H3)) : tChain r r' ta tb tc σ H Q := q
theorem x_itd {p A B : Prop} [Decidable p] (h1 : p → A) (h2 : ¬p → B) : if decide p = true then A else B := by
  by_cases h : p
  · rw [if_pos (decide_eq_true h)]
    exact h1 h
  · rw [if_neg (by rw [decide_eq_false h]; decide)]
    exact h2 h
theorem x_itn {p A B : Prop} [Decidable p] (h1 : ¬p → A) (h2 : p → B) : if (!decide p) = true then A else B := by
  by_cases h : p
  · rw [decide_eq_true h, if_neg (by decide)]
    exact h2 h
  · rw [decide_eq_false h, if_pos (by decide)]
    exact h1 h
theorem x_itb {A B : Prop} (h1 : b = true → A) (h2 : b = false → B) : if b = true then A else B := by
  cases b with
  | true => rw [if_pos rfl]; exact h1 rfl
  | false => rw [if_neg (by decide)]; exact h2 rfl
theorem x_itnb {A B : Prop} (h1 : b = false → A) (h2 : b = true → B) : if (!b) = true then A else B := by
  cases b with
  | true => exact h2 rfl
  | false => exact h1 rfl

theorem x_nT {A B : Prop} (h : B) : if (!true) = true then A else B := h
theorem x_nF {A B : Prop} (h : A) : if (!false) = true then A else B := h
theorem x_dY {p A B : Prop} [Decidable p] (hp : p) (h : A) : if decide p = true then A else B := x_itd (fun _ => h) fun z => absurd hp z
theorem x_dN {p A B : Prop} [Decidable p] (hp : ¬p) (h : B) : if decide p = true then A else B := x_itd (fun z => absurd z hp) fun _ => h
theorem x_ndY {p A B : Prop} [Decidable p] (hp : p) (h : B) : if (!decide p) = true then A else B := x_itn (fun z => absurd hp z) fun _ => h
theorem x_ndN {p A B : Prop} [Decidable p] (hp : ¬p) (h : A) : if (!decide p) = true then A else B := x_itn (fun _ => h) fun z => absurd z hp

/-! ### statements -/
theorem x_seq (q : tu { D with nx := tz D } σ H) : tSeq tu tz D σ H := q
theorem x_sasg {n : Nat} (q : te σ H fun v H1 => tz D (σ.set n (some v)) H1) : tSeq (tAsg te (gName n)) tz D σ H := q
theorem x_asg {n : Nat} (q : te σ H fun v H1 => D.nx (σ.set n (some v)) H1) : tAsg te (gName n) D σ H := q
theorem x_sasgG (q : te σ H fun v H1 => g v σ H1 (tz D)) : tSeq (tAsg te g) tz D σ H := q
theorem x_asgG (q : te σ H fun v H1 => g v σ H1 D.nx) : tAsg te g D σ H := q
theorem x_ret (q : te σ H D.rt) : tRet te D σ H := q
theorem x_retN (q : D.rt .non H) : tRetN D σ H := q
theorem x_next (q : D.nx σ H) : tNext D σ H := q
theorem x_brk (q : D.bk σ H) : tBreak D σ H := q
theorem x_ct (q : D.ct σ H) : tCont D σ H := q
theorem x_sif (q : t σ H fun b H1 => if b = true then tu { D with nx := tz D } σ H1 else tw { D with nx := tz D } σ H1) : tSeq (tIfS t tu tw) tz D σ H := q
theorem x_ifS (q : t σ H fun b H1 => if b = true then tu D σ H1 else tw D σ H1) : tIfS t tu tw D σ H := q
theorem x_sdrop (q : te σ H fun _ H1 => tz D σ H1) : tSeq (tDrop te) tz D σ H := q
theorem x_drop (q : te σ H fun _ H1 => D.nx σ H1) : tDrop te D σ H := q
theorem x_saug {n : Nat} {ti : TIp} (h : σ[n]? = some (some x)) (q : te σ H fun y H1 => ti x y H1 fun z H2 => tz D (σ.set n (some z)) H2) : tSeq (tAug n te ti) tz D σ H := ⟨x, h, q⟩
theorem x_aug {n : Nat} {ti : TIp} (h : σ[n]? = some (some x)) (q : te σ H fun y H1 => ti x y H1 fun z H2 => D.nx (σ.set n (some z)) H2) : tAug n te ti D σ H := ⟨x, h, q⟩
theorem x_ipI {f : Int → Int → Int} (q : Q (.int (f i j)) H) : ipI f (.int i) (.int j) H Q := ⟨i, j, rfl, rfl, q⟩
/-- an if, then the rest: what follows is shown once -/
theorem x_cut (M : L2.St → Hp → Prop) (h : tu { D with nx := M } σ H) (k : ∀ σ' H', M σ' H' → tz D σ' H') : Evl.tCut tu tz D σ H := ⟨M, h, k⟩
theorem x_nocut (h : tu { D with nx := tz D } σ H) : Evl.tCut tu tz D σ H := ⟨_, h, fun _ _ q => q⟩

theorem x_nocutW (h : tSeq (tWhile t tu) tz D σ H) : Evl.tCut (tWhile t tu) tz D σ H := ⟨_, h, fun _ _ q => q⟩

/-! ### targets -/
theorem x_gName {n : Nat} {R : L2.St → Hp → Prop} (q : R (σ.set n (some v)) H) : gName n v σ H R := q
theorem x_gTup {n : Nat} {gs : TGs} {R : L2.St → Hp → Prop} {a : Addr} {xs : List V} (h : SqT K H a xs) (hn : xs.length = n) (q : gs xs σ H R) : gTup K n gs (.ref a) σ H R := ⟨a, xs, rfl, h, hn, q⟩
theorem x_gLst {n : Nat} {gs : TGs} {R : L2.St → Hp → Prop} {a : Addr} {xs : List V} (h : SqL K H a xs) (hn : xs.length = n) (q : gs xs σ H R) : gLst K n gs (.ref a) σ H R := ⟨a, xs, rfl, h, hn, q⟩
theorem x_gCons {gs : TGs} {R : L2.St → Hp → Prop} {vs : List V} (q : g v σ H fun σ' H' => gs vs σ' H' R) : gCons g gs (v :: vs) σ H R := ⟨v, vs, rfl, q⟩
theorem x_gNil {R : L2.St → Hp → Prop} (q : R σ H) : gNil [] σ H R := ⟨rfl, q⟩
theorem x_gSub {to ti : TE} {ts : TSet} {R : L2.St → Hp → Prop} (q : to σ H fun o H1 => ti σ H1 fun i H2 => ts o i v H2 fun H3 => R σ H3) : gSub to ti ts v σ H R := q
theorem ixN_nat {n j : Nat} (hj : j < n) : ixN n (j : Int) = some j := by
  unfold ixN
  rw [if_pos (by omega), if_pos (by omega)]
  simp
theorem ixN_of {n j : Nat} {k : Int} (e : k = (j : Int)) (hj : j < n) : ixN n k = some j := by
  rw [e]
  exact ixN_nat hj
theorem at_nat {α : Type} {xs : List α} {k : Int} {j : Nat} {v : α} (e : k = (j : Int)) (h : xs[j]? = some v) : atI xs k = some v := by
  rw [e]
  exact atI_nat h
theorem at_neg {α : Type} {xs : List α} {k : Int} {j : Nat} {v : α} (hk : k < 0) (e : k + (xs.length : Int) = (j : Int)) (h : xs[j]? = some v) : atI xs k = some v := by
  unfold atI ixN
  rw [if_neg (by omega), if_pos (by omega)]
  have e2 : (k + (xs.length : Int)).toNat = j := by omega
  rw [e2]
  exact h
theorem x_setL {p : Addr} {xs : List V} {k : Int} {j : Nat} {R : Hp → Prop} (h : H p = some (.lst xs)) (hj : ixN xs.length k = some j) (q : R (upd H p (.lst (xs.set j v)))) : rSetL (.ref p) (.int k) v H R := ⟨p, xs, k, j, rfl, rfl, h, hj, q⟩
/-- xs.append(e) -/
theorem x_bm {T : String} {r : V → List V → Hp → VK → Prop} {tr : TA} (q : te σ H fun x H1 => tyV K T x H1 ∧ tr σ H1 fun xs H2 => r x xs H2 Q) : tBM K T r te tr σ H Q := q
theorem x_bm0 {T : String} {r : V → List V → Hp → VK → Prop} (q : te σ H fun x H1 => tyV K T x H1 ∧ r x [] H1 Q) : tBM0 K T r te σ H Q := q
theorem x_tyL {a : Addr} {xs : List V} {P : Prop} (h : SqL K H a xs) (q : P) : tyV K "list" (.ref a) H ∧ P := ⟨.inl ⟨rfl, xs, h⟩, q⟩
theorem x_app {l : Addr} {xs : List V} (h : H l = some (.lst xs)) (hz : xs.length < 100000) (q : Q .non (upd H l (.lst (xs ++ [v])))) : rAppend (.ref l) [v] H Q := ⟨l, xs, v, rfl, rfl, h, size_lt hz, q⟩
theorem x_cat {a c : Addr} {xs ys : List V} (h : H a = some (.lst xs)) (h' : H c = some (.lst ys)) (hz : xs.length + ys.length ≤ 100000) (k : ∀ p H2, Fr p H → Same H H2 → H2 p = some (.lst (xs ++ ys)) → Q (.ref p) H2) : rCat (.ref a) (.ref c) H Q :=
  ⟨a, c, xs, ys, rfl, rfl, h, h', size_ok hz, x_new1 k⟩
theorem x_slL {a : Addr} {xs : List V} {lo hi : Option Int} (h : SqL K H a xs) (k : ∀ p H2, Fr p H → Same H H2 → H2 p = some (.lst (cutV xs lo hi)) → Q (.ref p) H2) : rSlL K (.ref a) lo hi H Q := ⟨a, xs, rfl, h, x_new1 k⟩

/-! ### loops -/
theorem x_forR {n : Nat} (q : te σ H fun x H1 => ∃ m : Int, x = .int m ∧ 0 ≤ m ∧ m ≤ 100000 ∧ ∃ Pv : Nat → L2.St → Hp → Prop, Pv 0 σ H1 ∧
      (∀ (i : Nat) σ' H', (i : Int) < m → Pv i σ' H' → tu { D with nx := Pv (i + 1), ct := Pv (i + 1), bk := D.nx } (σ'.set n (some (.int (i : Int)))) H') ∧ (∀ σ' H', Pv m.toNat σ' H' → D.nx σ' H'))
    (mono : ∀ Q Q' : VK, (∀ v H1, Q v H1 → Q' v H1) → te σ H Q → te σ H Q') : tFor (iRng1 (tCons te tNil)) (gName n) tu D σ H := by
  refine mono _ _ (fun v H1 h => ?_) q
  obtain ⟨m, rfl, h0, h1, Pv, p0, ps, pd⟩ := h
  refine ⟨m, rfl, by omega, by omega, for_range (lo := 0) (n := m.toNat) Pv p0 (fun i σ' H' hi p => ?_) pd⟩
  have e0 : (0 : Int) + (i : Int) = (i : Int) := Int.zero_add _
  show tu { D with nx := Pv (i + 1), ct := Pv (i + 1), bk := D.nx } (σ'.set n (some (.int ((0 : Int) + (i : Int))))) H'
  rw [e0]
  exact ps i σ' H' (by omega) p
def RRange (n : Nat) (m : Int) (tu : TS) (D : Ends) (σ : L2.St) (H : Hp) : Prop := ∃ Pv : Nat → L2.St → Hp → Prop, Pv 0 σ H ∧
      (∀ (i : Nat) σ' H', (i : Int) < m → Pv i σ' H' → tu { D with nx := Pv (i + 1), ct := Pv (i + 1), bk := D.nx } (σ'.set n (some (.int (i : Int)))) H') ∧ (∀ σ' H', Pv m.toNat σ' H' → D.nx σ' H')
def rRange (n : Nat) (tu : TS) (D : Ends) (σ : L2.St) : List V → Hp → Prop := fun vs H => ∃ j : Int, vs = [.int j] ∧ -(2 ^ 62) ≤ j ∧ j < 2 ^ 62 ∧ ∃ W : Nat → Nat → L2.St → Hp → Prop, (∃ m, W 0 m σ H) ∧ ∀ i m σ H, W i m σ H →
  ((Itr 0 j.toNat).stop i H ∧ D.nx σ H) ∨ ((Itr 0 j.toNat).go i H ∧ ∃ N : L2.St → Hp → Prop, (∀ σ' H', N σ' H' → ∃ m', m' < m ∧ W (i + 1) m' σ' H') ∧ ∀ x H', (Itr 0 j.toNat).yld i H x H' → gName n x σ H' fun σ2 H2 => tu { D with nx := N, ct := N, bk := D.nx } σ2 H2)
theorem x_forR1 {n : Nat} {tr : TA} (q : tr σ H (rRange n tu D σ)) : tFor (iRng1 tr) (gName n) tu D σ H := q
theorem x_range {n : Nat} {m : Int} (Pv : Nat → L2.St → Hp → Prop) (hm : 0 ≤ m ∧ m ≤ 100000) (p0 : Pv 0 σ H)
    (ps : ∀ (i : Nat) σ' H', (i : Int) < m → Pv i σ' H' → tu { D with nx := Pv (i + 1), ct := Pv (i + 1), bk := D.nx } (σ'.set n (some (.int (i : Int)))) H') (pd : ∀ σ' H', Pv m.toNat σ' H' → D.nx σ' H') : rRange n tu D σ [.int m] H := by
  refine ⟨m, rfl, by omega, by omega, for_range (lo := 0) (n := m.toNat) Pv p0 (fun i σ' H' hi p => ?_) pd⟩
  have e0 : (0 : Int) + (i : Int) = (i : Int) := Int.zero_add _
  show tu { D with nx := Pv (i + 1), ct := Pv (i + 1), bk := D.nx } (σ'.set n (some (.int ((0 : Int) + (i : Int))))) H'
  rw [e0]
  exact ps i σ' H' (by omega) p
def rForL (K : PySem.W.Frag) (g : TG) (tu : TS) (D : Ends) (σ : L2.St) : VK := fun x H => ∃ a, x = .ref a ∧ (∃ xs, SqL K H a xs) ∧ ∃ W : Nat → Nat → L2.St → Hp → Prop, (∃ m, W 0 m σ H) ∧ ∀ i m σ H, W i m σ H →
  ((Itl K a).stop i H ∧ D.nx σ H) ∨ ((Itl K a).go i H ∧ ∃ N : L2.St → Hp → Prop, (∀ σ' H', N σ' H' → ∃ m', m' < m ∧ W (i + 1) m' σ' H') ∧ ∀ x H', (Itl K a).yld i H x H' → g x σ H' fun σ2 H2 => tu { D with nx := N, ct := N, bk := D.nx } σ2 H2)
theorem x_forL1 (q : te σ H (rForL K g tu D σ)) : tFor (iList K te) g tu D σ H := q
theorem x_forL {a : Addr} {xs : List V} (Pv : Nat → L2.St → Hp → Prop) (hx : SqL K H a xs) (p0 : Pv 0 σ H) (hl : ∀ i σ' H', i ≤ xs.length → Pv i σ' H' → SqL K H' a xs)
    (ps : ∀ i x σ' H', xs[i]? = some x → Pv i σ' H' → g x σ' H' fun σ2 H2 => tu { D with nx := Pv (i + 1), ct := Pv (i + 1), bk := D.nx } σ2 H2) (pd : ∀ σ' H', Pv xs.length σ' H' → D.nx σ' H') : rForL K g tu D σ (.ref a) H :=
  ⟨a, rfl, ⟨xs, hx⟩, for_list Pv p0 hl ps pd⟩
def rForT (K : PySem.W.Frag) (g : TG) (tu : TS) (D : Ends) (σ : L2.St) : VK := fun x H => ∃ a, x = .ref a ∧ (∃ xs, SqT K H a xs) ∧ ∃ W : Nat → Nat → L2.St → Hp → Prop, (∃ m, W 0 m σ H) ∧ ∀ i m σ H, W i m σ H →
  ((Itt K a).stop i H ∧ D.nx σ H) ∨ ((Itt K a).go i H ∧ ∃ N : L2.St → Hp → Prop, (∀ σ' H', N σ' H' → ∃ m', m' < m ∧ W (i + 1) m' σ' H') ∧ ∀ x H', (Itt K a).yld i H x H' → g x σ H' fun σ2 H2 => tu { D with nx := N, ct := N, bk := D.nx } σ2 H2)
theorem x_forT1 (q : te σ H (rForT K g tu D σ)) : tFor (iTup K te) g tu D σ H := q
theorem x_forT {a : Addr} {xs : List V} (Pv : Nat → L2.St → Hp → Prop) (hx : SqT K H a xs) (p0 : Pv 0 σ H) (hl : ∀ i σ' H', i ≤ xs.length → Pv i σ' H' → SqT K H' a xs)
    (ps : ∀ i x σ' H', xs[i]? = some x → Pv i σ' H' → g x σ' H' fun σ2 H2 => tu { D with nx := Pv (i + 1), ct := Pv (i + 1), bk := D.nx } σ2 H2) (pd : ∀ σ' H', Pv xs.length σ' H' → D.nx σ' H') : rForT K g tu D σ (.ref a) H :=
  ⟨a, rfl, ⟨xs, hx⟩, for_tup Pv p0 hl ps pd⟩
/-- while: W by a number that falls -/
def Falls (W : Nat → L2.St → Hp → Prop) (m : Nat) : L2.St → Hp → Prop := fun σ' H' => ∃ m', m' < m ∧ W m' σ' H'
theorem x_while (W : Nat → L2.St → Hp → Prop) (m0 : Nat) (h0 : W m0 σ H) (hs : ∀ m σ' H', W m σ' H' → t σ' H' fun b H1 => if b = true then tu { D with nx := Falls W m, ct := Falls W m, bk := D.nx } σ' H1 else D.nx σ' H1)
    (mono : ∀ (σ' : L2.St) (H' : Hp) (R R' : Bool → Hp → Prop), (∀ y H4, R y H4 → R' y H4) → t σ' H' R → t σ' H' R') : tWhile t tu D σ H :=
  ⟨W, ⟨m0, h0⟩, fun m σ' H' hw => mono _ _ _ _ (fun b H1 q => by
    cases b with
    | true =>
      rw [if_pos rfl] at q ⊢
      exact ⟨Falls W m, fun _ _ h => h, q⟩
    | false =>
      rw [if_neg (by decide)] at q ⊢
      exact q) (hs m σ' H' hw)⟩
def WTurn (W : Nat → L2.St → Hp → Prop) (m : Nat) (tu : TS) (D : Ends) (σ : L2.St) : Bool → Hp → Prop := fun b H1 => if b = true then ∃ N : L2.St → Hp → Prop, (∀ σ' H', N σ' H' → ∃ m', m' < m ∧ W m' σ' H') ∧ tu { D with nx := N, ct := N, bk := D.nx } σ H1 else D.nx σ H1
theorem x_while1 (W : Nat → L2.St → Hp → Prop) (m0 : Nat) (h0 : W m0 σ H) (hs : ∀ m σ' H', W m σ' H' → t σ' H' (WTurn W m tu D σ')) : tWhile t tu D σ H := ⟨W, ⟨m0, h0⟩, hs⟩
theorem x_wT {W : Nat → L2.St → Hp → Prop} {m : Nat} (q : tu { D with nx := Falls W m, ct := Falls W m, bk := D.nx } σ H) : WTurn W m tu D σ true H := by
  unfold WTurn
  rw [if_pos rfl]
  exact ⟨Falls W m, fun _ _ h => h, q⟩
theorem x_wF {W : Nat → L2.St → Hp → Prop} {m : Nat} (q : D.nx σ H) : WTurn W m tu D σ false H := by
  unfold WTurn
  rw [if_neg (by decide)]
  exact q
theorem x_wd {W : Nat → L2.St → Hp → Prop} {m : Nat} {p : Prop} [Decidable p] (h1 : p → WTurn W m tu D σ true H) (h2 : ¬p → WTurn W m tu D σ false H) : WTurn W m tu D σ (decide p) H := by
  by_cases h : p
  · rw [decide_eq_true h]
    exact h1 h
  · rw [decide_eq_false h]
    exact h2 h
theorem x_wn {W : Nat → L2.St → Hp → Prop} {m : Nat} {p : Prop} [Decidable p] (h1 : ¬p → WTurn W m tu D σ true H) (h2 : p → WTurn W m tu D σ false H) : WTurn W m tu D σ (!decide p) H := by
  by_cases h : p
  · rw [decide_eq_true h]
    exact h2 h
  · rw [decide_eq_false h]
    exact h1 h

/-! ### comprehensions -/
def RLc (J : It) (g : TG) (tt : TT) (te : TE) (vs : List Nat) (σ : L2.St) (Q : VK) : Hp → Prop := fun H1 => ∀ D, H1 D = none → ∃ W : Nat → Nat → Hp → Prop, (∃ m, W 0 m (upd H1 D (.lst []))) ∧ ∀ i m H, W i m H →
  (J.stop i H ∧ Q (.ref D) H) ∨ (J.go i H ∧ ∃ Nx : Hp → Prop, (∀ H', Nx H' → ∃ m', m' < m ∧ W (i + 1) m' H') ∧ ∀ x H', J.yld i H x H' → g x (wipe σ vs) H' fun σ2 H2 => wipe σ2 vs = wipe σ vs ∧ tt σ2 H2 fun b H3 =>
    if b = true then te σ2 H3 fun y H4 => ∃ acc, H4 D = some (.lst acc) ∧ acc.length < sizeLine ∧ Nx (upd H4 D (.lst (acc ++ [y]))) else Nx H3)
def rLcL (K : PySem.W.Frag) (g : TG) (tt : TT) (te : TE) (vs : List Nat) (σ : L2.St) (Q : VK) : VK := fun x H1 => ∃ a, x = .ref a ∧ (∃ xs, SqL K H1 a xs) ∧ RLc (Itl K a) g tt te vs σ Q H1
def rLcT (K : PySem.W.Frag) (g : TG) (tt : TT) (te : TE) (vs : List Nat) (σ : L2.St) (Q : VK) : VK := fun x H1 => ∃ a, x = .ref a ∧ (∃ xs, SqT K H1 a xs) ∧ RLc (Itt K a) g tt te vs σ Q H1
def rLcR (g : TG) (tt : TT) (te : TE) (vs : List Nat) (σ : L2.St) (Q : VK) : List V → Hp → Prop := fun xs H1 => ∃ j : Int, xs = [.int j] ∧ -(2 ^ 62) ≤ j ∧ j < 2 ^ 62 ∧ RLc (Itr 0 j.toNat) g tt te vs σ Q H1
theorem x_lcL1 {tx : TE} {vs : List Nat} (q : tx σ H (rLcL K g t te vs σ Q)) : tLc (iList K tx) g t te vs σ H Q := q
theorem x_lcT1 {tx : TE} {vs : List Nat} (q : tx σ H (rLcT K g t te vs σ Q)) : tLc (iTup K tx) g t te vs σ H Q := q
theorem x_lcR1 {tr : TA} {vs : List Nat} (q : tr σ H (rLcR g t te vs σ Q)) : tLc (iRng1 tr) g t te vs σ H Q := q
/-- a list comprehension: Pv of the new list's place, the turn and the heap -/
theorem x_lcL {a : Addr} {xs : List V} {vs : List Nat} (Pv : Addr → Nat → Hp → Prop) (hx : SqL K H a xs) (h0 : ∀ Dl, Fr Dl H → Pv Dl 0 (upd H Dl (.lst []))) (hl : ∀ Dl i H', Fr Dl H → Pv Dl i H' → SqL K H' a xs)
    (hs : ∀ Dl, Fr Dl H → ∀ i x H', xs[i]? = some x → Pv Dl i H' → g x (wipe σ vs) H' fun σ2 H2 => wipe σ2 vs = wipe σ vs ∧ t σ2 H2 fun b H3 =>
      if b = true then te σ2 H3 fun y H4 => ∃ acc, H4 Dl = some (.lst acc) ∧ acc.length < sizeLine ∧ Pv Dl (i + 1) (upd H4 Dl (.lst (acc ++ [y]))) else Pv Dl (i + 1) H3)
    (hd : ∀ Dl H', Fr Dl H → Pv Dl xs.length H' → Q (.ref Dl) H') : rLcL K g t te vs σ Q (.ref a) H := ⟨a, rfl, ⟨xs, hx⟩, fun Dl hD =>
  lc_list (xs := xs) (Pv Dl) (h0 Dl ⟨hD⟩) (fun i H' _ p => hl Dl i H' ⟨hD⟩ p) (fun i x H' hi p => hs Dl ⟨hD⟩ i x H' hi p) (fun H' p => hd Dl H' ⟨hD⟩ p)⟩
theorem x_lcT {a : Addr} {xs : List V} {vs : List Nat} (Pv : Addr → Nat → Hp → Prop) (hx : SqT K H a xs) (h0 : ∀ Dl, Fr Dl H → Pv Dl 0 (upd H Dl (.lst []))) (hl : ∀ Dl i H', Fr Dl H → Pv Dl i H' → SqT K H' a xs)
    (hs : ∀ Dl, Fr Dl H → ∀ i x H', xs[i]? = some x → Pv Dl i H' → g x (wipe σ vs) H' fun σ2 H2 => wipe σ2 vs = wipe σ vs ∧ t σ2 H2 fun b H3 =>
      if b = true then te σ2 H3 fun y H4 => ∃ acc, H4 Dl = some (.lst acc) ∧ acc.length < sizeLine ∧ Pv Dl (i + 1) (upd H4 Dl (.lst (acc ++ [y]))) else Pv Dl (i + 1) H3)
    (hd : ∀ Dl H', Fr Dl H → Pv Dl xs.length H' → Q (.ref Dl) H') : rLcT K g t te vs σ Q (.ref a) H := ⟨a, rfl, ⟨xs, hx⟩, fun Dl hD =>
  lc_tup (xs := xs) (Pv Dl) (h0 Dl ⟨hD⟩) (fun i H' _ p => hl Dl i H' ⟨hD⟩ p) (fun i x H' hi p => hs Dl ⟨hD⟩ i x H' hi p) (fun H' p => hd Dl H' ⟨hD⟩ p)⟩
theorem x_lcR {m : Int} {vs : List Nat} (Pv : Addr → Nat → Hp → Prop) (hm : 0 ≤ m ∧ m ≤ 100000) (h0 : ∀ Dl, Fr Dl H → Pv Dl 0 (upd H Dl (.lst [])))
    (hs : ∀ Dl, Fr Dl H → ∀ (i : Nat) H', (i : Int) < m → Pv Dl i H' → g (.int (i : Int)) (wipe σ vs) H' fun σ2 H2 => wipe σ2 vs = wipe σ vs ∧ t σ2 H2 fun b H3 =>
      if b = true then te σ2 H3 fun y H4 => ∃ acc, H4 Dl = some (.lst acc) ∧ acc.length < sizeLine ∧ Pv Dl (i + 1) (upd H4 Dl (.lst (acc ++ [y]))) else Pv Dl (i + 1) H3)
    (hd : ∀ Dl H', Fr Dl H → Pv Dl m.toNat H' → Q (.ref Dl) H') : rLcR g t te vs σ Q [.int m] H := ⟨m, rfl, by omega, by omega, fun Dl hD =>
  lc_range (lo := 0) (n := m.toNat) (Pv Dl) (h0 Dl ⟨hD⟩) (fun i H' hi p => by
    have e0 : (0 : Int) + (i : Int) = (i : Int) := Int.zero_add _
    rw [e0]
    exact hs Dl ⟨hD⟩ i H' (by omega) p) (fun H' p => hd Dl H' ⟨hD⟩ p)⟩
def rLcE (K : PySem.W.Frag) (g : TG) (tt : TT) (te : TE) (vs : List Nat) (σ : L2.St) (Q : VK) : List V → Hp → Prop := fun vs' H1 => ∃ a xs, vs' = [.ref a] ∧ SqL K H1 a xs ∧ RLc (Ite K a) g tt te vs σ Q H1
theorem x_lcE1 {tr : TA} {vs : List Nat} (q : tr σ H (rLcE K g t te vs σ Q)) : tLc (iEnum K tr) g t te vs σ H Q := q
theorem x_lcE {a : Addr} {xs : List V} {vs : List Nat} (Pv : Addr → Nat → Hp → Prop) (hx : SqL K H a xs) (h0 : ∀ Dl, Fr Dl H → Pv Dl 0 (upd H Dl (.lst []))) (hl : ∀ Dl i H', Fr Dl H → Pv Dl i H' → SqL K H' a xs)
    (hs : ∀ Dl, Fr Dl H → ∀ i x H1 T H', xs[i]? = some x → Pv Dl i H1 → Fr T H1 → Same H1 H' → H' T = some (.tup [.int (i : Nat), x]) → g (.ref T) (wipe σ vs) H' fun σ2 H2 => wipe σ2 vs = wipe σ vs ∧ t σ2 H2 fun b H3 =>
      if b = true then te σ2 H3 fun y H4 => ∃ acc, H4 Dl = some (.lst acc) ∧ acc.length < sizeLine ∧ Pv Dl (i + 1) (upd H4 Dl (.lst (acc ++ [y]))) else Pv Dl (i + 1) H3)
    (hd : ∀ Dl H', Fr Dl H → Pv Dl xs.length H' → Q (.ref Dl) H') : rLcE K g t te vs σ Q [.ref a] H := ⟨a, xs, rfl, hx, fun Dl hD =>
  lc_it walk_enum (Pv Dl) (h0 Dl ⟨hD⟩) (fun i H' _ p => hl Dl i H' ⟨hD⟩ p) (fun i x H1 H' hi p y => by
    obtain ⟨T, u, v, rfl, hT, rfl, e1, e2⟩ := y
    cases Option.some.inj e1
    exact hs Dl ⟨hD⟩ i v H1 T _ e2 p ⟨hT⟩ (same_new hT) upd_same) (fun H' p => hd Dl H' ⟨hD⟩ p)⟩
/-- the end of a turn: what is kept goes into the list -/
def Keep (Dl : Addr) (N : Hp → Prop) : VK := fun y H => ∃ acc, H Dl = some (.lst acc) ∧ acc.length < sizeLine ∧ N (upd H Dl (.lst (acc ++ [y])))
theorem x_keep {Dl : Addr} {N : Hp → Prop} {acc : List V} (h : H Dl = some (.lst acc)) (hz : acc.length < 100000) (q : N (upd H Dl (.lst (acc ++ [y])))) : ∃ acc, H Dl = some (.lst acc) ∧ acc.length < sizeLine ∧ N (upd H Dl (.lst (acc ++ [y]))) := ⟨acc, h, size_lt hz, q⟩
theorem x_wiped {A : Prop} {a b : L2.St} (h : a = b) (q : A) : a = b ∧ A := ⟨h, q⟩
end

/-! ### lists -/
theorem map_at {α β : Type} {f : α → β} {xs : List α} {j : Nat} {x : α} (h : xs[j]? = some x) : (xs.map f)[j]? = some (f x) := by
  rw [List.getElem?_map, h]
  rfl
theorem of_map_at {α β : Type} {f : α → β} {xs : List α} {j : Nat} {y : β} (h : (xs.map f)[j]? = some y) : ∃ x, xs[j]? = some x ∧ y = f x := by
  rw [List.getElem?_map] at h
  obtain ⟨x, hx, rfl⟩ := Option.map_eq_some_iff.mp h
  exact ⟨x, hx, rfl⟩
theorem at_lt {α : Type} {xs : List α} {j : Nat} {x : α} (h : xs[j]? = some x) : j < xs.length := (List.getElem?_eq_some_iff.mp h).1
theorem lt_at {α : Type} {xs : List α} {j : Nat} (h : j < xs.length) : ∃ x, xs[j]? = some x := ⟨xs[j], List.getElem?_eq_getElem h⟩
theorem drop_at {α : Type} {xs : List α} {j : Nat} {x : α} (h : xs[j]? = some x) : xs.drop j = x :: xs.drop (j + 1) := by
  obtain ⟨h1, h2⟩ := List.getElem?_eq_some_iff.mp h
  rw [List.drop_eq_getElem_cons h1, h2]
theorem snoc_map {α β : Type} {f : α → β} {xs : List α} {x : α} : xs.map f ++ [f x] = (xs ++ [x]).map f := by
  rw [List.map_append]
  rfl
theorem mem_snoc {α : Type} {P : α → Prop} {xs : List α} {x : α} (h : ∀ y ∈ xs, P y) (hx : P x) : ∀ y ∈ xs ++ [x], P y := fun y hy => by
  rcases List.mem_append.mp hy with hy | hy
  · exact h y hy
  · rw [List.mem_singleton.mp hy]
    exact hx

def upto (a b : Int) : List Int := (List.range (b - a).toNat).map fun i => a + (i : Nat)
theorem rgV_ints (a b : Int) : rgV a b = (upto a b).map V.int := by
  unfold rgV upto
  rw [List.map_map]
  rfl
theorem upto_len (a b : Int) : (upto a b).length = (b - a).toNat := by
  unfold upto
  rw [List.length_map, List.length_range]
def nRg (Q : VK) : Int → Int → Hp → Prop := fun a b H1 => RgOk a b ∧ ∀ q, H1 q = none → Q (.ref q) (upd H1 q (.lst (rgV a b)))
theorem x_lstRg {σ : L2.St} {H : Hp} {Q : VK} {te : L2.St → Hp → (Int → Int → Hp → Prop) → Prop} (q : te σ H (nRg Q)) : tLstRg te σ H Q := q
theorem x_rg1 {σ : L2.St} {H : Hp} {ta : TE} {R : Int → Int → Hp → Prop} (q : ta σ H fun x H1 => ∃ n, x = .int n ∧ R 0 n H1) : tRg1 ta σ H R := q
theorem x_nRg {H : Hp} {Q : VK} {a b : Int} (h : 0 ≤ a ∧ a ≤ 100000 ∧ 0 ≤ b ∧ b ≤ 100000) (k : ∀ p H2, Fr p H → Same H H2 → H2 p = some (.lst ((upto a b).map V.int)) → Q (.ref p) H2) : nRg Q a b H :=
  ⟨RgOk.of_le (by omega) (by omega) (by omega) (by omega), fun p hp => k p _ ⟨hp⟩ (same_new hp) (by rw [upd_same, rgV_ints])⟩
theorem upto_at {a b : Int} {j : Nat} (h : (j : Int) < b - a) : (upto a b)[j]? = some (a + j) := by
  unfold upto
  rw [List.getElem?_map, List.getElem?_range (by omega)]
  rfl

/-! ### lists of lists of ints -/
/-- at a stands a list of lists of ints: L their places and what they hold -/
def LL (H : Hp) (a : Addr) (L : List (Addr × List Int)) : Prop := H a = some (.lst (L.map fun e => V.ref e.1)) ∧ ∀ e ∈ L, H e.1 = some (.lst (e.2.map V.int))
theorem ll_same {H H' : Hp} {a : Addr} {L : List (Addr × List Int)} (e : Same H H') (h : LL H a L) : LL H' a L := ⟨e _ _ h.1, fun p hp => e _ _ (h.2 p hp)⟩
theorem ll_nil {H : Hp} {a : Addr} (h : H a = some (.lst [])) : LL H a [] := ⟨h, fun _ z => absurd z List.not_mem_nil⟩
theorem ll_snoc {H H' : Hp} {a p : Addr} {ns : List Int} {L : List (Addr × List Int)} (h : LL H a L) (h1 : H' a = some (.lst ((L.map fun e => V.ref e.1) ++ [V.ref p]))) (h2 : H' p = some (.lst (ns.map V.int))) (k : ∀ e ∈ L, H' e.1 = H e.1) : LL H' a (L ++ [(p, ns)]) := by
  refine ⟨?_, fun e he => ?_⟩
  · rw [h1, List.map_append]
    rfl
  · rcases List.mem_append.mp he with he | he
    · rw [k e he]
      exact h.2 e he
    · rw [List.mem_singleton.mp he]
      exact h2

/-! ### data -/
def dInts (ns : List Int) : List PyData := ns.map PyData.int
theorem dp_ints {K : PySem.W.Frag} {H : Hp} : ∀ ns : List Int, DpAll K H (ns.map V.int) (dInts ns)
  | [] => .nil
  | n :: r => .cons (.int n) (dp_ints r)
theorem canLay_ints : ∀ ns : List Int, PyData.canLayAll0 (dInts ns) = true
  | [] => by simp [dInts, PyData.canLayAll0]
  | n :: r => by
    have h := canLay_ints r
    unfold dInts at h ⊢
    rw [List.map_cons]
    simp only [PyData.canLayAll0, PyData.canLay0, h, Bool.and_self]
theorem eqv_ints : ∀ ns ms : List Int, PyData.eqvAll (dInts ns) (dInts ms) = decide (ns = ms)
  | [], [] => by simp [dInts, PyData.eqvAll]
  | [], m :: r => by simp [dInts, PyData.eqvAll]
  | n :: r, [] => by simp [dInts, PyData.eqvAll]
  | n :: r, m :: q => by
    have h := eqv_ints r q
    unfold dInts at h ⊢
    rw [List.map_cons, List.map_cons, PyData.eqvAll, h, PyData.eqv]
    by_cases h1 : n = m <;> by_cases h2 : r = q <;> simp [h1, h2]
theorem canLayAll_map {α : Type} {f : α → PyData} : ∀ (xs : List α), (∀ x ∈ xs, (f x).canLay0 = true) → PyData.canLayAll0 (xs.map f) = true
  | [], _ => by simp [PyData.canLayAll0]
  | x :: r, h => by
    have h1 := h x List.mem_cons_self
    have h2 := canLayAll_map r fun y hy => h y (List.mem_cons_of_mem _ hy)
    rw [List.map_cons]
    simp only [PyData.canLayAll0, h1, h2, Bool.and_self]
theorem depthAll_map {α : Type} {f : α → PyData} {n : Nat} : ∀ (xs : List α), (∀ x ∈ xs, (f x).depth ≤ n) → PyData.depthAll (xs.map f) ≤ n
  | [], _ => by simp [PyData.depthAll]
  | x :: r, h => by
    have h1 := h x List.mem_cons_self
    have h2 := depthAll_map r fun y hy => h y (List.mem_cons_of_mem _ hy)
    rw [List.map_cons, PyData.depthAll]
    omega
theorem depth_ints : ∀ ns : List Int, PyData.depthAll (dInts ns) = 0
  | [] => by simp [dInts, PyData.depthAll]
  | n :: r => by
    have h := depth_ints r
    unfold dInts at h ⊢
    rw [List.map_cons, PyData.depthAll, h, PyData.depth]
    rfl
theorem shaped_lints (ns : List Int) : SeqAt.shaped (.list (dInts ns)) = true := by
  unfold SeqAt.shaped
  rw [PyData.canLay0, canLay_ints, PyData.depth, depth_ints]
  rfl
theorem shaped_tints (ns : List Int) : SeqAt.shaped (.tuple (dInts ns)) = true := by
  unfold SeqAt.shaped
  rw [PyData.canLay0, canLay_ints, PyData.depth, depth_ints]
  rfl
theorem eqv_lints (ns ms : List Int) : PyData.eqv (.list (dInts ns)) (.list (dInts ms)) = decide (ns = ms) := by
  rw [PyData.eqv]
  exact eqv_ints ns ms
theorem eqv_tints (ns ms : List Int) : PyData.eqv (.tuple (dInts ns)) (.tuple (dInts ms)) = decide (ns = ms) := by
  rw [PyData.eqv]
  exact eqv_ints ns ms
theorem shaped_of {d : PyData} (h1 : d.canLay0 = true) (h2 : d.depth ≤ 64) : SeqAt.shaped d = true := by
  unfold SeqAt.shaped
  rw [h1, decide_eq_true h2]
  rfl
theorem canLay_lints (ns : List Int) : PyData.canLay0 (.list (dInts ns)) = true := by
  rw [PyData.canLay0, canLay_ints]
theorem depth_lints (ns : List Int) : PyData.depth (.list (dInts ns)) = 1 := by
  rw [PyData.depth, depth_ints]
/-- lists of lists of ints as data -/
def dLists (ps : List (List Int)) : List PyData := ps.map fun p => .list (dInts p)
theorem canLay_lists (ps : List (List Int)) : PyData.canLayAll0 (dLists ps) = true := canLayAll_map ps fun p _ => canLay_lints p
theorem depth_lists (ps : List (List Int)) : PyData.depthAll (dLists ps) ≤ 1 := depthAll_map ps fun p _ => Nat.le_of_eq (depth_lints p)
theorem dp_list {K : PySem.W.Frag} {H : Hp} : ∀ (L : List (Addr × List Int)), (∀ e ∈ L, H e.1 = some (.lst (e.2.map V.int))) → DpAll K H (L.map fun e => V.ref e.1) (dLists (L.map (·.2)))
  | [], _ => .nil
  | e :: r, h => .cons (.lst (sq_of (h e List.mem_cons_self)) (dp_ints _)) (dp_list r fun x hx => h x (List.mem_cons_of_mem _ hx))
theorem dp_LL {K : PySem.W.Frag} {H : Hp} {a : Addr} {L : List (Addr × List Int)} (h : LL H a L) : Dp K H (.ref a) (.list (dLists (L.map (·.2)))) := .lst (sq_of h.1) (dp_list L h.2)
mutual
theorem dp_same {K : PySem.W.Frag} {H H' : Hp} (e : Same H H') : ∀ (d : PyData) (v : V), Dp K H v d → Dp K H' v d
  | .none, _, h => by cases h; exact .non
  | .bool b, _, h => by cases h; exact .bl b
  | .int i, _, h => by cases h; exact .int i
  | .str x, _, h => by cases h; exact .str x
  | .list ds, _, h => by
    cases h with
    | lst hs ha => exact .lst (sq_same hs e) (dpAll_same e ds _ ha)
  | .tuple ds, _, h => by
    cases h with
    | tup hs ha => exact .tup (st_same hs e) (dpAll_same e ds _ ha)
  | .dict _, _, h => by cases h
theorem dpAll_same {K : PySem.W.Frag} {H H' : Hp} (e : Same H H') : ∀ (ds : List PyData) (vs : List V), DpAll K H vs ds → DpAll K H' vs ds
  | [], _, h => by cases h; exact .nil
  | d :: ds, _, h => by
    cases h with
    | cons h1 h2 => exact .cons (dp_same e d _ h1) (dpAll_same e ds _ h2)
end
/-- equal data -/
theorem x_neSame {K : PySem.W.Frag} {H : Hp} {Q : VK} {x y : V} {d : PyData} (h : Dp K H x d) (h' : Dp K H y d) (c : d.canLay0 = true) (n : d.depth ≤ 64) (q : Q (.bl false) H) : rNeD K x y H Q :=
  ⟨d, d, h, h', shaped_of c n, shaped_of c n, by rw [SeqAt.eqv_refl d c]; exact q⟩
theorem x_eqSame {K : PySem.W.Frag} {H : Hp} {Q : VK} {x y : V} {d : PyData} (h : Dp K H x d) (h' : Dp K H y d) (c : d.canLay0 = true) (n : d.depth ≤ 64) (q : Q (.bl true) H) : rEqD K x y H Q :=
  ⟨d, d, h, h', shaped_of c n, shaped_of c n, by rw [SeqAt.eqv_refl d c]; exact q⟩
section
variable {K : PySem.W.Frag} {H : Hp} {Q : VK} {a c : Addr} {ns ms : List Int}
theorem x_neInts (h : SqL K H a (ns.map V.int)) (h' : SqL K H c (ms.map V.int)) (q : Q (.bl (!decide (ns = ms))) H) : rNeD K (.ref a) (.ref c) H Q :=
  ⟨.list (dInts ns), .list (dInts ms), .lst h (dp_ints ns), .lst h' (dp_ints ms), shaped_lints ns, shaped_lints ms, by rw [eqv_lints]; exact q⟩
theorem x_eqInts (h : SqL K H a (ns.map V.int)) (h' : SqL K H c (ms.map V.int)) (q : Q (.bl (decide (ns = ms))) H) : rEqD K (.ref a) (.ref c) H Q :=
  ⟨.list (dInts ns), .list (dInts ms), .lst h (dp_ints ns), .lst h' (dp_ints ms), shaped_lints ns, shaped_lints ms, by rw [eqv_lints]; exact q⟩
theorem x_neTInts (h : SqT K H a (ns.map V.int)) (h' : SqT K H c (ms.map V.int)) (q : Q (.bl (!decide (ns = ms))) H) : rNeD K (.ref a) (.ref c) H Q :=
  ⟨.tuple (dInts ns), .tuple (dInts ms), .tup h (dp_ints ns), .tup h' (dp_ints ms), shaped_tints ns, shaped_tints ms, by rw [eqv_tints]; exact q⟩
theorem x_eqTInts (h : SqT K H a (ns.map V.int)) (h' : SqT K H c (ms.map V.int)) (q : Q (.bl (decide (ns = ms))) H) : rEqD K (.ref a) (.ref c) H Q :=
  ⟨.tuple (dInts ns), .tuple (dInts ms), .tup h (dp_ints ns), .tup h' (dp_ints ms), shaped_tints ns, shaped_tints ms, by rw [eqv_tints]; exact q⟩
end
end Xk
/-! ## slices stored and deleted, properties, own objects -/
namespace Xk
open PySem PySem.Spec PyProof.Rows L2
section
variable {X : Cx} {o : Expr} {lo hi : Option Expr} {to : TE} {tl th : TO} {pos p2 tpos : Pos}
/-- o[lo:hi] = another list -/
def gSubSl (to : TE) (tl th : TO) : TG := fun v σ H R => to σ H fun x H1 => tl σ H1 fun l H2 => th σ H2 fun u H3 => ∃ (a b : Addr) (xs ys : List V) (i j : Int), x = .ref a ∧ v = .ref b ∧ l = some i ∧ u = some j ∧
  H3 a = some (.lst xs) ∧ H3 b = some (.lst ys) ∧ a ≠ b ∧ 0 ≤ i ∧ i ≤ j ∧ j ≤ xs.length ∧ xs.length + ys.length ≤ sizeLine ∧ R σ (upd H3 a (.lst (xs.take i.toNat ++ ys ++ xs.drop j.toNat)))
theorem pg_subSl (ho : PE X o to) (hl : PO X lo tl) (hu : PO X hi th)
    (ha : ∀ v, assign (.Subscript o (.Slice lo hi none p2) pos) X.env v = (do
      let ov ← holding [v] (eval o X.env)
      let iv ← holding [v, ov] (eval (.Slice lo hi none p2) X.env)
      standAt pos
      holding [v, ov, iv] (setItem ov iv v)
      release [iv, v, ov] []) := by intro _; rfl) : PG X (.Subscript o (.Slice lo hi none p2) pos) (gSubSl to tl th) := by
  refine ⟨fun pins s σ H v u Q I r h => ?_⟩
  rw [ha]
  refine wpAny_bind (wpAny_holding (thn (ho.run pins s σ H _ I h) fun ov s1 ⟨x, H1, I1, r1, q1⟩ => ?_))
  refine wpAny_bind (wpAny_holding ?_)
  refine wpAny_Slice (thn (hl.run pins s1 σ H1 _ I1 q1) fun vl s2 ⟨l, H2, I2, pl, q2⟩ => thn (hu.run pins s2 σ H2 _ I2 q2) fun vu s3 ⟨w, H3, I3, pu, q3⟩ => ?_)
  rw [evalPart_none]
  refine wpAny_pure ?_
  have I4 : Inv X pins σ H3 { s3 with heap := s3.heap.push { cls := .type "slice", data := .fields #[vl, vu, .none] } } := I3.kept (t' := s3.toks) fun b ob q => Heap.get?_push_of_some _ q
  obtain ⟨a, b, xs, ys, i, j, rfl, rfl, rfl, rfl, hA, hB, hne, h0, hij, hj, hz, q⟩ := q3
  cases r1
  cases r
  cases pl with
  | int _ ti =>
  cases pu with
  | int _ tj =>
  refine wpAny_bind (wpAny_standAt (wpAny_bind (wpAny_holding ?_)))
  exact set_slice I4 hA hB hne (Heap.IsSliceOf.new ..) ⟨_, rfl⟩ ⟨_, rfl⟩ h0 hij hj hz fun s' I5 => wpAny_release ⟨σ, _, I5, q⟩

theorem sel_take (f : Nat → Bool) (i n : Nat) (h : ∀ k : Nat, f k = (decide ((i : Int) ≤ (k : Int)) && decide ((k : Int) < (n : Int)) && (((k : Int) - (i : Int)) % 1 == 0))) :
    ∀ (xs : List Value) (m : Nat), m + xs.length ≤ n → (xs.zipIdx m).filterMap (fun (x, k) => if f k then none else some x) = xs.take (i - m)
  | [], m, hm => by simp
  | x :: r, m, hm => by
    rw [List.length_cons] at hm
    have ih := sel_take f i n h r (m + 1) (by omega)
    rw [List.zipIdx_cons, List.filterMap_cons]
    have hf : f m = decide (i ≤ m) := by
      rw [h m]
      by_cases h1 : i ≤ m
      · have h2 : (i : Int) ≤ (m : Int) := by omega
        have h3 : (m : Int) < (n : Int) := by omega
        have h4 : ((m : Int) - (i : Int)) % 1 = 0 := by omega
        rw [h4, decide_eq_true h1, decide_eq_true h2, decide_eq_true h3]
        rfl
      · have h2 : ¬ (i : Int) ≤ (m : Int) := by omega
        rw [decide_eq_false h1, decide_eq_false h2]
        rfl
    by_cases h1 : i ≤ m
    · have e : f m = true := by rw [hf, decide_eq_true h1]
      simp only [e, if_true]
      rw [ih, show i - (m + 1) = 0 by omega, show i - m = 0 by omega]
      rfl
    · have e : f m = false := by rw [hf, decide_eq_false h1]
      simp only [e]
      show x :: _ = _
      rw [ih, show i - m = (i - (m + 1)) + 1 by omega]
      rfl
theorem bounds_from {i n : Nat} (hi : i ≤ n) : sliceBounds (some (i : Int)) none none n = ((i : Int), (n : Int), 1) := by
  simp only [sliceBounds, Option.getD_none]
  have h1 : ¬ ((i : Int) < 0) := by omega
  simp only [h1, if_false, show (1 : Int) > 0 by decide, if_true]
  congr 1
  omega
section
variable {prog : Program} {w : World} {A : Around} {E : Value → Shared → Prop} {s : Shared}
open PySem.P PySem.F in
theorem delItem_tail {l sl : Addr} {items : Array Value} {n : Nat} {vl : Value} {i : Nat} {Q : Unit → Shared → Prop}
    (e : s.heap.get? l = some { cls := .type "list", data := .seq items n }) (hs : s.heap.IsSliceOf sl vl .none .none) (pl : IsPart vl (some (i : Int))) (hi : i ≤ items.size) (hsz : items.size ≤ sizeLine)
    (h : ∀ f : Array Value → Array Value, f items = (items.toList.take i).toArray → Q () { s with heap := s.heap.update l (Obj.mapSeq f) }) :
    wpAny (model prog w) A (delItem (.ref l) (.ref sl)) Q E s := by
  have hl : s.heap.IsList l items := PySem.IsL.isList e
  obtain ⟨os, hos, hcs, hds⟩ := id hs
  have hTs : s.TypeIs (.ref sl) "slice" := ⟨os, hos, hcs⟩
  have hstep : ¬ ((rawPart none == rawInt 0) = true) := Bool.false_ne_true
  unfold delItem
  refine wpAny_holding ?_
  refine wpAny_bind (wpAny_sequenceKey hl.typeIs (by decide) ?_)
  refine wpAny_bind (wpAny_callSpecial?_slot (name := Str.ofString "__delitem__") hl.typeIs PySem.F.slot_list_delitem
    (wpAny_call_entry PySem.F.slot_list_delitem hl.typeIs PySem.F.entry_list_delitem ?_ (PySem.F.args_list_delitem_2 _ _)))
  show wpAny _ _ (Builtin.List.listSubscript? (.ref sl) >>= _) _ _ s
  refine wpAny_bind ?_
  unfold Builtin.List.listSubscript?
  refine wpAny_bind (wpAny_specialOf hTs slice_no_index ?_)
  simp only [Option.isNone_none, if_true]
  refine wpAny_pure ?_
  show wpAny _ _ (typeOf (.ref sl) >>= _) _ _ s
  refine wpAny_bind (wpAny_typeOf hTs ?_)
  first
    | rw [if_neg (by decide)]
    | refine PySem.W.KFB.if_not (by decide) ?_
  rw [listSliceParts_eq]
  refine wpAny_bind (wpAny_bind (wpAny_field hos hds (x := .none) rfl (wpAny_bind (wpAny_listPart .none ?_))))
  rw [if_neg hstep]
  refine wpAny_bind (wpAny_field hos hds (x := vl) rfl (wpAny_bind (wpAny_listPart pl ?_)))
  refine wpAny_bind (wpAny_field hos hds (x := .none) rfl (wpAny_bind (wpAny_listPart .none (wpAny_pure ?_))))
  refine wpAny_bind (m := Builtin.List.listItems (.ref l)) ?_
  unfold Builtin.List.listItems
  refine wpAny_bind (wpAny_seqItems e rfl (wpAny_pure ?_))
  refine wpAny_bind (wpAny_of_eq ((sliceIndices_raw (some (i : Int)) none none items.size (by simp)).trans (congrArg (pure : Int × Int × Int → Sem (Int × Int × Int)) (bounds_from hi))) ?_)
  refine wpAny_bind (wpAny_rule ?_)
  show wpAny _ _ (updateSeq l _ >>= _) _ _ s
  have hf := sel_take _ i items.size (fun k => rfl) items.toList 0 (by simp)
  refine wpAny_bind (wpAny_updateSeq (hz := hsz) (_hz' := ?_) e rfl ?_)
  refine wpAny_bind (wpAny_letGo ?_)
  · exact wpAny_pure ⟨.none, rfl, wpAny_pure (h _ (congrArg List.toArray hf))⟩
  · refine Nat.le_trans (Nat.le_of_eq (congrArg Array.size (congrArg List.toArray hf))) ?_
    rw [List.size_toArray, List.length_take, Array.length_toList]
    omega
end
variable {pins : List (Addr × Obj)}
theorem del_tail {s : Shared} {σ : L2.St} {H : Hp} {l sl : Addr} {xs : List V} {i : Nat} {vl : Value} {Q : Unit → Shared → Prop} (I : Inv X pins σ H s) (hH : H l = some (.lst xs))
    (hs : s.heap.IsSliceOf sl vl .none .none) (pl : IsPart vl (some (i : Int))) (hi : i ≤ xs.length) (h : ∀ s', Inv X pins σ (upd H l (.lst (xs.take i))) s' → Q () s') :
    wpAny (model X.prog X.w) X.A (delItem (.ref l) (.ref sl)) Q X.xe s := by
  obtain ⟨z, its, n, r, hl, e⟩ := I.lstM hH
  refine delItem_tail e hs pl (by rw [List.size_toArray]; omega) (by rw [List.size_toArray]; omega) fun f hf => h _ ?_
  refine I.lset (its' := its.take i) (t' := s.toks) hH e ?_ (r.take i) ?_
  · rw [hf]
  · rw [List.length_take]
    omega
/-- del o[i:] -/
def tDelT (to : TE) (tl : TO) : TS := fun D σ H => to σ H fun x H1 => tl σ H1 fun u H2 => ∃ (l : Addr) (xs : List V) (i : Nat), x = .ref l ∧ u = some (i : Int) ∧ H2 l = some (.lst xs) ∧ i ≤ xs.length ∧ D.nx σ (upd H2 l (.lst (xs.take i)))
theorem ps_delT (ho : PE X o to) (hl : PO X lo tl) : PS X (.Delete [.Subscript o (.Slice lo none none p2) tpos] pos) (tDelT to tl) := by
  refine ⟨fun pins s σ H D I h => ?_⟩
  refine wpAny_Delete (wpAny_deleteEach_cons (wpAny_delete_Subscript (thn (ho.run pins s σ H _ I h) fun u s1 ⟨x, H1, I1, rx, q1⟩ => ?_)))
  refine wpAny_Slice (thn (hl.run pins s1 σ H1 _ I1 q1) fun vl s2 ⟨w, H2, I2, pl, q2⟩ => ?_)
  rw [evalPart_none]
  refine wpAny_pure (wpAny_pure ?_)
  have I4 : Inv X pins σ H2 { s2 with heap := s2.heap.push { cls := .type "slice", data := .fields #[vl, .none, .none] } } := I2.kept (t' := s2.toks) fun b ob q => Heap.get?_push_of_some _ q
  obtain ⟨l, xs, i, rfl, rfl, hA, hi, q⟩ := q2
  cases rx
  exact del_tail I4 hA (Heap.IsSliceOf.new ..) pl hi fun s3 I3 => wpAny_deleteEach_nil ⟨σ, _, I3, q⟩
end
section
variable {K : PySem.W.Frag} {σ σ2 : L2.St} {H H1 H2 : Hp} {Q : VK} {ta tv te te1 : TE} {D : Ends} {tz : TS} {g g1 : TG} {t tt1 : TT} {x v : V}
theorem k_pil {X : Cx} {tg l : Expr} {tl : TE} (e : X.K = K) (h : PE X l tl) : PI X tg l (iList K tl) := e ▸ pi_list h
/-- the inner for of a comprehension -/
def RIn (J : It) (g1 : TG) (tt1 : TT) (te : TE) (vs1 : List Nat) (σ2 : L2.St) (Dl : Addr) (N : Hp → Prop) : Hp → Prop := fun H4 => ∃ W1 : Nat → Nat → Hp → Prop, (∃ m, W1 0 m H4) ∧ ∀ j k H, W1 j k H →
  (J.stop j H ∧ N H) ∨ (J.go j H ∧ ∃ Nx1 : Hp → Prop, (∀ H', Nx1 H' → ∃ k', k' < k ∧ W1 (j + 1) k' H') ∧ ∀ x H', J.yld j H x H' → g1 x (wipe σ2 vs1) H' fun σ3 H5 => wipe σ3 vs1 = wipe σ2 vs1 ∧ tt1 σ3 H5 fun b H6 =>
    if b = true then te σ3 H6 fun y H7 => ∃ acc, H7 Dl = some (.lst acc) ∧ acc.length < sizeLine ∧ Nx1 (upd H7 Dl (.lst (acc ++ [y]))) else Nx1 H6)
def rInL (K : PySem.W.Frag) (g1 : TG) (tt1 : TT) (te : TE) (vs1 : List Nat) (σ2 : L2.St) (Dl : Addr) (N : Hp → Prop) : VK := fun x H4 => ∃ a, x = .ref a ∧ (∃ xs, SqL K H4 a xs) ∧ RIn (Itl K a) g1 tt1 te vs1 σ2 Dl N H4
theorem x_infL {a Dl : Addr} {xs : List V} {vs1 : List Nat} {N : Hp → Prop} (Pv : Nat → Hp → Prop) (hx : SqL K H a xs) (p0 : Pv 0 H) (hl : ∀ i H', Pv i H' → SqL K H' a xs)
    (hs : ∀ i x H', xs[i]? = some x → Pv i H' → g1 x (wipe σ2 vs1) H' fun σ3 H5 => wipe σ3 vs1 = wipe σ2 vs1 ∧ tt1 σ3 H5 fun b H6 => if b = true then te σ3 H6 (fun y H7 => ∃ acc, H7 Dl = some (.lst acc) ∧ acc.length < sizeLine ∧ Pv (i + 1) (upd H7 Dl (.lst (acc ++ [y])))) else Pv (i + 1) H6)
    (hd : ∀ H', Pv xs.length H' → N H') : rInL K g1 tt1 te vs1 σ2 Dl N (.ref a) H := by
  refine ⟨a, rfl, ⟨xs, hx⟩, fun i m H => m = xs.length - i ∧ i ≤ xs.length ∧ Pv i H, ⟨xs.length, by simp, Nat.zero_le _, p0⟩, ?_⟩
  rintro i m H' ⟨rfl, hi, p⟩
  have q := hl i H' p
  by_cases hlt : i < xs.length
  · refine .inr ⟨⟨xs, xs[i], q, by simp [hlt]⟩, Pv (i + 1), fun H' p' => ⟨xs.length - (i + 1), by omega, rfl, hlt, p'⟩, fun x H2 y => ?_⟩
    obtain ⟨e, y⟩ := y
    subst e
    exact hs i x _ (y xs q) p
  · have e : i = xs.length := by omega
    subst e
    exact .inl ⟨⟨xs, q, Nat.le_refl _⟩, hd H' p⟩
/-- the outer for -/
def rLc2L (K : PySem.W.Frag) (g : TG) (te1 : TE) (g1 : TG) (tt1 : TT) (te : TE) (vs vs1 : List Nat) (σ : L2.St) (Q : VK) : VK := fun x H1 => ∃ a, x = .ref a ∧ (∃ xs, SqL K H1 a xs) ∧ ∀ D, H1 D = none → ∃ W : Nat → Nat → Hp → Prop, (∃ m, W 0 m (upd H1 D (.lst []))) ∧ ∀ i m H, W i m H →
  ((Itl K a).stop i H ∧ Q (.ref D) H) ∨ ((Itl K a).go i H ∧ ∃ Nx : Hp → Prop, (∀ H', Nx H' → ∃ m', m' < m ∧ W (i + 1) m' H') ∧ ∀ x H', (Itl K a).yld i H x H' → g x (wipe σ vs) H' fun σ2 H2 => wipe σ2 vs = wipe σ vs ∧
    te1 σ2 H2 (rInL K g1 tt1 te vs1 σ2 D Nx))
theorem x_lc2 {tx : TE} {vs vs1 : List Nat} (q : tx σ H (rLc2L K g te1 g1 tt1 te vs vs1 σ Q)) : tLc2 (iList K tx) g tYes (iList K te1) g1 tt1 te vs vs1 σ H Q := q
theorem x_lc2L {a : Addr} {xs : List V} {vs vs1 : List Nat} (Pv : Addr → Nat → Hp → Prop) (hx : SqL K H a xs) (h0 : ∀ Dl, Fr Dl H → Pv Dl 0 (upd H Dl (.lst []))) (hl : ∀ Dl i H', Fr Dl H → Pv Dl i H' → SqL K H' a xs)
    (hs : ∀ Dl, Fr Dl H → ∀ i x H', xs[i]? = some x → Pv Dl i H' → g x (wipe σ vs) H' fun σ2 H2 => wipe σ2 vs = wipe σ vs ∧ te1 σ2 H2 (rInL K g1 tt1 te vs1 σ2 Dl (Pv Dl (i + 1))))
    (hd : ∀ Dl H', Fr Dl H → Pv Dl xs.length H' → Q (.ref Dl) H') : rLc2L K g te1 g1 tt1 te vs vs1 σ Q (.ref a) H := by
  refine ⟨a, rfl, ⟨xs, hx⟩, fun Dl hD => ⟨fun i m H => m = xs.length - i ∧ i ≤ xs.length ∧ Pv Dl i H, ⟨xs.length, by simp, Nat.zero_le _, h0 Dl ⟨hD⟩⟩, ?_⟩⟩
  rintro i m H' ⟨rfl, hi, p⟩
  have q := hl Dl i H' ⟨hD⟩ p
  by_cases hlt : i < xs.length
  · refine .inr ⟨⟨xs, xs[i], q, by simp [hlt]⟩, Pv Dl (i + 1), fun H' p' => ⟨xs.length - (i + 1), by omega, rfl, hlt, p'⟩, fun x H2 y => ?_⟩
    obtain ⟨e, y⟩ := y
    subst e
    exact hs Dl ⟨hD⟩ i x _ (y xs q) p
  · have e : i = xs.length := by omega
    subst e
    exact .inl ⟨⟨xs, q, Nat.le_refl _⟩, hd Dl H' ⟨hD⟩ p⟩
/-- attributes -/
theorem x_fld {a C dx : Addr} {fs : List (Str × V)} {f : Str} (h : H a = some (.ins C dx fs)) (c : Cls K C) (n : NoAttr K C f) (l : fs.lookup f = some v) (q : Q v H) : (∃ a' C dx fs v, V.ref a = .ref a' ∧ H a' = some (.ins C dx fs) ∧ Cls K C ∧ NoAttr K C f ∧ fs.lookup f = some v ∧ Q v H) :=
  ⟨a, C, dx, fs, v, rfl, h, c, n, l, q⟩
/-- what is read from an instance -/
def rFld (K : PySem.W.Frag) (f : Str) (Q : VK) : VK := fun x H1 => ∃ a C dx fs v, x = .ref a ∧ H1 a = some (.ins C dx fs) ∧ Cls K C ∧ NoAttr K C f ∧ fs.lookup f = some v ∧ Q v H1
theorem x_fld1 {f : Str} (q : ta σ H (rFld K f Q)) : tFld K ta f σ H Q := q
theorem x_rFld {a C dx : Addr} {fs : List (Str × V)} {f : Str} (h : H a = some (.ins C dx fs)) (c : Cls K C) (n : NoAttr K C f) (l : fs.lookup f = some v) (q : Q v H) : rFld K f Q (.ref a) H := ⟨a, C, dx, fs, v, rfl, h, c, n, l, q⟩
def rSetF (K : PySem.W.Frag) (f : Str) (y : V) (R : Hp → Prop) : VK := fun x H2 => ∃ a C dx fs, x = .ref a ∧ H2 a = some (.ins C dx fs) ∧ Cls K C ∧ NoAttr K C f ∧ fs.length < 1000 ∧ R (upd H2 a (.ins C dx (putF f y fs)))
theorem x_sfld {f : Str} (q : tv σ H fun y H1 => ta σ H1 (rSetF K f y (D.nx σ))) : sFld K ta tv f D σ H := q
theorem x_ssfld {f : Str} (q : tv σ H fun y H1 => ta σ H1 (rSetF K f y fun H2 => tz D σ H2)) : tSeq (sFld K ta tv f) tz D σ H := q
theorem x_rSetF {a C dx : Addr} {fs : List (Str × V)} {f : Str} {R : Hp → Prop} (h : H a = some (.ins C dx fs)) (c : Cls K C) (n : NoAttr K C f) (l : fs.length < 1000) (q : R (upd H a (.ins C dx (putF f x fs)))) : rSetF K f x R (.ref a) H := ⟨a, C, dx, fs, rfl, h, c, n, l, q⟩
def rProp (C : Addr) (sp : Sp) (dvs : List V) (E : XK) (Q : VK) : VK := fun x H1 => ∃ a dx fs, x = .ref a ∧ H1 a = some (.ins C dx fs) ∧ sp (.ref a :: dvs) H1 Q E
theorem x_prop {C : Addr} {sp : Sp} {dvs : List V} {E : XK} (q : ta σ H (rProp C sp dvs E Q)) : tProp C sp dvs E ta σ H Q := q
theorem x_rProp {a C dx : Addr} {fs : List (Str × V)} {sp : Sp} {dvs : List V} {E : XK} (h : H a = some (.ins C dx fs)) (q : sp (.ref a :: dvs) H Q E) : rProp C sp dvs E Q (.ref a) H := ⟨a, dx, fs, rfl, h, q⟩
def rMeth (C : Addr) (m : Str) (tr : TA) (sp : Sp) (dvs : List V) (E : XK) (σ : L2.St) (Q : VK) : VK := fun x H1 => ∃ a dx fs, x = .ref a ∧ H1 a = some (.ins C dx fs) ∧ fs.lookup m = none ∧ tr σ H1 fun vs H2 => sp (x :: (vs ++ dvs)) H2 Q E
theorem x_meth {C : Addr} {m : Str} {tr : TA} {sp : Sp} {dvs : List V} {E : XK} (q : ta σ H (rMeth C m tr sp dvs E σ Q)) : tMeth C m sp dvs E ta tr σ H Q := q
theorem x_rMeth {a C dx : Addr} {fs : List (Str × V)} {m : Str} {tr : TA} {sp : Sp} {dvs : List V} {E : XK} (h : H a = some (.ins C dx fs)) (l : fs.lookup m = none) (q : tr σ H fun vs H2 => sp (.ref a :: (vs ++ dvs)) H2 Q E) : rMeth C m tr sp dvs E σ Q (.ref a) H := ⟨a, dx, fs, rfl, h, l, q⟩
def rMake (C : Addr) (sp : Sp) (dvs : List V) (E : XK) (Q : VK) : List V → Hp → Prop := fun vs H1 => ∀ x dx, H1 x = none → H1 dx = none → dx ≠ x → sp (.ref x :: (vs ++ dvs)) (upd (upd H1 dx (.own x)) x (.ins C dx [])) (fun v H2 => v = .non ∧ Q (.ref x) H2) E
theorem x_make {C : Addr} {tr : TA} {sp : Sp} {dvs : List V} {E : XK} (q : tr σ H (rMake C sp dvs E Q)) : tMake C sp dvs E tr σ H Q := q
theorem x_rMake {C : Addr} {sp : Sp} {dvs vs : List V} {E : XK} (k : ∀ x dx H2, Fr x H → Fr dx H → dx ≠ x → Same H H2 → H2 dx = some (.own x) → H2 x = some (.ins C dx []) → sp (.ref x :: (vs ++ dvs)) H2 (fun v H3 => v = .non ∧ Q (.ref x) H3) E) : rMake C sp dvs E Q vs H :=
  fun x dx hx hd hn => k x dx _ ⟨hx⟩ ⟨hd⟩ hn (same_mut (same_fr ⟨hd⟩) ⟨hx⟩) ((upd_ne hn).trans upd_same) upd_same
/-- slices stored and deleted -/
def rDelT (R : Hp → Prop) (l : Addr) (xs : List V) (i : Nat) (u : Option Int) (H2 : Hp) : Prop := u = some (i : Int) ∧ H2 l = some (.lst xs) ∧ i ≤ xs.length ∧ R (upd H2 l (.lst (xs.take i)))
theorem x_delT {to : TE} {tl : TO} (q : to σ H fun x H1 => tl σ H1 fun u H2 => ∃ l xs i, x = .ref l ∧ rDelT (D.nx σ) l xs i u H2) : tDelT to tl D σ H := q
theorem x_sdelT {to : TE} {tl : TO} (q : to σ H fun x H1 => tl σ H1 fun u H2 => ∃ l xs i, x = .ref l ∧ rDelT (fun H3 => tz D σ H3) l xs i u H2) : tSeq (tDelT to tl) tz D σ H := q
theorem x_rDelT {l : Addr} {xs : List V} {i : Nat} {k : Int} {R : Hp → Prop} (e : k = (i : Int)) (h : H l = some (.lst xs)) (hi : i ≤ xs.length) (q : R (upd H l (.lst (xs.take i)))) : ∃ l' xs i', V.ref l = .ref l' ∧ rDelT R l' xs i' (some k) H := ⟨l, xs, i, rfl, by rw [e], h, hi, q⟩
end
end Xk
/-! ## pairs in order, defs with defaults -/
namespace Xk
open PySem PySem.Spec PyProof.Rows L2
/-- the pair (p, q) stands below (r, s) -/
def Bf (p q r s : Int) : Prop := p < r ∨ (p = r ∧ q < s)
instance {p q r s : Int} : Decidable (Bf p q r s) := by unfold Bf; infer_instance
section
variable {X : Cx} {K : PySem.W.Frag} {H : Hp} {Q : VK} {a b : Addr} {p q r s : Int}
theorem pair_in {pins : List (Addr × Obj)} {σ : L2.St} {z : Shared} (I : Inv X pins σ H z) (h : SqT X.K H a [.int p, .int q]) : ∃ t u, z.heap.IsTuple a #[.int p t, .int q u] := by
  obtain ⟨vs, rv, it, _⟩ := I.tuple h
  cases rv with
  | cons x y =>
    cases y with
    | cons y w =>
      cases w
      obtain ⟨t, rfl⟩ := x
      obtain ⟨u, rfl⟩ := y
      exact ⟨t, u, it⟩
theorem eq_ints {A : Around} {z : Shared} (i j : Int) (t u : Tok) : SeqAt.EqAt A z (.int i t) (.int j u) (decide (i = j)) := by
  have h : (i == j) = decide (i = j) := by
    by_cases e : i = j
    · subst e
      simp
    · simp [e]
  rw [← h]
  exact SeqAt.EqAt.int_int _ _ _ _
def rGeP (K : PySem.W.Frag) : R2 := fun x y H Q => ∃ a b p q r s, x = .ref a ∧ y = .ref b ∧ SqT K H a [.int p, .int q] ∧ SqT K H b [.int r, .int s] ∧ Q (.bl (!decide (Bf p q r s))) H
def rLtP (K : PySem.W.Frag) : R2 := fun x y H Q => ∃ a b p q r s, x = .ref a ∧ y = .ref b ∧ SqT K H a [.int p, .int q] ∧ SqT K H b [.int r, .int s] ∧ Q (.bl (decide (Bf p q r s))) H
theorem op_geP (hu : X.A.units < cLine) : OpR X (compareOp .GtE) (rGeP X.K) := by
  intro pins σ0 σ H x y v u Q I rx ry h
  obtain ⟨a, b, p, q, r, s, rfl, rfl, ha, hb, k⟩ := h
  cases rx
  cases ry
  obtain ⟨t1, t2, ia⟩ := pair_in I ha
  obtain ⟨t3, t4, ib⟩ := pair_in I hb
  have R := Ob.RcOp.tuples_ge (e := fun j => if j = 0 then decide (p = r) else decide (q = s)) (r := fun j => if j = 0 then decide (r ≤ p) else decide (s ≤ q)) ia ib hu
    (fun j h1 h2 => match j, h1, h2 with | 0, _, _ => eq_ints _ _ _ _ | 1, _, _ => eq_ints _ _ _ _ | j + 2, z, _ => absurd (show j + 2 < 2 from z) (by omega))
    (fun j h1 h2 _ => match j, h1, h2 with | 0, _, _ => Ob.RcOp.ge_int _ _ _ _ | 1, _, _ => Ob.RcOp.ge_int _ _ _ _ | j + 2, z, _ => absurd (show j + 2 < 2 from z) (by omega))
  refine R X.prog X.w X.xe _ ?_
  have e : Ob.lexAt (fun j => if j = 0 then decide (p = r) else decide (q = s)) (fun j => if j = 0 then decide (r ≤ p) else decide (s ≤ q)) (decide (2 ≥ 2)) 0 2 = !decide (Bf p q r s) := by
    simp only [Ob.lexAt_succ, Ob.lexAt_zero, Bf]
    by_cases h1 : p = r
    · by_cases h2 : q = s
      · simp [h1, h2]
      · by_cases h3 : s ≤ q
        · have h4 : ¬ q < s := by omega
          simp [h1, h2, h3, h4]
        · have h4 : q < s := by omega
          simp [h1, h2, h3, h4]
    · by_cases h3 : r ≤ p
      · have h4 : ¬ p < r := by omega
        simp [h1, h3, h4]
      · have h4 : p < r := by omega
        simp [h1, h3, h4]
  exact ⟨.bl _, H, I, rfl, (congrArg (fun z => Q (.bl z) H) e).mpr k⟩
theorem op_ltP (hu : X.A.units < cLine) : OpR X (compareOp .Lt) (rLtP X.K) := by
  intro pins σ0 σ H x y v u Q I rx ry h
  obtain ⟨a, b, p, q, r, s, rfl, rfl, ha, hb, k⟩ := h
  cases rx
  cases ry
  obtain ⟨t1, t2, ia⟩ := pair_in I ha
  obtain ⟨t3, t4, ib⟩ := pair_in I hb
  have R := Ob.RcOp.tuples_lt (e := fun j => if j = 0 then decide (p = r) else decide (q = s)) (r := fun j => if j = 0 then decide (p < r) else decide (q < s)) ia ib hu
    (fun j h1 h2 => match j, h1, h2 with | 0, _, _ => eq_ints _ _ _ _ | 1, _, _ => eq_ints _ _ _ _ | j + 2, z, _ => absurd (show j + 2 < 2 from z) (by omega))
    (fun j h1 h2 _ => match j, h1, h2 with | 0, _, _ => Ob.RcOp.lt_int _ _ _ _ | 1, _, _ => Ob.RcOp.lt_int _ _ _ _ | j + 2, z, _ => absurd (show j + 2 < 2 from z) (by omega))
  refine R X.prog X.w X.xe _ ?_
  have e : Ob.lexAt (fun j => if j = 0 then decide (p = r) else decide (q = s)) (fun j => if j = 0 then decide (p < r) else decide (q < s)) (decide (2 < 2)) 0 2 = decide (Bf p q r s) := by
    simp only [Ob.lexAt_succ, Ob.lexAt_zero, Bf]
    by_cases h1 : p = r
    · by_cases h2 : q = s
      · simp [h1, h2]
      · by_cases h3 : q < s
        · simp [h1, h2, h3]
        · simp [h1, h2, h3]
    · by_cases h3 : p < r
      · simp [h1, h3]
      · simp [h1, h3]
  exact ⟨.bl _, H, I, rfl, (congrArg (fun z => Q (.bl z) H) e).mpr k⟩
theorem k_geP (hu : X.A.units + 64 < cLine) (e : X.K = K) : OpR X (compareOp .GtE) (rGeP K) := e ▸ op_geP (by omega)
theorem k_ltP (hu : X.A.units + 64 < cLine) (e : X.K = K) : OpR X (compareOp .Lt) (rLtP K) := e ▸ op_ltP (by omega)
theorem x_geP (h : SqT K H a [.int p, .int q]) (h' : SqT K H b [.int r, .int s]) (k : Q (.bl (!decide (Bf p q r s))) H) : rGeP K (.ref a) (.ref b) H Q := ⟨a, b, p, q, r, s, rfl, rfl, h, h', k⟩
theorem x_ltP (h : SqT K H a [.int p, .int q]) (h' : SqT K H b [.int r, .int s]) (k : Q (.bl (decide (Bf p q r s))) H) : rLtP K (.ref a) (.ref b) H Q := ⟨a, b, p, q, r, s, rfl, rfl, h, h', k⟩
def nMax2 : List V → Hp → VK → Prop := fun xs H Q => ∃ i j : Int, xs = [.int i, .int j] ∧ Q (.int (max i j)) H
def nMin2 : List V → Hp → VK → Prop := fun xs H Q => ∃ i j : Int, xs = [.int i, .int j] ∧ Q (.int (min i j)) H
theorem call_nMax2 (hc : X.calm = true) : CallR X (.builtin "max") nMax2 := by
  intro pins s σ H xs us Q I r h
  obtain ⟨i, j, e, q⟩ := h
  refine call_max2 hc pins s σ H xs us Q I r ⟨i, j, e, ?_⟩
  have z : (if j > i then j else i) = max i j := by
    by_cases h : i < j
    · rw [if_pos h]
      omega
    · rw [if_neg h]
      omega
  rw [z]
  exact q
theorem call_nMin2 (hc : X.calm = true) : CallR X (.builtin "min") nMin2 := by
  intro pins s σ H xs us Q I r h
  obtain ⟨i, j, e, q⟩ := h
  refine call_min2 hc pins s σ H xs us Q I r ⟨i, j, e, ?_⟩
  have z : (if j < i then j else i) = min i j := by
    by_cases h : j < i
    · rw [if_pos h]
      omega
    · rw [if_neg h]
      omega
  rw [z]
  exact q
theorem x_nMax2 {i j : Int} (k : Q (.int (max i j)) H) : nMax2 [.int i, .int j] H Q := ⟨i, j, rfl, k⟩
theorem x_nMin2 {i j : Int} (k : Q (.int (min i j)) H) : nMin2 [.int i, .int j] H Q := ⟨i, j, rfl, k⟩
/-- lists and tuples stay, though an own object changes -/
structure Sk (K : PySem.W.Frag) (H H' : Hp) : Prop where
  l : ∀ a xs, SqL K H a xs → SqL K H' a xs
  t : ∀ a xs, SqT K H a xs → SqT K H' a xs
theorem sk_same {H' : Hp} (e : Same H H') : Sk K H H' := ⟨fun _ _ h => sq_same h e, fun _ _ h => st_same h e⟩
theorem Sk.refl (H : Hp) : Sk K H H := ⟨fun _ _ h => h, fun _ _ h => h⟩
theorem Sk.trans {H' H'' : Hp} (e : Sk K H H') (e' : Sk K H' H'') : Sk K H H'' := ⟨fun a xs h => e'.l a xs (e.l a xs h), fun a xs h => e'.t a xs (e.t a xs h)⟩
theorem sk_but {H' : Hp} {C dx : Addr} {fs : List (Str × V)} (hi : H a = some (.ins C dx fs)) (e : But a H H') : Sk K H H' := by
  have key : ∀ b o, H b = some o → (∀ C dx fs, o ≠ .ins C dx fs) → H' b = some o := fun b o hb hn => e b o (fun z => by
    subst z
    exact hn _ _ _ (Option.some.inj (hb.symm.trans hi))) hb
  constructor
  · intro b xs h
    rcases h with (h | ⟨o, h⟩) | h
    · exact .inl (.inl (key _ _ h fun _ _ _ z => by cases z))
    · exact .inl (.inr ⟨o, key _ _ h fun _ _ _ z => by cases z⟩)
    · exact .inr h
  · intro b xs h
    rcases h with (h | ⟨o, h⟩) | h
    · exact .inl (.inl (key _ _ h fun _ _ _ z => by cases z))
    · exact .inl (.inr ⟨o, key _ _ h fun _ _ _ z => by cases z⟩)
    · exact .inr h
mutual
theorem dp_sk {H' : Hp} (e : Sk K H H') : ∀ (d : PyData) (v : V), Dp K H v d → Dp K H' v d
  | .none, _, h => by cases h; exact .non
  | .bool b, _, h => by cases h; exact .bl b
  | .int i, _, h => by cases h; exact .int i
  | .str x, _, h => by cases h; exact .str x
  | .list ds, _, h => by
    cases h with
    | lst hs ha => exact .lst (e.l _ _ hs) (dps_sk e ds _ ha)
  | .tuple ds, _, h => by
    cases h with
    | tup hs ha => exact .tup (e.t _ _ hs) (dps_sk e ds _ ha)
  | .dict _, _, h => by cases h
theorem dps_sk {H' : Hp} (e : Sk K H H') : ∀ (ds : List PyData) (vs : List V), DpAll K H vs ds → DpAll K H' vs ds
  | [], _, h => by cases h; exact .nil
  | d :: ds, _, h => by
    cases h with
    | cons h1 h2 => exact .cons (dp_sk e d _ h1) (dps_sk e ds _ h2)
end
/-- tuples stay -/
structure St (K : PySem.W.Frag) (H H' : Hp) : Prop where
  t : ∀ a xs, SqT K H a xs → SqT K H' a xs
theorem Sk.st {H' : Hp} (e : Sk K H H') : St K H H' := ⟨e.t⟩
theorem St.refl (H : Hp) : St K H H := ⟨fun _ _ h => h⟩
theorem St.trans {H' H'' : Hp} (e : St K H H') (e' : St K H' H'') : St K H H'' := ⟨fun a xs h => e'.t a xs (e.t a xs h)⟩
theorem tt_same {H' : Hp} (e : Same H H') : St K H H' := ⟨fun _ _ h => st_same h e⟩
theorem tt_but {H' : Hp} {o : HO} (hi : H a = some o) (h1 : ∀ xs, o ≠ .tup xs) (h2 : ∀ u xs, o ≠ .frz u (.tup xs)) (e : But a H H') : St K H H' := by
  refine ⟨fun b xs h => ?_⟩
  rcases h with (h | ⟨u, h⟩) | h
  · exact .inl (.inl (e b _ (fun z => by subst z; exact h1 xs (Option.some.inj (hi.symm.trans h))) h))
  · exact .inl (.inr ⟨u, e b _ (fun z => by subst z; exact h2 u xs (Option.some.inj (hi.symm.trans h))) h⟩)
  · exact .inr h
theorem tt_butL {H' : Hp} {ys : List V} (hi : H a = some (.lst ys)) (e : But a H H') : St K H H' := tt_but hi (fun _ z => by cases z) (fun _ _ z => by cases z) e
theorem tt_butO {H' : Hp} {C dx : Addr} {fs : List (Str × V)} (hi : H a = some (.ins C dx fs)) (e : But a H H') : St K H H' := tt_but hi (fun _ z => by cases z) (fun _ _ z => by cases z) e
theorem tt_mutL {o : HO} {ys : List V} (hi : H a = some (.lst ys)) : St K H (upd H a o) := tt_butL hi (but_mut (But.refl _ _))
mutual
/-- none, ints, truth values, texts, and tuples of such -/
def tupD : PyData → Bool
  | .none | .bool _ | .int _ => true
  | .str x => PyData.canLay0 (.str x)
  | .tuple xs => tupDs xs
  | .list _ | .dict _ => false
def tupDs : List PyData → Bool
  | [] => true
  | x :: xs => tupD x && tupDs xs
end
mutual
theorem tupD_lay : ∀ (d : PyData), tupD d = true → d.canLay0 = true
  | .none, _ => rfl
  | .bool _, _ => rfl
  | .int _, _ => rfl
  | .str x, h => h
  | .tuple xs, h => tupDs_lay xs h
  | .list _, h => by cases h
  | .dict _, h => by cases h
theorem tupDs_lay : ∀ (ds : List PyData), tupDs ds = true → PyData.canLayAll0 ds = true
  | [], _ => rfl
  | x :: xs, h => by
    have h2 : (tupD x && tupDs xs) = true := h
    rw [Bool.and_eq_true] at h2
    show (x.canLay0 && PyData.canLayAll0 xs) = true
    rw [tupD_lay x h2.1, tupDs_lay xs h2.2]
    rfl
end
mutual
theorem dp_st {H' : Hp} (e : St K H H') : ∀ (d : PyData) (v : V), tupD d = true → Dp K H v d → Dp K H' v d
  | .none, _, _, h => by cases h; exact .non
  | .bool b, _, _, h => by cases h; exact .bl b
  | .int i, _, _, h => by cases h; exact .int i
  | .str x, _, _, h => by cases h; exact .str x
  | .list ds, _, c, _ => by cases c
  | .tuple ds, _, c, h => by
    cases h with
    | tup hs ha => exact .tup (e.t _ _ hs) (dps_st e ds _ c ha)
  | .dict _, _, _, h => by cases h
theorem dps_st {H' : Hp} (e : St K H H') : ∀ (ds : List PyData) (vs : List V), tupDs ds = true → DpAll K H vs ds → DpAll K H' vs ds
  | [], _, _, h => by cases h; exact .nil
  | d :: ds, _, c, h => by
    have h2 : (tupD d && tupDs ds) = true := c
    rw [Bool.and_eq_true] at h2
    cases h with
    | cons h3 h4 => exact .cons (dp_st e d _ h2.1 h3) (dps_st e ds _ h2.2 h4)
end
/-- packable data at v, not deep -/
def Pk (K : PySem.W.Frag) (H : Hp) (n : Nat) (v : V) (d : PyData) : Prop := Dp K H v d ∧ tupD d = true ∧ d.depth ≤ n
theorem Pk.st {H' : Hp} {n : Nat} {v : V} {d : PyData} (h : Pk K H n v d) (e : St K H H') : Pk K H' n v d := ⟨dp_st e d v h.2.1 h.1, h.2⟩
theorem Pk.sk {H' : Hp} {n : Nat} {v : V} {d : PyData} (h : Pk K H n v d) (e : Sk K H H') : Pk K H' n v d := h.st e.st
theorem Pk.same {H' : Hp} {n : Nat} {v : V} {d : PyData} (h : Pk K H n v d) (e : Same H H') : Pk K H' n v d := h.st (tt_same e)
theorem Pk.mono {n m : Nat} {v : V} {d : PyData} (h : Pk K H n v d) (l : n ≤ m) : Pk K H m v d := ⟨h.1, h.2.1, Nat.le_trans h.2.2 l⟩
theorem Pk.lay {n : Nat} {v : V} {d : PyData} (h : Pk K H n v d) : d.canLay0 = true := tupD_lay d h.2.1
theorem pk_non {n : Nat} : Pk K H n .non .none := ⟨.non, rfl, Nat.zero_le _⟩
theorem pk_int {n : Nat} {i : Int} : Pk K H n (.int i) (.int i) := ⟨.int i, rfl, Nat.zero_le _⟩
theorem pk_str {n : Nat} {x : Str} (h : PyData.canLay0 (.str x) = true := by decide +kernel) : Pk K H n (.str x) (.str x) := ⟨.str x, h, Nat.zero_le _⟩
/-- packable data, one behind another -/
def PkAll (K : PySem.W.Frag) (H : Hp) (n : Nat) (vs : List V) (ds : List PyData) : Prop := DpAll K H vs ds ∧ tupDs ds = true ∧ PyData.depthAll ds ≤ n
theorem PkAll.st {H' : Hp} {n : Nat} {vs : List V} {ds : List PyData} (h : PkAll K H n vs ds) (e : St K H H') : PkAll K H' n vs ds := ⟨dps_st e ds vs h.2.1 h.1, h.2⟩
theorem PkAll.same {H' : Hp} {n : Nat} {vs : List V} {ds : List PyData} (h : PkAll K H n vs ds) (e : Same H H') : PkAll K H' n vs ds := h.st (tt_same e)
theorem PkAll.mono {n m : Nat} {vs : List V} {ds : List PyData} (h : PkAll K H n vs ds) (l : n ≤ m) : PkAll K H m vs ds := ⟨h.1, h.2.1, Nat.le_trans h.2.2 l⟩
theorem PkAll.lay {n : Nat} {vs : List V} {ds : List PyData} (h : PkAll K H n vs ds) : PyData.canLayAll0 ds = true := tupDs_lay ds h.2.1
theorem pk_nil {n : Nat} : PkAll K H n [] [] := ⟨.nil, rfl, Nat.zero_le _⟩
theorem pk_cons {n : Nat} {v : V} {vs : List V} {d : PyData} {ds : List PyData} (h : Pk K H n v d) (h' : PkAll K H n vs ds) : PkAll K H n (v :: vs) (d :: ds) :=
  ⟨.cons h.1 h'.1, by show (tupD d && tupDs ds) = true; rw [h.2.1, h'.2.1]; rfl, by show max _ _ ≤ n; have := h.2.2; have := h'.2.2; omega⟩
theorem PkAll.uncons {n : Nat} {v : V} {vs : List V} {ds : List PyData} (h : PkAll K H n (v :: vs) ds) : ∃ d es, ds = d :: es ∧ Pk K H n v d ∧ PkAll K H n vs es := by
  obtain ⟨h1, h2, h3⟩ := h
  cases h1 with
  | cons a b =>
    rename_i d es
    have h4 : (tupD d && tupDs es) = true := h2
    rw [Bool.and_eq_true] at h4
    have h5 : max d.depth (PyData.depthAll es) ≤ n := h3
    exact ⟨d, es, rfl, ⟨a, h4.1, by omega⟩, ⟨b, h4.2, by omega⟩⟩
theorem pk_snoc {n : Nat} : ∀ {vs : List V} {ds : List PyData} {v : V} {d : PyData}, PkAll K H n vs ds → Pk K H n v d → PkAll K H n (vs ++ [v]) (ds ++ [d])
  | [], ds, v, d, h, h' => by
    obtain ⟨h1, _, _⟩ := h
    cases h1
    exact pk_cons h' pk_nil
  | w :: vs, ds, v, d, h, h' => by
    obtain ⟨e, es, rfl, h1, h2⟩ := h.uncons
    exact pk_cons h1 (pk_snoc h2 h')
theorem PkAll.len {n : Nat} : ∀ {vs : List V} {ds : List PyData}, PkAll K H n vs ds → vs.length = ds.length
  | [], ds, h => by
    obtain ⟨h1, _, _⟩ := h
    cases h1
    rfl
  | w :: vs, ds, h => by
    obtain ⟨e, es, rfl, h1, h2⟩ := h.uncons
    show vs.length + 1 = es.length + 1
    rw [h2.len]
theorem PkAll.take {n : Nat} : ∀ {vs : List V} {ds : List PyData} (k : Nat), PkAll K H n vs ds → PkAll K H n (vs.take k) (ds.take k)
  | vs, ds, 0, h => pk_nil
  | [], ds, k + 1, h => by
    obtain ⟨h1, _, _⟩ := h
    cases h1
    exact pk_nil
  | w :: vs, ds, k + 1, h => by
    obtain ⟨e, es, rfl, h1, h2⟩ := h.uncons
    exact pk_cons h1 (h2.take k)
theorem PkAll.at {n : Nat} : ∀ {vs : List V} {ds : List PyData} {i : Nat} {v : V}, PkAll K H n vs ds → vs[i]? = some v → ∃ d, ds[i]? = some d ∧ Pk K H n v d
  | [], ds, i, v, h, e => by simp at e
  | w :: vs, ds, 0, v, h, e => by
    obtain ⟨d, es, rfl, h1, h2⟩ := h.uncons
    cases (show w = v from Option.some.inj e)
    exact ⟨d, rfl, h1⟩
  | w :: vs, ds, i + 1, v, h, e => by
    obtain ⟨d, es, rfl, h1, h2⟩ := h.uncons
    exact h2.at e
theorem pk_tup {n : Nat} {a : Addr} {vs : List V} {ds : List PyData} (h : SqT K H a vs) (h1 : PkAll K H n vs ds) : Pk K H (n + 1) (.ref a) (.tuple ds) :=
  ⟨.tup h h1.1, h1.2.1, Nat.add_le_add_right h1.2.2 1⟩
theorem pk_tup1 {n : Nat} {a : Addr} {v : V} {d : PyData} (h : SqT K H a [v]) (h1 : Pk K H n v d) : Pk K H (n + 1) (.ref a) (.tuple [d]) := pk_tup h (pk_cons h1 pk_nil)
theorem pk_tup2 {n : Nat} {a : Addr} {v w : V} {d e : PyData} (h : SqT K H a [v, w]) (h1 : Pk K H n v d) (h2 : Pk K H n w e) : Pk K H (n + 1) (.ref a) (.tuple [d, e]) := pk_tup h (pk_cons h1 (pk_cons h2 pk_nil))
theorem pk_tup3 {n : Nat} {a : Addr} {u v w : V} {c d e : PyData} (h : SqT K H a [u, v, w]) (h0 : Pk K H n u c) (h1 : Pk K H n v d) (h2 : Pk K H n w e) : Pk K H (n + 1) (.ref a) (.tuple [c, d, e]) := pk_tup h (pk_cons h0 (pk_cons h1 (pk_cons h2 pk_nil)))
/-- equal data, one way or the other -/
theorem x_nePk {n m : Nat} {x y : V} {d : PyData} (h : Pk K H n x d) (h' : Pk K H m y d) (q : Q (.bl false) H) (l : n ≤ 64 := by decide) : rNeD K x y H Q := x_neSame h.1 h'.1 h.lay (Nat.le_trans h.2.2 l) q
theorem x_eqPk {n m : Nat} {x y : V} {d : PyData} (h : Pk K H n x d) (h' : Pk K H m y d) (q : Q (.bl true) H) (l : n ≤ 64 := by decide) : rEqD K x y H Q := x_eqSame h.1 h'.1 h.lay (Nat.le_trans h.2.2 l) q
theorem lay_list {ds : List PyData} (h : PyData.canLayAll0 ds = true) : PyData.canLay0 (.list ds) = true := h
theorem x_nePkL {n m : Nat} {p q' : Addr} {xs ys : List V} {ds : List PyData} (hp : SqL K H p xs) (hq : SqL K H q' ys) (h : PkAll K H n xs ds) (h' : PkAll K H m ys ds) (q : Q (.bl false) H) (l : n ≤ 63 := by decide) : rNeD K (.ref p) (.ref q') H Q :=
  x_neSame (.lst hp h.1) (.lst hq h'.1) (lay_list h.lay) (Nat.add_le_add_right (Nat.le_trans h.2.2 l) 1) q
theorem x_eqPkL {n m : Nat} {p q' : Addr} {xs ys : List V} {ds : List PyData} (hp : SqL K H p xs) (hq : SqL K H q' ys) (h : PkAll K H n xs ds) (h' : PkAll K H m ys ds) (q : Q (.bl true) H) (l : n ≤ 63 := by decide) : rEqD K (.ref p) (.ref q') H Q :=
  x_eqSame (.lst hp h.1) (.lst hq h'.1) (lay_list h.lay) (Nat.add_le_add_right (Nat.le_trans h.2.2 l) 1) q
theorem u65 {k : Nat} {A : Around} (r : Room k A) : A.units + 65 < cLine := by
  have := r.un
  omega
theorem k_inD (hu : X.A.units + 65 < cLine) (e : X.K = K) : OpR X (compareOp .In) (rInD K) := e ▸ op_inD hu
theorem k_ninD (hu : X.A.units + 65 < cLine) (e : X.K = K) : OpR X (compareOp .NotIn) (rNotInD K) := e ▸ op_notInD hu
/-- whether d is among ds -/
def inD (d : PyData) (ds : List PyData) : Bool := ds.any fun z => PyData.eqv z d
theorem x_inPk {n m : Nat} {x : V} {d : PyData} {xs : List V} {ds : List PyData} (h : Pk K H n x d) (hp : SqL K H a xs) (h' : PkAll K H m xs ds) (k : Q (.bl (inD d ds)) H) (l : n ≤ 64 := by decide) (l' : m ≤ 63 := by decide) : rInD K x (.ref a) H Q :=
  ⟨d, ds, h.1, .lst hp h'.1, shaped_of h.lay (Nat.le_trans h.2.2 l), shaped_of (lay_list h'.lay) (Nat.add_le_add_right (Nat.le_trans h'.2.2 l') 1), k⟩
theorem x_ninPk {n m : Nat} {x : V} {d : PyData} {xs : List V} {ds : List PyData} (h : Pk K H n x d) (hp : SqL K H a xs) (h' : PkAll K H m xs ds) (k : Q (.bl (!inD d ds)) H) (l : n ≤ 64 := by decide) (l' : m ≤ 63 := by decide) : rNotInD K x (.ref a) H Q :=
  ⟨d, ds, h.1, .lst hp h'.1, shaped_of h.lay (Nat.le_trans h.2.2 l), shaped_of (lay_list h'.lay) (Nat.add_le_add_right (Nat.le_trans h'.2.2 l') 1), k⟩
theorem x_inD {x : V} {d : PyData} {ds : List PyData} (h : Dp K H x d) (h' : Dp K H (.ref a) (.list ds)) (c : d.canLay0 = true) (n : d.depth ≤ 64) (c' : PyData.canLay0 (.list ds) = true) (n' : PyData.depth (.list ds) ≤ 64) (k : Q (.bl (inD d ds)) H) : rInD K x (.ref a) H Q :=
  ⟨d, ds, h, h', shaped_of c n, shaped_of c' n', k⟩
theorem x_ninD {x : V} {d : PyData} {ds : List PyData} (h : Dp K H x d) (h' : Dp K H (.ref a) (.list ds)) (c : d.canLay0 = true) (n : d.depth ≤ 64) (c' : PyData.canLay0 (.list ds) = true) (n' : PyData.depth (.list ds) ≤ 64) (k : Q (.bl (!inD d ds)) H) : rNotInD K x (.ref a) H Q :=
  ⟨d, ds, h, h', shaped_of c n, shaped_of c' n', k⟩
/-- a sign some times over -/
def repS (x : Str) (n : Int) : Str := if n < 1 then Str.empty else if (n == 1 || x.length == 0) = true then x else ⟨(List.replicate n.toNat x.cps).foldl (· ++ ·) #[]⟩
def nRepS : R2 := fun x y H Q => ∃ (z : Str) (n : Int), x = .str z ∧ y = .int n ∧ 0 ≤ n ∧ n ≤ 1000 ∧ z.length ≤ 100 ∧ Q (.str (repS z n)) H
theorem op_nRepS : OpR X (binaryOp .Mult) nRepS := by
  intro pins s σ H x y v u Q I rx ry h
  obtain ⟨z, n, rfl, rfl, h0, h1, h2, q⟩ := h
  obtain ⟨t, rfl⟩ := rx
  obtain ⟨t', rfl⟩ := ry
  have hlen : z.length * n.toNat ≤ 100000 := by
    have h3 : n.toNat ≤ 1000 := by omega
    calc z.length * n.toNat ≤ 100 * n.toNat := Nat.mul_le_mul_right _ h2
      _ ≤ 100000 := by omega
  refine PySem.P.mul_str ?_ ?_ ?_ ?_
  · rw [decide_eq_false (by omega), decide_eq_false (by omega)]
    rfl
  · intro h3 _ h4
    have h5 : (1000 : Int) ≤ (2 ^ 63 - 1) / n := by
      rw [Int.le_ediv_iff_mul_le (by omega)]
      omega
    omega
  · intro _ _
    exact decide_eq_false (by unfold sizeLine; omega)
  · unfold repS at q
    by_cases h3 : n < 1
    · rw [if_pos h3] at q ⊢
      exact ⟨by decide, .str Str.empty, H, I.tok _, ⟨_, rfl⟩, q⟩
    · rw [if_neg h3] at q ⊢
      by_cases h4 : (n == 1 || z.length == 0) = true
      · rw [if_pos h4] at q ⊢
        exact ⟨.str z, H, I, ⟨_, rfl⟩, q⟩
      · rw [if_neg h4] at q ⊢
        exact ⟨PySem.fits_reps (decide_eq_false (by unfold sizeLine; omega)), .str _, H, I.tok _, ⟨_, rfl⟩, q⟩
theorem x_nRepS {z : Str} {n : Int} (h : 0 ≤ n ∧ n ≤ 1000) (hz : z.length ≤ 100) (k : Q (.str (repS z n)) H) : nRepS (.str z) (.int n) H Q := ⟨z, n, rfl, rfl, h.1, h.2, hz, k⟩
/-- a range from its end -/
def rRevR (i : Nat) (tu : TS) (D : Ends) (σ : L2.St) : Int → Int → Hp → Prop := fun lo hi H => -(2 ^ 62) ≤ lo ∧ lo < 2 ^ 62 ∧ -(2 ^ 62) ≤ hi ∧ hi < 2 ^ 62 ∧ ∃ W : Nat → Nat → L2.St → Hp → Prop, (∃ m, W 0 m σ H) ∧ ∀ j m σ H, W j m σ H →
  ((Itc (lo + (((hi - lo).toNat : Nat) : Int) - 1) (-1) (hi - lo).toNat).stop j H ∧ D.nx σ H) ∨ ((Itc (lo + (((hi - lo).toNat : Nat) : Int) - 1) (-1) (hi - lo).toNat).go j H ∧ ∃ N : L2.St → Hp → Prop, (∀ σ' H', N σ' H' → ∃ m', m' < m ∧ W (j + 1) m' σ' H') ∧
    ∀ x H', (Itc (lo + (((hi - lo).toNat : Nat) : Int) - 1) (-1) (hi - lo).toNat).yld j H x H' → gName i x σ H' fun σ2 H2 => tu { D with nx := N, ct := N, bk := D.nx } σ2 H2)
theorem x_forRev1 {i : Nat} {tu : TS} {D : Ends} {σ : L2.St} {tr : L2.St → Hp → (Int → Int → Hp → Prop) → Prop} (q : tr σ H (rRevR i tu D σ)) : tFor (iRevR tr) (gName i) tu D σ H := q
theorem x_forRev {i : Nat} {tu : TS} {D : Ends} {σ : L2.St} {m : Int} (Pv : Nat → L2.St → Hp → Prop) (hm : 0 ≤ m ∧ m ≤ 100000) (p0 : Pv 0 σ H)
    (ps : ∀ (j : Nat) σ' H', (j : Int) < m → Pv j σ' H' → tu { D with nx := Pv (j + 1), ct := Pv (j + 1), bk := D.nx } (σ'.set i (some (.int (m - 1 - j)))) H') (pd : ∀ σ' H', Pv m.toNat σ' H' → D.nx σ' H') : rRevR i tu D σ 0 m H := by
  have e : (m - 0).toNat = m.toNat := by omega
  refine ⟨by omega, by omega, by omega, by omega, ?_⟩
  rw [e]
  refine for_rangeC (n := m.toNat) Pv p0 (fun j σ' H' hj p => ?_) pd
  have e0 : (0 : Int) + ((m.toNat : Nat) : Int) - 1 + (j : Nat) * (-1) = m - 1 - j := by omega
  show tu { D with nx := Pv (j + 1), ct := Pv (j + 1), bk := D.nx } (σ'.set i (some (.int ((0 : Int) + ((m.toNat : Nat) : Int) - 1 + (j : Nat) * (-1))))) H'
  rw [e0]
  exact ps j σ' H' (by omega) p
theorem cut_take {xs : List V} {k : Int} {n : Nat} (e : k = (n : Int)) : cutV xs none (some k) = xs.take n := by
  subst e
  unfold cutV
  rw [HT.sIx_nat, HT.sIx_none, List.drop_zero, Nat.sub_zero]
  by_cases h : n ≤ xs.length
  · rw [show min n xs.length = n by omega]
  · rw [show min n xs.length = xs.length by omega, List.take_length, List.take_of_length_le (by omega)]
theorem cut_drop {xs : List V} {k : Int} {n : Nat} (e : k = (n : Int)) : cutV xs (some k) none = xs.drop n := by
  subst e
  unfold cutV
  rw [HT.sIx_nat, HT.sIx_none]
  by_cases h : n ≤ xs.length
  · rw [show min n xs.length = n by omega, List.take_of_length_le (by rw [List.length_drop]; omega)]
  · rw [show min n xs.length = xs.length by omega, List.drop_length, List.drop_of_length_le (by omega)]
    simp
/-- range(lo, hi) -/
def rRange2 (n : Nat) (tu : TS) (D : Ends) (σ : L2.St) : List V → Hp → Prop := fun vs H => ∃ i j : Int, vs = [.int i, .int j] ∧ (-(2 ^ 62) ≤ i ∧ i < 2 ^ 62 ∧ -(2 ^ 62) ≤ j ∧ j < 2 ^ 62) ∧ ∃ W : Nat → Nat → L2.St → Hp → Prop, (∃ m, W 0 m σ H) ∧ ∀ k m σ H, W k m σ H →
  ((Itr i (j - i).toNat).stop k H ∧ D.nx σ H) ∨ ((Itr i (j - i).toNat).go k H ∧ ∃ N : L2.St → Hp → Prop, (∀ σ' H', N σ' H' → ∃ m', m' < m ∧ W (k + 1) m' σ' H') ∧ ∀ x H', (Itr i (j - i).toNat).yld k H x H' → gName n x σ H' fun σ2 H2 => tu { D with nx := N, ct := N, bk := D.nx } σ2 H2)
theorem x_forR2 {n : Nat} {tu : TS} {D : Ends} {σ : L2.St} {tr : TA} (q : tr σ H (rRange2 n tu D σ)) : tFor (iRng2 tr) (gName n) tu D σ H := q
theorem x_range2 {n : Nat} {tu : TS} {D : Ends} {σ : L2.St} {lo hi : Int} (Pv : Nat → L2.St → Hp → Prop) (hm : -1000000 ≤ lo ∧ lo ≤ 1000000 ∧ -1000000 ≤ hi ∧ hi ≤ 1000000) (p0 : Pv 0 σ H)
    (ps : ∀ (k : Nat) σ' H', lo + (k : Int) < hi → Pv k σ' H' → tu { D with nx := Pv (k + 1), ct := Pv (k + 1), bk := D.nx } (σ'.set n (some (.int (lo + (k : Int))))) H') (pd : ∀ σ' H', Pv (hi - lo).toNat σ' H' → D.nx σ' H') : rRange2 n tu D σ [.int lo, .int hi] H :=
  ⟨lo, hi, rfl, ⟨by omega, by omega, by omega, by omega⟩, for_range (lo := lo) (n := (hi - lo).toNat) Pv p0 (fun k σ' H' hk p => ps k σ' H' (by omega) p) pd⟩
theorem pk_ints {n : Nat} : ∀ ns : List Int, PkAll K H n (ns.map V.int) (ns.map PyData.int)
  | [] => pk_nil
  | m :: r => pk_cons pk_int (pk_ints r)
/-! dicts whose keys are texts -/
def rDG (x : V) (Q : VK) : VK := fun y H2 => ∃ (a : Addr) (v : V), x = .ref a ∧ DGet H2 a y (some v) ∧ Q v H2
theorem x_dget {td ty : TE} {σ : L2.St} (q : td σ H fun x H1 => ty σ H1 (rDG x Q)) : tDGet td ty σ H Q := q
theorem x_rDG {kvs : List (Key × V)} {k : Str} {v : V} (h : H a = some (.dK kvs)) (e : valV kvs (Sum.inr k) = some v) (q : Q v H) : rDG (.ref a) Q (.str k) H := ⟨a, v, rfl, by rw [← e]; exact (DGet.k (k := Sum.inr k) h : DGet H a (kV (Sum.inr k)) (valV kvs (Sum.inr k))), q⟩
def rDP (x v : V) (R : Hp → Prop) : VK := fun y H3 => ∃ (a : Addr) (H4 : Hp), x = .ref a ∧ DPut H3 a y v H4 ∧ R H4
theorem x_sdput {td ty tv : TE} {D : Ends} {σ : L2.St} {tz : TS} (q : tv σ H fun v H1 => td σ H1 fun x H2 => ty σ H2 (rDP x v fun H4 => tz D σ H4)) : tSeq (sDPut td ty tv) tz D σ H := q
theorem x_dput {td ty tv : TE} {D : Ends} {σ : L2.St} (q : tv σ H fun v H1 => td σ H1 fun x H2 => ty σ H2 (rDP x v fun H4 => D.nx σ H4)) : sDPut td ty tv D σ H := q
theorem x_rDP {kvs kvs' : List (Key × V)} {k : Str} {v : V} {R : Hp → Prop} (h : H a = some (.dK kvs)) (hl : kvs.length < 1000) (e : putK kvs (Sum.inr k) v = kvs') (q : R (upd H a (.dK kvs'))) : rDP (.ref a) v R (.str k) H :=
  ⟨a, upd H a (.dK (putK kvs (Sum.inr k) v)), rfl, (DPut.k (k := Sum.inr k) h (small1000 (Nat.le_of_lt hl)) : DPut H a (kV (Sum.inr k)) v _), by rw [e]; exact q⟩
theorem x_disp {trs : List (TE × TE)} {σ : L2.St} (q : ∀ p, Fr p H → tPairs trs σ (upd H p (.dK [])) fun ps H2 => H2 p = some (.dK []) ∧ ∃ kvs : List (Key × V), ps = kvs.map (fun kv => (kV kv.1, kv.2)) ∧ kvs.length ≤ 15 ∧ Q (.ref p) (upd H2 p (.dK (mergeK [] kvs)))) : tDisp trs σ H Q := fun p hp => q p ⟨hp⟩
theorem x_pcons {tk tv : TE} {r : List (TE × TE)} {σ : L2.St} {R : List (V × V) → Hp → Prop} (q : tk σ H fun x H1 => tv σ H1 fun y H2 => tPairs r σ H2 fun ps H3 => R ((x, y) :: ps) H3) : tPairs ((tk, tv) :: r) σ H R := q
theorem x_pnil {σ : L2.St} {R : List (V × V) → Hp → Prop} (q : R [] H) : tPairs [] σ H R := q
/-! lists of ints sorted where they stand -/
theorem x_rSortI {ns : List Int} (h : H a = some (.lst (ns.map V.int))) (k : ∀ ns' : List Int, ns'.Perm ns → ns'.Pairwise (· ≤ ·) → Q .non (upd H a (.lst (ns'.map V.int)))) : rSortI (.ref a) [] H Q := ⟨a, ns, rfl, rfl, h, k⟩
theorem srt_eq {xs ys : List Int} (p : xs.Perm ys) (h1 : xs.Pairwise (· ≤ ·)) (h2 : ys.Pairwise (· ≤ ·)) : xs = ys := p.eq_of_pairwise (fun x y _ _ h h' => Int.le_antisymm h h') h1 h2
/-! texts -/
def nInS : R2 := fun x y H Q => ∃ (c : Nat) (z : Str), x = .str ⟨#[c]⟩ ∧ y = .str z ∧ Q (.bl (decide (c ∈ z.cps.toList))) H
def nNotInS : R2 := fun x y H Q => ∃ (c : Nat) (z : Str), x = .str ⟨#[c]⟩ ∧ y = .str z ∧ Q (.bl (!decide (c ∈ z.cps.toList))) H
theorem op_nInS : OpR X (compareOp .In) nInS := op_in_sign
theorem op_nNotInS : OpR X (compareOp .NotIn) nNotInS := op_notIn_sign
theorem x_inS {c : Nat} {z : Str} (q : Q (.bl (decide (c ∈ z.cps.toList))) H) : nInS (.str ⟨#[c]⟩) (.str z) H Q := ⟨c, z, rfl, rfl, q⟩
theorem x_notInS {c : Nat} {z : Str} (q : Q (.bl (!decide (c ∈ z.cps.toList))) H) : nNotInS (.str ⟨#[c]⟩) (.str z) H Q := ⟨c, z, rfl, rfl, q⟩
def nAddS : R2 := fun x y H Q => ∃ i j : Str, x = .str i ∧ y = .str j ∧ i.length + j.length ≤ sizeLine ∧ Q (.str (i ++ j)) H
theorem op_nAddS : OpR X (binaryOp .Add) nAddS := op_add_str
theorem x_nAddS {i j : Str} (h : i.length + j.length ≤ 100000) (q : Q (.str (i ++ j)) H) : nAddS (.str i) (.str j) H Q := ⟨i, j, rfl, rfl, size_ok h, q⟩
def nLenS : List V → Hp → VK → Prop := fun xs H Q => ∃ z : Str, xs = [.str z] ∧ z.length ≤ sizeLine ∧ Q (.int z.length) H
theorem call_nLenS : CallR X (.builtin "len") nLenS := call_len_str
theorem x_nLenS {z : Str} (h : z.length ≤ 100000) (q : Q (.int z.length) H) : nLenS [.str z] H Q := ⟨z, rfl, size_ok h, q⟩
theorem x_slS {z : Str} {lo hi : Option Int} (h : z.length ≤ 100000) (q : Q (.str (cutS z lo hi)) H) : rSlS (.str z) lo hi H Q := ⟨z, rfl, size_ok h, q⟩
def rLcS (g : TG) (tt : TT) (te : TE) (vs : List Nat) (σ : L2.St) (Q : VK) : VK := fun x H1 => ∃ z, x = .str z ∧ RLc (Its z) g tt te vs σ Q H1
theorem x_lcS1 {g : TG} {t : TT} {te tx : TE} {vs : List Nat} {σ : L2.St} (q : tx σ H (rLcS g t te vs σ Q)) : tLc (iStr tx) g t te vs σ H Q := q
theorem x_lcS {g : TG} {t : TT} {te : TE} {vs : List Nat} {σ : L2.St} {z : Str} (Pv : Addr → Nat → Hp → Prop) (h0 : ∀ Dl, Fr Dl H → Pv Dl 0 (upd H Dl (.lst [])))
    (hs : ∀ Dl, Fr Dl H → ∀ i c H', z.cps.toList[i]? = some c → Pv Dl i H' → g (.str ⟨#[c]⟩) (wipe σ vs) H' fun σ2 H2 => wipe σ2 vs = wipe σ vs ∧ t σ2 H2 fun b H3 =>
      if b = true then te σ2 H3 fun y H4 => ∃ acc, H4 Dl = some (.lst acc) ∧ acc.length < sizeLine ∧ Pv Dl (i + 1) (upd H4 Dl (.lst (acc ++ [y]))) else Pv Dl (i + 1) H3)
    (hd : ∀ Dl H', Fr Dl H → Pv Dl z.length H' → Q (.ref Dl) H') : rLcS g t te vs σ Q (.str z) H := ⟨z, rfl, fun Dl hD =>
  lc_it walk_str (Pv Dl) (h0 Dl ⟨hD⟩) (fun _ _ _ _ => trivial) (fun i x H1 H' _ p y => by
    obtain ⟨rfl, c, hc, rfl⟩ := y
    exact hs Dl ⟨hD⟩ i c _ (by rw [← hc]; simp) p) (fun H' p => hd Dl H' ⟨hD⟩ p)⟩
/-! ### texts gone through, keys of a dict -/
def rForS (g : TG) (tu : TS) (D : Ends) (σ : L2.St) : VK := fun x H => ∃ z, x = .str z ∧ ∃ W : Nat → Nat → L2.St → Hp → Prop, (∃ m, W 0 m σ H) ∧ ∀ i m σ H, W i m σ H →
  ((Its z).stop i H ∧ D.nx σ H) ∨ ((Its z).go i H ∧ ∃ N : L2.St → Hp → Prop, (∀ σ' H', N σ' H' → ∃ m', m' < m ∧ W (i + 1) m' σ' H') ∧ ∀ x H', (Its z).yld i H x H' → g x σ H' fun σ2 H2 => tu { D with nx := N, ct := N, bk := D.nx } σ2 H2)
theorem x_forS1 {g : TG} {tu : TS} {D : Ends} {σ : L2.St} {te : TE} (q : te σ H (rForS g tu D σ)) : tFor (iStr te) g tu D σ H := q
theorem x_forS {g : TG} {tu : TS} {D : Ends} {σ : L2.St} {z : Str} (Pv : Nat → L2.St → Hp → Prop) (p0 : Pv 0 σ H)
    (ps : ∀ i c σ' H', z.cps.toList[i]? = some c → Pv i σ' H' → g (.str ⟨#[c]⟩) σ' H' fun σ2 H2 => tu { D with nx := Pv (i + 1), ct := Pv (i + 1), bk := D.nx } σ2 H2) (pd : ∀ σ' H', Pv z.length σ' H' → D.nx σ' H') : rForS g tu D σ (.str z) H :=
  ⟨z, rfl, for_it walk_str Pv p0 (fun _ _ _ _ _ => trivial) (fun i x σ H H' _ p y => by
    obtain ⟨rfl, c, hc, rfl⟩ := y
    exact ps i c _ _ (by rw [← hc]; simp) p) pd⟩
def nOrd : List V → Hp → VK → Prop := fun xs H Q => ∃ x : Str, xs = [.str x] ∧ x.length = 1 ∧ Q (.int (x.cps.getD 0 0 : Nat)) H
theorem k_ord {X : Cx} : CallR X (.builtin "ord") nOrd := call_ord
theorem x_ord {c : Nat} (q : Q (.int (c : Nat)) H) : nOrd [.str ⟨#[c]⟩] H Q := ⟨_, rfl, rfl, q⟩
/-- a list comprehension over a dict's keys -/
theorem x_lcK {g : TG} {t : TT} {te : TE} {vs : List Nat} {σ : L2.St} {a : Nat} {r : Addr} {kvs : List (Key × V)} (ea : σ[a]? = some (some (.ref r))) (hr : H r = some (.dK kvs))
    (q : ∀ od H0, H0 = upd H r (.frz od (.dK kvs)) → ∃ Pv : Addr → Nat → Hp → Prop, (∀ Dl, Fr Dl H0 → Pv Dl 0 (upd H0 Dl (.lst []))) ∧ (∀ Dl i H', Fr Dl H0 → Pv Dl i H' → H' r = some (.frz od (.dK kvs))) ∧
      (∀ Dl, Fr Dl H0 → ∀ i k v H', kvs[i]? = some (k, v) → Pv Dl i H' → g (kV k) (wipe σ vs) H' fun σ2 H2 => wipe σ2 vs = wipe σ vs ∧ t σ2 H2 fun b H3 =>
        if b = true then te σ2 H3 fun y H4 => ∃ acc, H4 Dl = some (.lst acc) ∧ acc.length < sizeLine ∧ Pv Dl (i + 1) (upd H4 Dl (.lst (acc ++ [y]))) else Pv Dl (i + 1) H3) ∧
      ∀ Dl H', Fr Dl H0 → Pv Dl kvs.length H' → Q (.ref Dl) (upd H' r (.dK kvs))) : tLockE (tLc (iKeys (tVar a)) g t te vs) σ H Q := by
  refine ⟨r, _, hr, trivial, fun od => ?_⟩
  obtain ⟨Pv, h0, h1, h2, h3⟩ := q od _ rfl
  refine ⟨.ref r, ea, r, od, rfl, .inl ⟨kvs, upd_same, fun Dl hD => ?_⟩⟩
  refine lc_it (walk_keys (o := od)) (Pv Dl) (h0 Dl ⟨hD⟩) (fun i H' _ p => h1 Dl i H' ⟨hD⟩ p) (fun i x H1 H' _ p y => ?_) fun H' p => ⟨h1 Dl _ H' ⟨hD⟩ p, h3 Dl H' ⟨hD⟩ p⟩
  obtain ⟨rfl, k, v, e, rfl⟩ := y
  exact h2 Dl ⟨hD⟩ i k v _ e p
/-- all signs of a text are so -/
def AllC (p : Nat → Bool) (s : Str) : Bool := s.cps.toList.all p
theorem toList_add (i j : Str) : (i ++ j).cps.toList = i.cps.toList ++ j.cps.toList := by
  show (i.cps ++ j.cps).toList = _
  simp
theorem len_add (i j : Str) : (i ++ j).length = i.length + j.length := by
  show (i.cps ++ j.cps).size = i.cps.size + j.cps.size
  simp
theorem allC_add {p : Nat → Bool} {i j : Str} (h : AllC p i = true) (h' : AllC p j = true) : AllC p (i ++ j) = true := by
  unfold AllC at *
  rw [toList_add, List.all_append, h, h']
  rfl
theorem allC_add_inv {p : Nat → Bool} {i j : Str} (h : AllC p (i ++ j) = true) : AllC p i = true ∧ AllC p j = true := by
  unfold AllC at *
  rw [toList_add, List.all_append, Bool.and_eq_true] at h
  exact h
theorem allC_cut {p : Nat → Bool} {z : Str} {lo hi : Option Int} (h : AllC p z = true) : AllC p (cutS z lo hi) = true := by
  unfold AllC at *
  rw [List.all_eq_true] at h ⊢
  intro c hc
  refine h c ?_
  unfold cutS at hc
  simp only at hc
  exact List.mem_of_mem_drop (List.mem_of_mem_take hc)
theorem len_cut (z : Str) (lo hi : Option Int) : (cutS z lo hi).length ≤ z.length := by
  show (cutS z lo hi).cps.size ≤ z.cps.size
  unfold cutS
  simp only [List.size_toArray, List.length_take, List.length_drop, Array.length_toList]
  have : z.length = z.cps.size := rfl
  omega
theorem allC_at {p : Nat → Bool} {z : Str} {i : Nat} {c : Nat} (h : AllC p z = true) (e : z.cps.toList[i]? = some c) : AllC p ⟨#[c]⟩ = true := by
  unfold AllC at *
  rw [List.all_eq_true] at h
  have := h c (List.mem_of_getElem? e)
  simp [this]
theorem allC_mono {p q : Nat → Bool} {s : Str} (h : AllC p s = true) (f : ∀ c, p c = true → q c = true) : AllC q s = true := by
  unfold AllC at *
  rw [List.all_eq_true] at h ⊢
  exact fun c hc => f c (h c hc)
def okC : Nat → Bool := fun c => decide (c < 0x110000)
theorem lay_str {s : Str} (h : AllC okC s = true) : PyData.canLay0 (.str s) = true := by
  have h2 : s.cps.all (fun c => decide (c < 0x110000)) = true := by
    rw [← Array.all_toList]
    exact h
  simpa only [PyData.canLay0, PyData.strOk] using h2
/-! tuples some times over -/
theorem tup_times1 (l : Addr) (items : Array Value) (n : Nat) (dd : Option Addr) (sl : Array (Option Value)) (u : Tok) :
    Meets (Builtin.«tuple.__mul__» ⟨[.ref l, .int 1 u], []⟩) (fun _ R s => s.heap.get? l = some { cls := .type "tuple", dict := dd, data := .seq items n, slots := sl } ∧ R (.ok (.ret (.ref l))) s) :=
  .of_wp fun prog w A R s h => by
    obtain ⟨hp, g, d, tk, os⟩ := s
    obtain ⟨hl, h⟩ := h
    have f1 := AutoSeq1.idx_int
    wp_walk using wpAny_loadPart' hl
    exact ⟨_, rfl, h⟩
def nRepT (K : PySem.W.Frag) : R2 := fun x y H Q => ∃ (l : Addr) (k : Int) (xs : List V), x = .ref l ∧ y = .int k ∧ SqT K H l xs ∧ xs ≠ [] ∧ xs.length ≤ 1000 ∧ ((k = 1 ∧ Q (.ref l) H) ∨ (2 ≤ k ∧ k ≤ 1000 ∧ ∀ p, H p = none → Q (.ref p) (upd H p (.tup (List.replicate k.toNat xs).flatten))))
theorem op_nRepT : OpR X (binaryOp .Mult) (nRepT X.K) := by
  intro pins s σ H x y v u Q I rx ry h
  obtain ⟨l, k, xs, rfl, rfl, hT, hne, hz, q⟩ := h
  rcases q with ⟨rfl, q⟩ | ⟨h1, h2, q⟩
  · cases rx
    obtain ⟨t, rfl⟩ := ry
    obtain ⟨its, r, ⟨⟨cls, dd, data, sl⟩, ho, hc, n, hd⟩, hs⟩ := I.tuple hT
    simp only at hc hd
    subst hc hd
    exact wpAny_binaryOp_repeat_ref (T := "tuple") (U := "int") (by decide) ⟨_, ho, rfl⟩ (fun s' => typeIs_int s' 1 t) noFill_tuple_mul PySem.F.fills_int_mul PySem.F.slot_int_rmul repeat_tuple PySem.F.slot_int_index.lookup
      (call_meets PySem.F.slot_int_rmul (typeIs_int s 1 t) PySem.F.entry_int_rmul (PySem.F.args_int_rmul_2 _ _) (int_rmul_tuple 1 t l its.toArray n dd sl)
        ⟨ho, rfl, ⟨_, ho, rfl⟩, call_meets PySem.F.slot_tuple_mul ⟨_, ho, rfl⟩ PySem.F.entry_tuple_mul (PySem.F.args_tuple_mul_2 _ _) (tup_times1 l its.toArray n dd sl t) ⟨ho, ⟨.ref l, H, I, rfl, q⟩⟩⟩)
  · exact op_repT pins s σ H _ _ v u Q I rx ry ⟨l, k, xs, rfl, rfl, hT, hne, h1, h2, hz, q⟩
theorem k_repT (e : X.K = K) : OpR X (binaryOp .Mult) (nRepT K) := e ▸ op_nRepT
/-! more of dicts -/
def rGet1 (R : VK) (a : Addr) : VK := fun y H2 => ∃ o, DGet H2 a y o ∧ R (o.getD .non) H2
def rGetD (x : V) (ty : TE) (σ : L2.St) (Q : VK) : Hp → Prop := fun H1 => ∃ a, x = .ref a ∧ IsD H1 a ∧ ty σ H1 (rGet1 Q a)
theorem x_dget1 {td ty : TE} {σ : L2.St} (q : td σ H fun x H1 => rGetD x ty σ Q H1) : tDGet1 td ty σ H Q := q
theorem x_rGetD {ty : TE} {σ : L2.St} {kvs : List (Key × V)} (h : H a = some (.dK kvs)) (q : ty σ H (rGet1 Q a)) : rGetD (.ref a) ty σ Q H := ⟨a, rfl, .inl ⟨kvs, .inl h⟩, q⟩
theorem x_rGet1 {kvs : List (Key × V)} {k : Str} (h : H a = some (.dK kvs)) (q : Q ((valV kvs (Sum.inr k)).getD .non) H) : rGet1 Q a (.str k) H := ⟨_, (DGet.k (k := Sum.inr k) h : DGet H a (kV (Sum.inr k)) (valV kvs (Sum.inr k))), q⟩
def rGet2 (R : VK) (a : Addr) (y z : V) : Hp → Prop := fun H3 => ∃ o, DGet H3 a y o ∧ R (o.getD z) H3
def rGetE (x : V) (ty tx : TE) (σ : L2.St) (Q : VK) : Hp → Prop := fun H1 => ∃ a, x = .ref a ∧ IsD H1 a ∧ ty σ H1 fun y H2 => tx σ H2 fun z H3 => rGet2 Q a y z H3
theorem x_dget2 {td ty tx : TE} {σ : L2.St} (q : td σ H fun x H1 => rGetE x ty tx σ Q H1) : tDGet2 td ty tx σ H Q := q
theorem x_rGetE {ty tx : TE} {σ : L2.St} {kvs : List (Key × V)} (h : H a = some (.dK kvs)) (q : ty σ H fun y H2 => tx σ H2 fun z H3 => rGet2 Q a y z H3) : rGetE (.ref a) ty tx σ Q H := ⟨a, rfl, .inl ⟨kvs, .inl h⟩, q⟩
theorem x_rGet2 {kvs : List (Key × V)} {k : Str} {z : V} (h : H a = some (.dK kvs)) (q : Q ((valV kvs (Sum.inr k)).getD z) H) : rGet2 Q a (.str k) z H := ⟨_, (DGet.k (k := Sum.inr k) h : DGet H a (kV (Sum.inr k)) (valV kvs (Sum.inr k))), q⟩
def rPop1 (R : VK) (a : Addr) : VK := fun y H2 => ∃ (kvs : List (Key × V)) (k : Key) (v : V), H2 a = some (.dK kvs) ∧ y = kV k ∧ valV kvs k = some v ∧ R v (upd H2 a (.dK (dropK kvs k)))
def rPopD (x : V) (ty : TE) (σ : L2.St) (Q : VK) : Hp → Prop := fun H1 => ∃ a, x = .ref a ∧ IsD H1 a ∧ ty σ H1 (rPop1 Q a)
theorem x_dpop1 {td ty : TE} {σ : L2.St} (q : td σ H fun x H1 => rPopD x ty σ Q H1) : tDPop1 td ty σ H Q := q
theorem x_rPopD {ty : TE} {σ : L2.St} {kvs : List (Key × V)} (h : H a = some (.dK kvs)) (q : ty σ H (rPop1 Q a)) : rPopD (.ref a) ty σ Q H := ⟨a, rfl, .inl ⟨kvs, .inl h⟩, q⟩
theorem x_rPop1 {kvs : List (Key × V)} {k : Str} {v : V} (h : H a = some (.dK kvs)) (e : valV kvs (Sum.inr k) = some v) (q : Q v (upd H a (.dK (dropK kvs (Sum.inr k))))) : rPop1 Q a (.str k) H := ⟨kvs, Sum.inr k, v, h, rfl, e, q⟩
def rPop2 (R : VK) (a : Addr) (y z : V) : Hp → Prop := fun H3 => ∃ (kvs : List (Key × V)) (k : Key), H3 a = some (.dK kvs) ∧ y = kV k ∧ (∀ v, valV kvs k = some v → R v (upd H3 a (.dK (dropK kvs k)))) ∧ (valV kvs k = none → R z H3)
def rPopE (x : V) (ty tx : TE) (σ : L2.St) (Q : VK) : Hp → Prop := fun H1 => ∃ a, x = .ref a ∧ IsD H1 a ∧ ty σ H1 fun y H2 => tx σ H2 fun z H3 => rPop2 Q a y z H3
theorem x_dpop2 {td ty tx : TE} {σ : L2.St} (q : td σ H fun x H1 => rPopE x ty tx σ Q H1) : tDPop2 td ty tx σ H Q := q
theorem x_rPopE {ty tx : TE} {σ : L2.St} {kvs : List (Key × V)} (h : H a = some (.dK kvs)) (q : ty σ H fun y H2 => tx σ H2 fun z H3 => rPop2 Q a y z H3) : rPopE (.ref a) ty tx σ Q H := ⟨a, rfl, .inl ⟨kvs, .inl h⟩, q⟩
theorem x_rPop2 {kvs : List (Key × V)} {k : Str} {z : V} (h : H a = some (.dK kvs)) (q1 : ∀ v, valV kvs (Sum.inr k) = some v → Q v (upd H a (.dK (dropK kvs (Sum.inr k))))) (q2 : valV kvs (Sum.inr k) = none → Q z H) : rPop2 Q a (.str k) z H := ⟨kvs, Sum.inr k, h, rfl, q1, q2⟩
def rDInK (y : V) (Q : VK) : VK := fun x H2 => ∃ a o, x = .ref a ∧ DGet H2 a y o ∧ Q (.bl o.isSome) H2
theorem x_din {ty td : TE} {σ : L2.St} (q : ty σ H fun y H1 => td σ H1 (rDInK y Q)) : tDIn ty td σ H Q := q
theorem x_rDInK {kvs : List (Key × V)} {k : Str} (h : H a = some (.dK kvs)) (q : Q (.bl (valV kvs (Sum.inr k)).isSome) H) : rDInK (.str k) Q (.ref a) H := ⟨a, _, rfl, (DGet.k (k := Sum.inr k) h : DGet H a (kV (Sum.inr k)) (valV kvs (Sum.inr k))), q⟩
theorem x_dnew {σ : L2.St} (k : ∀ p H2, Fr p H → Same H H2 → H2 p = some (.dK []) → Q (.ref p) H2) : tDNewK σ H Q := fun p hp => k p _ ⟨hp⟩ (same_new hp) upd_same
theorem x_notBl {b c : Bool} (q : Q (.bl (!decide (b = c))) H) : rNotB (.bl b) (.bl c) H Q := ⟨b, c, rfl, rfl, q⟩
theorem x_isBl {b c : Bool} (q : Q (.bl (decide (b = c))) H) : rIsB (.bl b) (.bl c) H Q := ⟨b, c, rfl, rfl, q⟩
theorem cut_whole {xs : List V} {lo hi : Option Int} (h : HT.sIx xs.length 0 lo = 0 ∧ HT.sIx xs.length xs.length hi = xs.length) : cutV xs lo hi = xs := by
  unfold cutV
  rw [h.1, h.2]
  simp
theorem x_slA {xs : List V} {lo hi : Option Int} (h : H a = some (.tup xs)) (k : ∀ p H', Same H H' → H' p = some (.tup (cutV xs lo hi)) → Q (.ref p) H') : rSlA K (.ref a) lo hi H Q :=
  ⟨a, xs, rfl, st_of h, fun e => k a H (Same.refl _) (by rw [cut_whole e]; exact h), fun _ p hp => k p _ (same_new hp) upd_same⟩
theorem x_catB {xs ys : List V} (h : H a = some (.tup xs)) (h' : H b = some (.tup ys)) (hz : xs.length + ys.length ≤ 100000) (k : ∀ p H', Same H H' → H' p = some (.tup (xs ++ ys)) → Q (.ref p) H') : rCatA K (.ref a) (.ref b) H Q :=
  ⟨a, b, xs, ys, rfl, rfl, st_of h, st_of h', size_ok hz, fun e => k b H (Same.refl _) (by rw [e]; exact h'), fun _ e => k a H (Same.refl _) (by rw [e, List.append_nil]; exact h), fun _ _ p hp => k p _ (same_new hp) upd_same⟩
theorem x_repB {xs : List V} {n : Int} (h : H a = some (.tup xs)) (hne : xs ≠ []) (hz : xs.length ≤ 1000) (hn : 1 ≤ n ∧ n ≤ 1000) (k : ∀ p H', Same H H' → H' p = some (.tup (List.replicate n.toNat xs).flatten) → Q (.ref p) H') : nRepT K (.ref a) (.int n) H Q := by
  refine ⟨a, n, xs, rfl, rfl, st_of h, hne, hz, ?_⟩
  by_cases e : n = 1
  · subst e
    refine .inl ⟨rfl, k a H (Same.refl _) ?_⟩
    rw [h]
    simp
  · exact .inr ⟨by omega, hn.2, fun p hp => k p _ (same_new hp) upd_same⟩
theorem repS_len {z : Str} {n : Int} (h : 2 ≤ n) (hz : 1 ≤ z.length) : (repS z n).length = n.toNat * z.length := by
  unfold repS
  rw [if_neg (by omega), if_neg]
  · show ((List.replicate n.toNat z.cps).foldl (· ++ ·) #[]).size = _
    rw [PySem.size_reps]
    show 0 + n.toNat * z.cps.size = n.toNat * z.length
    rw [Nat.zero_add]
    rfl
  · rw [Bool.or_eq_true, beq_iff_eq, beq_iff_eq]
    omega
end
/-- a def with defaults that lets nothing out -/
theorem okD {P : Program} {w : World} {K : PySem.W.Frag} {mg : Str → Option Value} {base : Heap} {x qual : Str} {pr : Arguments} {body : List Stmt} {sc : Scope} {dvs : List V} {kws : List (Str × V)} {f : Addr} {fd : FuncData} {N ps : List Str} {k : Nat} {sp : Sp}
    (F : FunD K x qual pr body sc dvs kws f fd) (S : FnScope N ps sc) (len : ∀ vs H Q E, sp vs H Q E → vs.length = ps.length)
    (hb : ∀ (cdv : Value) (A : Around) (outer : List Env) (s : Shared) (H : Hp) (vs : List V) (Q : VK) (E : XK), Room k (A.deeper (envOfC qual sc s.heap.objs.size f cdv)) → sp vs H Q E →
      ∃ t, PSs (cxOf CX0 P w K mg base N qual sc f cdv A outer s H E).nox body t ∧ t { nx := fun _ H' => Q .non H', rt := Q } (start N vs) H) : FnOk P w K mg base CX0 (k + 1) f fd ps sp :=
  F.ok S len fun cdv A outer s H vs Q E hr h => by
    obtain ⟨t, h1, q⟩ := hb cdv A outer s H vs Q E hr h
    exact ⟨t, h1.nox, q⟩
theorem funD_mk {K : PySem.W.Frag} {x qual : Str} {st : Stmt} {f dT : Addr} {oc : Value} {od an : Option Addr} {osl : Array (Option Value)} {kV doc pm cdv ct : Value} {dvs : List V} {o : Obj} {its : List Value} {n : Nat}
    (l : K.lookup f = some ⟨oc, od, .func (PySem.W.fnOf x qual (defArgs st) (defBody st) (defScope st) (.ref dT) kV doc pm an cdv ct), osl⟩) (c : PySem.W.codeIn K cdv qual = true) (k : PySem.W.keepIn K (.ref f) = true)
    (hd : dvs ≠ []) (lT : K.lookup dT = some o) (oT : o.data = .seq its.toArray n) (r : Vals dvs its) :
    FunD K x qual (defArgs st) (defBody st) (defScope st) dvs [] f (PySem.W.fnOf x qual (defArgs st) (defBody st) (defScope st) (.ref dT) kV doc pm an cdv ct) :=
  ⟨⟨oc, od, .ref dT, kV, doc, pm, an, cdv, ct, osl, rfl, l, c, .inr ⟨hd, dT, o, its, n, rfl, lT, oT, r⟩, .inl rfl⟩, k⟩
/-- dict(d) -/
def rDictD (xs : List V) (H : Hp) (Q : VK) : Prop := ∃ (a : Addr) (kvs : List (Key × V)), xs = [.ref a] ∧ Rd H a (.dK kvs) ∧ ∀ p, H p = none → Q (.ref p) (upd H p (.dK kvs))
theorem k_dictD {X : Cx} : CallR X (.type "dict") rDictD := call_dictD
theorem x_rDictD {a : Addr} {H : Hp} {Q : VK} {kvs : List (Key × V)} (h : H a = some (.dK kvs)) (k : ∀ p H2, Fr p H → Same H H2 → H2 p = some (.dK kvs) → Q (.ref p) H2) : rDictD [.ref a] H Q := ⟨a, kvs, rfl, .inl h, x_new1 k⟩
end Xk
/-! zip of a tuple and a list -/
namespace Xk
open PySem PySem.Spec PyProof.Rows L2
/-- a tuple at p and a list at q, side by side -/
def ItTL (K : PySem.W.Frag) (p q : Addr) : It where
  go := fun n H => ∃ (us vs : List V) (u v : V), SqT K H p us ∧ SqL K H q vs ∧ us[n]? = some u ∧ vs[n]? = some v
  yld := fun n H r H' => ∃ T u v, r = .ref T ∧ H T = none ∧ H' = upd H T (.tup [u, v]) ∧ (∀ us, SqT K H p us → us[n]? = some u) ∧ ∀ vs, SqL K H q vs → vs[n]? = some v
  stop := fun n H => ∃ us vs : List V, SqT K H p us ∧ SqL K H q vs ∧ n ≤ us.length ∧ n ≤ vs.length ∧ (n = us.length ∨ n = vs.length)
/-- what stands behind such an iterator -/
def AtTL (z t o i j p q : Addr) (n : Nat) (h : Heap) : Prop :=
  IsZip h z t o .none ∧ IsPair h t (.ref i) (.ref j) ∧ (∃ u v, IsPair h o u v) ∧ h.IsTupleIter i p n ∧ h.IsListIter j q n
theorem sepTL {z t o i j p q : Addr} (D : ZipApart z t o i j p q) : ZipSep2 z t o i j [i, p] [j, q] where
  TIz := D.TIz
  TOz := D.TOz
  TITO := D.TITO
  TIi1 := D.TIi1
  mem1 := List.mem_cons_self
  zf1 := by simp [D.i1z.symm, D.l1z.symm]
  Tf1 := by simp [D.TOi1, D.l1TO.symm]
  TIi2 := D.TIi2
  mem2 := List.mem_cons_self
  zf2 := by simp [D.i2z.symm, D.l2z.symm]
  Tf2 := by simp [D.TOi2, D.l2TO.symm]
  sep1_2 := by simp [D.i12, D.l2i1.symm]
  sep2_1 := by simp [D.i12.symm, D.l1i2.symm]
theorem five {c z t o i j : Addr} {P : Addr → Prop} (h : c ∈ [z, t, o, i, j]) (h1 : P z) (h2 : P t) (h3 : P o) (h4 : P i) (h5 : P j) : P c := by
  simp only [List.mem_cons, List.not_mem_nil, or_false] at h
  rcases h with rfl | rfl | rfl | rfl | rfl <;> assumption
theorem turnTL {P : Program} {w : World} {K : PySem.W.Frag} {es : List Expr} {k : Nat} {pos : Pos} {z t o i j p q : Addr} (D : ZipApart z t o i j p q) :
    Turn P w K (.Tuple es k pos) (ItTL K p q) [z, t, o, i, j] z (AtTL z t o i j p q) where
  mem := List.mem_cons_self
  obj := fun n h st c hc => by
    obtain ⟨g1, g2, ⟨u, v, g3⟩, ⟨o1, e1, _, d1⟩, ⟨o2, e2, _, d2⟩⟩ := st
    refine five (P := fun c => ∃ ob, h.get? c = some ob ∧ ∀ v, ob.data ≠ .cell v) hc ⟨_, g1, fun _ e => nomatch e⟩ ⟨_, g2, fun _ e => nomatch e⟩ ⟨_, g3, fun _ e => nomatch e⟩ ⟨o1, e1, fun x e => ?_⟩ ⟨o2, e2, fun x e => ?_⟩
    · rw [d1] at e
      cases e
    · rw [d2] at e
      cases e
  keep := fun n h h' st g => by
    obtain ⟨g1, g2, ⟨u, v, g3⟩, g4, g5⟩ := st
    exact ⟨g z (by simp) _ g1, g t (by simp) _ g2, ⟨u, v, g o (by simp) _ g3⟩, g4.at fun ob e => g i (by simp) ob e, g5.at fun ob e => g j (by simp) ob e⟩
  item := by
    intro X hP hw hK hc n pins s σ H E I hf st hg
    subst hP hw hK
    obtain ⟨g1, g2, ⟨u0, v0, g3⟩, g4, g5⟩ := st
    obtain ⟨us, vs, u, v, hus, hvs, hu, hv⟩ := hg
    obtain ⟨its, r1, p1, _⟩ := I.tuple hus
    obtain ⟨its2, r2, p2, _⟩ := I.list hvs
    obtain ⟨x, hx, rx⟩ := r1.get hu
    obtain ⟨y, hy, ry⟩ := r2.get hv
    have lt1 : n < its.toArray.size := by
      obtain ⟨b, _⟩ := List.getElem?_eq_some_iff.mp hx
      simpa using b
    have lt2 : n < its2.toArray.size := by
      obtain ⟨b, _⟩ := List.getElem?_eq_some_iff.mp hy
      simpa using b
    have hzl : z < s.heap.objs.size := Heap.lt_size g1
    have hh : X.A.in1.handled = none := I.ok.hd hc
    refine wpAny_pyNext_zipD2_item (sepTL D) (Draws.tuple hh i p D.l1i1 its.toArray) (Draws.list hh j q D.l2i2 its2.toArray) g1 g2 g3 ⟨g4, p1⟩ ⟨g5, p2.isList⟩ lt1 lt2 fun x1 y1 h' tk q1 q2 z' o' st1 st2 hT hsz hk => ?_
    have ex : x1 = x := by
      have e2 : its[n]? = some x1 := by simpa using q1
      exact Option.some.inj (e2.symm.trans hx)
    have ey : y1 = y := by
      have e2 : its2[n]? = some y1 := by simpa using q2
      exact Option.some.inj (e2.symm.trans hy)
    subst ex ey
    refine ⟨_, rfl, wpAny_letOwnedTupleGo_zip (s := { s with heap := h', toks := tk }) z' fun h2 z2 sb => ?_⟩
    have hT2 : h2.get? s.heap.objs.size = some { cls := .type "tuple", data := .seq #[x1, y1] } := (sb.2 _ (Nat.ne_of_gt hzl)).trans hT
    have new : ObjOk X.prog X.w (upd H s.heap.objs.size (.tup [u, v])) h2 s.heap.objs.size (.tup [u, v]) :=
      ⟨by show 2 ≤ sizeLine; decide, [x1, y1], .cons rx (.cons ry .nil), ⟨_, hT2, rfl, _, rfl⟩⟩
    have kept : ∀ c ob, c ∉ [z, t, o, i, j] → s.heap.get? c = some ob → h2.get? c = some ob := fun c ob nc e => by
      simp only [List.mem_cons, List.not_mem_nil, or_false, not_or] at nc
      exact (sb.2 c nc.1).trans (hk c ob nc.1 nc.2.2.1 nc.2.2.2.1 nc.2.2.2.2 e)
    have I1 : Inv X pins σ (upd H s.heap.objs.size (.tup [u, v])) { s with heap := h2, toks := tk } :=
      I.turnedNew (t' := tk) (ch := [z, t, o, i, j]) kept hf (Nat.le_refl _) new
    refine ⟨.ref s.heap.objs.size, _, I1, rfl, ⟨_, u, v, rfl, I.hok.fresh (Nat.le_refl _), rfl, fun l hl => ?_, fun l hl => ?_⟩, ⟨z2, ?_, ⟨x1, y1, ?_⟩, ?_, ?_⟩, fun c hcm => ?_⟩
    · rw [I.tuple_inj hl hus]
      exact hu
    · rw [I.list_inj hl hvs]
      exact hv
    · exact (sb.2 _ D.TIz).trans (hk t _ D.TIz D.TITO D.TIi1 D.TIi2 g2)
    · exact (sb.2 _ D.TOz).trans o'
    · exact st1.1.at fun ob e => (sb.2 _ D.i1z).trans e
    · exact st2.1.at fun ob e => (sb.2 _ D.i2z).trans e
    · have lt : c < s.heap.objs.size := by
        refine five (P := fun c => c < s.heap.objs.size) hcm hzl (Heap.lt_size g2) (Heap.lt_size g3) ?_ ?_
        · obtain ⟨_, e1, _⟩ := g4
          exact Heap.lt_size e1
        · obtain ⟨_, e1, _⟩ := g5
          exact Heap.lt_size e1
      rw [upd_ne (Nat.ne_of_lt lt)]
      exact (hf c hcm).1
  done := by
    intro X hP hw hK hc n pins s σ H E I hf st hg
    subst hP hw hK
    obtain ⟨g1, g2, ⟨u0, v0, g3⟩, g4, g5⟩ := st
    obtain ⟨us, vs, hus, hvs, le1, le2, hend⟩ := hg
    obtain ⟨its, r1, p1, _⟩ := I.tuple hus
    obtain ⟨its2, r2, p2, _⟩ := I.list hvs
    have l1 : its.toArray.size = us.length := by rw [List.size_toArray, r1.length]
    have l2 : its2.toArray.size = vs.length := by rw [List.size_toArray, r2.length]
    have hh : X.A.in1.handled = none := I.ok.hd hc
    exact wpAny_pyNext_zipD2_end (sepTL D) (Draws.tuple hh i p D.l1i1 its.toArray) (Draws.list hh j q D.l2i2 its2.toArray) g1 g2 g3 ⟨g4, p1⟩ ⟨g5, p2.isList⟩ (by omega) (by omega) (by omega) fun h' tk hk =>
      ⟨rfl, I.turnedL (t' := tk) (ch := [z, t, o, i, j]) (fun c ob nc e => by
        simp only [List.mem_cons, List.not_mem_nil, or_false, not_or] at nc
        exact hk c ob nc.1 nc.2.2.1 nc.2.2.2.1 nc.2.2.2.2 e) hf⟩
  self := fun A n s Q E st h => wpAny_pyIter_zip st.1 h
/-- zip(e, e2), e a tuple and e2 a list -/
def iTL (K : PySem.W.Frag) (ta : TA) : TI := fun σ H R => ta σ H fun vs H1 => ∃ p q us ws, vs = [.ref p, .ref q] ∧ SqT K H1 p us ∧ SqL K H1 q ws ∧ R (ItTL K p q) H1
theorem pi_TL {X : Cx} {e e2 : Expr} {ta : TA} {p1 pos tpos : Pos} {es : List Expr} {k : Nat} (hg : Gl X "zip") (hm : X.mg "zip" = none) (ha : PA X [e, e2] ta)
    (hs : starEach [e, e2] X.env = (false, eval e X.env) :: starEach [e2] X.env := by rfl) (hpl : (backTo pos (starEach [e2] X.env)).any (·.1) = false := by rfl) :
    PI X (.Tuple es k tpos) (.Call (.Name "zip" p1) [e, e2] [] pos) (iTL X.K ta) := by
  refine ⟨fun pins s σ H R I h => Call_ (ld_blt I hg hm PyProof.Rows.boot_zip (PyProof.Rows.callWith_type1 (thn (ha.run pos pins s σ H _ I h) fun us s1 ⟨vs, H1, I1, r1, q1⟩ => ?_) hs hpl))⟩
  obtain ⟨p, q, xs, ys, rfl, hx, hy, g⟩ := q1
  have e3 : us = [.ref p, .ref q] := by
    cases r1 with
    | cons a b =>
      cases b with
      | cons c d =>
        cases d
        cases a
        cases c
        rfl
  subst e3
  obtain ⟨its, rx, px, _⟩ := I1.tuple hx
  obtain ⟨its2, ry, py, _⟩ := I1.list hy
  have lp : p < s1.heap.objs.size := by
    obtain ⟨_, e1, _⟩ := id px
    exact Heap.lt_size e1
  refine zip_begins2 (begins_tuple p its.toArray) (begins_list q its2.toArray) px py.isList fun h' hz hTI hTO h1 h2 hsz hk => wpAny_pyIter_zip hz ?_
  have I2 : Inv X pins σ H1 { s1 with heap := h' } := I1.kept (t' := s1.toks) hk
  refine ⟨s1.heap.objs.size + 4, [s1.heap.objs.size + 4, s1.heap.objs.size + 2, s1.heap.objs.size + 3, s1.heap.objs.size, s1.heap.objs.size + 1], _, _, H1, rfl, I2,
    turnTL (PySem.W.ktu_apart s1.heap.objs.size p q lp py.lt), ⟨hz, hTI, ⟨_, _, hTO⟩, ⟨_, h1, rfl, rfl⟩, ⟨_, h2, rfl, rfl⟩⟩, fun c hcm => ?_, g⟩
  have le : s1.heap.objs.size ≤ c := five (P := fun c => s1.heap.objs.size ≤ c) hcm (Nat.le_add_right _ _) (Nat.le_add_right _ _) (Nat.le_add_right _ _) (Nat.le_refl _) (Nat.le_add_right _ _)
  exact I1.fpOk le (I1.hok.fresh le)
/-- a comprehension over it -/
theorem walkTL {K : PySem.W.Frag} {p q : Addr} {us vs : List V} (e : us.length = vs.length) : Walk (ItTL K p q) us.length (fun H => SqT K H p us ∧ SqL K H q vs) (YPair (fun n => us[n]?) (fun n => vs[n]?)) := by
  refine ⟨fun n _ hn g => ?_, fun _ g => ⟨us, vs, g.1, g.2, Nat.le_refl _, by omega, .inl rfl⟩, fun n H v H' _ g y => ?_⟩
  · have h2 : n < vs.length := by omega
    exact ⟨us, vs, us[n], vs[n], g.1, g.2, List.getElem?_eq_getElem hn, List.getElem?_eq_getElem h2⟩
  · obtain ⟨T, x, z, h1, h2, h3, h4, h5⟩ := y
    exact ⟨T, x, z, h1, h2, h3, h4 us g.1, h5 vs g.2⟩
end Xk
section
open PySem PySem.Spec PyProof.Rows L2
namespace Xk
variable {K : PySem.W.Frag} {σ : L2.St} {H : Hp} {Q : VK} {te : TE} {g : TG} {t : TT} {X : Cx}
theorem k_TL {e e2 : Expr} {ta : TA} {p1 pos tpos : Pos} {es : List Expr} {k : Nat} (hk : X.K = K) (hg : Gl X "zip") (hm : X.mg "zip" = none) (ha : PA X [e, e2] ta)
    (hs : starEach [e, e2] X.env = (false, eval e X.env) :: starEach [e2] X.env := by rfl) (hpl : (backTo pos (starEach [e2] X.env)).any (·.1) = false := by rfl) :
    PI X (.Tuple es k tpos) (.Call (.Name "zip" p1) [e, e2] [] pos) (iTL K ta) := hk ▸ pi_TL hg hm ha hs hpl
def rLcZ (K : PySem.W.Frag) (g : TG) (tt : TT) (te : TE) (vs : List Nat) (σ : L2.St) (Q : VK) : List V → Hp → Prop := fun zs H1 => ∃ p q us ws, zs = [.ref p, .ref q] ∧ SqT K H1 p us ∧ SqL K H1 q ws ∧ RLc (ItTL K p q) g tt te vs σ Q H1
theorem x_lcZ1 {tr : TA} {vs : List Nat} (q : tr σ H (rLcZ K g t te vs σ Q)) : tLc (iTL K tr) g t te vs σ H Q := q
theorem x_lcZ {a b : Addr} {us ws : List V} {vs : List Nat} (Pv : Addr → Nat → Hp → Prop) (e : us.length = ws.length) (hx : SqT K H a us) (hy : SqL K H b ws) (h0 : ∀ Dl, Fr Dl H → Pv Dl 0 (upd H Dl (.lst [])))
    (hl : ∀ Dl i H', Fr Dl H → Pv Dl i H' → SqT K H' a us ∧ SqL K H' b ws)
    (hs : ∀ Dl, Fr Dl H → ∀ i x y H1 T H', us[i]? = some x → ws[i]? = some y → Pv Dl i H1 → Fr T H1 → Same H1 H' → H' T = some (.tup [x, y]) → g (.ref T) (wipe σ vs) H' fun σ2 H2 => wipe σ2 vs = wipe σ vs ∧ t σ2 H2 fun c H3 =>
      if c = true then te σ2 H3 fun y H4 => ∃ acc, H4 Dl = some (.lst acc) ∧ acc.length < sizeLine ∧ Pv Dl (i + 1) (upd H4 Dl (.lst (acc ++ [y]))) else Pv Dl (i + 1) H3)
    (hd : ∀ Dl H', Fr Dl H → Pv Dl us.length H' → Q (.ref Dl) H') : rLcZ K g t te vs σ Q [.ref a, .ref b] H := ⟨a, b, us, ws, rfl, hx, hy, fun Dl hD =>
  lc_it (walkTL e) (Pv Dl) (h0 Dl ⟨hD⟩) (fun i H' _ p => hl Dl i H' ⟨hD⟩ p) (fun i x H1 H' hi p y => by
    obtain ⟨T, u, v, rfl, hT, rfl, e1, e2⟩ := y
    exact hs Dl ⟨hD⟩ i u v H1 T _ e1 e2 p ⟨hT⟩ (same_new hT) upd_same) (fun H' p => hd Dl H' ⟨hD⟩ p)⟩
/-- texts in order -/
def nLtS : R2 := fun x y H Q => ∃ i j, x = .str i ∧ y = .str j ∧ Q (.bl (decide (i.cps.toList < j.cps.toList))) H
def nLeS : R2 := fun x y H Q => ∃ i j, x = .str i ∧ y = .str j ∧ Q (.bl (!decide (j.cps.toList < i.cps.toList))) H
theorem op_nLtS : OpR X (compareOp .Lt) nLtS := op_lt_str
theorem op_nLeS : OpR X (compareOp .LtE) nLeS := op_le_str
def rPar (i j : Nat) (σ : L2.St) (R : L2.St → Hp → Prop) : List V → Hp → Prop := fun vs H1 => ∃ v w, vs = [v, w] ∧ R ((σ.set i (some v)).set j (some w)) H1
theorem x_spar {i j : Nat} {ta : TA} {tz : TS} {D : Ends} (q : ta σ H (rPar i j σ (tz D))) : tSeq (tPar i j ta) tz D σ H := q
theorem x_par {i j : Nat} {ta : TA} {D : Ends} (q : ta σ H (rPar i j σ D.nx)) : tPar i j ta D σ H := q
theorem x_rPar {i j : Nat} {R : L2.St → Hp → Prop} {v u : V} (q : R ((σ.set i (some v)).set j (some u)) H) : rPar i j σ R [v, u] H := ⟨v, u, rfl, q⟩
def nGeS : R2 := fun x y H Q => ∃ i j, x = .str i ∧ y = .str j ∧ Q (.bl (!decide (i.cps.toList < j.cps.toList))) H
theorem op_nGeS : OpR X (compareOp .GtE) nGeS := op_ge_str
theorem x_nGeS {i j : Str} (q : Q (.bl (!decide (i.cps.toList < j.cps.toList))) H) : nGeS (.str i) (.str j) H Q := ⟨i, j, rfl, rfl, q⟩
theorem x_nLtS {i j : Str} (q : Q (.bl (decide (i.cps.toList < j.cps.toList))) H) : nLtS (.str i) (.str j) H Q := ⟨i, j, rfl, rfl, q⟩
theorem x_nLeS {i j : Str} (q : Q (.bl (!decide (j.cps.toList < i.cps.toList))) H) : nLeS (.str i) (.str j) H Q := ⟨i, j, rfl, rfl, q⟩
theorem x_ext {l b : Addr} {xs zs : List V} (h : H l = some (.lst xs)) (h' : H b = some (.lst zs)) (hz : xs.length + zs.length ≤ 100000) (q : Q .non (upd H l (.lst (xs ++ zs)))) : rExtend (.ref l) [.ref b] H Q := ⟨l, b, xs, zs, rfl, rfl, h, h', size_ok hz, q⟩
theorem x_sortS {a : Addr} {xs : List Str} (h : SqL K H a (xs.map V.str)) (hl : xs.length < 64) (k : ∀ p H2 (ys : List Str), ys.Perm xs → sortedS ys = true → Fr p H → Same H H2 → H2 p = some (.lst (ys.map V.str)) → Q (.ref p) H2) : rSortedS K [.ref a] H Q :=
  ⟨a, xs, rfl, h, hl, fun ys p h1 h2 hp => k p _ ys h1 h2 ⟨hp⟩ (same_new hp) upd_same⟩
end Xk
end
namespace Xk
open PySem PySem.Spec PyProof.Rows L2
theorem k_fld {X : Cx} {K : PySem.W.Frag} {e : Expr} {f : Str} {pos : Pos} {ta : TE} (hk : X.K = K) (he : PE X e ta) (hb : attributeBase e f X.env (eval e X.env) = eval e X.env) : PE X (.Attribute e f pos) (tFld K ta f) := hk ▸ pe_fld he hb
end Xk
namespace Xk
open PySem PySem.Spec PyProof.Rows L2
def rSubSl (x v : V) (l u : Option Int) (σ : L2.St) (R : L2.St → Hp → Prop) : Hp → Prop := fun H3 => ∃ (a b : Addr) (xs ys : List V) (i j : Int), x = .ref a ∧ v = .ref b ∧ l = some i ∧ u = some j ∧
  H3 a = some (.lst xs) ∧ H3 b = some (.lst ys) ∧ a ≠ b ∧ 0 ≤ i ∧ i ≤ j ∧ j ≤ xs.length ∧ xs.length + ys.length ≤ sizeLine ∧ R σ (upd H3 a (.lst (xs.take i.toNat ++ ys ++ xs.drop j.toNat)))
theorem x_gSubSl {to : TE} {tl th : TO} {v : V} {σ : L2.St} {H : Hp} {R : L2.St → Hp → Prop} (q : to σ H fun x H1 => tl σ H1 fun l H2 => th σ H2 fun u H3 => rSubSl x v l u σ R H3) : gSubSl to tl th v σ H R := q
theorem x_rSubSl {a b : Addr} {xs ys : List V} {i j : Int} {n m : Nat} {σ : L2.St} {H : Hp} {R : L2.St → Hp → Prop} (h : H a = some (.lst xs)) (h' : H b = some (.lst ys)) (ne : a ≠ b) (hi : i = (n : Int)) (hj : j = (m : Int)) (nm : n ≤ m) (hm : m ≤ xs.length) (hz : xs.length + ys.length ≤ 100000)
    (q : R σ (upd H a (.lst (xs.take n ++ ys ++ xs.drop m)))) : rSubSl (.ref a) (.ref b) (some i) (some j) σ R H := by
  refine ⟨a, b, xs, ys, i, j, rfl, rfl, rfl, rfl, h, h', ne, by omega, by omega, by omega, size_ok hz, ?_⟩
  rw [hi, hj, Int.toNat_natCast, Int.toNat_natCast]
  exact q
end Xk
/-! enumerate of a tuple -/
namespace Xk
open PySem PySem.Spec PyProof.Rows L2
theorem wp_ite {M : Model} {A : Around} {E : Value → Shared → Prop} {s : Shared} {α : Type} {c : Prop} [Decidable c] {a b : Sem α} {Q : α → Shared → Prop} (h1 : wpAny M A a Q E s) (h2 : wpAny M A b Q E s) : wpAny M A (if c then a else b) Q E s := by
  by_cases h : c
  · exact wpAny_ite_true (decide_eq_true h) h1
  · exact wpAny_ite_false (decide_eq_false h) h2
theorem enumT0 {prog : Program} {w : World} {A : Around} {E : Value → Shared → Prop} {R : Fin → Shared → Prop} {s : Shared} {v : Value} {o : Obj} {H : Heap → Prop} (b : Begins v o H) (h1 : H s.heap)
  (h2 : R (Fin.done (Flow.ret (Value.ref (s.heap.push o).objs.size)))
        { heap := (s.heap.push o).push { cls := Value.type "enumerate", data := Data.fields #[Value.none, Value.bool false, Value.ref s.heap.objs.size, rawInt 0, Value.none, Value.none] },
          gens := s.gens, drawn := s.drawn, toks := s.toks, os := s.os }) :
  wpAny (model prog w) A (do
      let it ← pyIter v
      let r ← Builtin.SmallTypes.newRecord (Value.type "enumerate") (Builtin.SmallTypes.ownedTupleFields ++ [it, rawInt 0, Value.none, Value.none])
      ret r) R E s := by
  refine wpAny_bind (b.iter prog w A _ s _ h1 ?_)
  refine wpAny_bind ?_
  refine wpAny_bind (wpAny_alloc' ?_)
  refine wpAny_pure ?_
  exact wpAny_pure h2
theorem enumT1 {v : Value} {o : Obj} {H : Heap → Prop} (b : Begins v o H) : Meets (Builtin.«enumerate.__new__» { pos := [.type "enumerate", v] }) fun A R s => H s.heap ∧
   R (Except.ok (Flow.ret (Value.ref (s.heap.push o).objs.size)))
        { heap := (s.heap.push o).push { cls := Value.type "enumerate", data := Data.fields #[Value.none, Value.bool false, Value.ref s.heap.objs.size, rawInt 0, Value.none, Value.none] },
          gens := s.gens, drawn := s.drawn, toks := s.toks, os := s.os } := by
  intro prog w A R s hs
  obtain ⟨h1, h2⟩ := hs
  refine wpAny_bind ?_
  refine wpAny_bind ?_
  refine wpAny_of_eq (a := true) rfl ?_
  refine wpAny_ite_false rfl ?_
  refine wpAny_bind ?_
  refine wpAny_of_eq sub_enumerate ?_
  refine wpAny_ite_false rfl ?_
  refine wpAny_pure ?_
  refine wpAny_ite_true (by decide) ?_
  refine wpAny_bind ?_
  refine wpAny_bind (wpAny_stack_any fun st => wpAny_pure ?_)
  refine wp_ite ?_ ?_
  · refine wpAny_bind ?_
    refine wpAny_of_eq (a := (v, none)) rfl ?_
    exact enumT0 b h1 h2
  · refine wpAny_bind ?_
    refine wpAny_of_eq (a := (v, none)) rfl ?_
    exact enumT0 b h1 h2
theorem enum_one {prog : Program} {w : World} {A : Around} {E : Value → Shared → Prop} {s : Shared} {v : Value} {o : Obj} {H : Heap → Prop} {Q : Value → Shared → Prop} (b : Begins v o H) (h1 : H s.heap)
  (q : ∀ h' : Heap, IsEnum h' (s.heap.objs.size + 1) s.heap.objs.size 0 Value.none → h'.get? s.heap.objs.size = some o → h'.objs.size = s.heap.objs.size + 2 → (∀ (b : Addr) (o : Obj), s.heap.get? b = some o → h'.get? b = some o) →
     Q (Value.ref (s.heap.objs.size + 1)) { heap := h', gens := s.gens, drawn := s.drawn, toks := s.toks, os := s.os }) :
  wpAny (model prog w) A (call (Value.type "enumerate") [v]) Q E s := by
  refine callType_new F.called_enumerate (by decide) (F.typeCall_enumerate_1 v) (F.newCall_enumerate_1 v) (fun obj => F.args_object_init_2 obj v) F.entry_enumerate_new (enumT1 b) ⟨h1, ?_⟩
  have e1 : (s.heap.push o).objs.size = s.heap.objs.size + 1 := by rw [Heap.size_push]
  have g : ((s.heap.push o).push { cls := Value.type "enumerate", data := Data.fields #[Value.none, Value.bool false, Value.ref s.heap.objs.size, rawInt 0, Value.none, Value.none] }).get? (s.heap.push o).objs.size = some { cls := Value.type "enumerate", data := Data.fields #[Value.none, Value.bool false, Value.ref s.heap.objs.size, rawInt 0, Value.none, Value.none] } := Heap.get?_push_size _ rfl
  refine ⟨?_, ?_⟩
  · rw [e1] at g ⊢
    exact ⟨_, g, rfl⟩
  · rw [e1] at g ⊢
    refine q _ g ?_ (by rw [Heap.size_push, Heap.size_push]) fun b' o' e => Heap.get?_push_of_some _ (Heap.get?_push_of_some _ e)
    exact Heap.get?_push_of_some _ (Heap.get?_push_size _ b.free)
/-- a tuple at a, each item with its number -/
def ItET (K : PySem.W.Frag) (a : Addr) : It where
  go := fun i H => ∃ (xs : List V) (x : V), SqT K H a xs ∧ xs[i]? = some x
  yld := fun i H v H' => ∃ T x, v = .ref T ∧ H T = none ∧ H' = upd H T (.tup [.int (i : Nat), x]) ∧ ∀ xs : List V, SqT K H a xs → xs[i]? = some x
  stop := fun i H => ∃ xs : List V, SqT K H a xs ∧ i = xs.length
theorem turnET {P : Program} {w : World} {K : PySem.W.Frag} {es : List Expr} {k : Nat} {pos : Pos} {a e it : Addr} (d1 : e ≠ it) (d2 : a ≠ it) (d3 : e ≠ a) :
    Turn P w K (.Tuple es k pos) (ItET K a) [e, it] e (fun i h => (∃ old, IsEnum h e it (i : Nat) old) ∧ h.IsTupleIter it a i) where
  mem := List.mem_cons_self
  obj := fun n h st c hc => by
    obtain ⟨⟨old, g1⟩, ⟨o1, e1, _, dd1⟩⟩ := st
    simp only [List.mem_cons, List.not_mem_nil, or_false] at hc
    rcases hc with rfl | rfl
    · exact ⟨_, g1, fun _ e => nomatch e⟩
    · refine ⟨o1, e1, fun x e => ?_⟩
      rw [dd1] at e
      cases e
  keep := fun n h h' st g => by
    obtain ⟨⟨old, g1⟩, g2⟩ := st
    exact ⟨⟨old, g e (by simp) _ g1⟩, g2.at fun ob e => g it (by simp) ob e⟩
  item := by
    intro X hP hw hK hc n pins s σ H E I hf st hg
    subst hP hw hK
    obtain ⟨⟨old, g1⟩, g2⟩ := st
    obtain ⟨us, u, hus, hu⟩ := hg
    obtain ⟨its, r1, p1, _⟩ := I.tuple hus
    obtain ⟨x, hx, rx⟩ := r1.get hu
    have lt1 : n < its.toArray.size := by
      obtain ⟨b, _⟩ := List.getElem?_eq_some_iff.mp hx
      simpa using b
    have hzl : e < s.heap.objs.size := Heap.lt_size g1
    have hil : it < s.heap.objs.size := by
      obtain ⟨_, e1, _⟩ := id g2
      exact Heap.lt_size e1
    have hh : X.A.in1.handled = none := I.ok.hd hc
    refine wpAny_pyNext_enum_itemD (Draws.tuple hh it a d2 its.toArray) g1 ⟨g2, p1⟩ lt1 d1 (by simp [d1, d3]) fun x1 h' tk q1 eo st1 hT hsz hk => ?_
    have ex : x1 = x := by
      have e2 : its[n]? = some x1 := by simpa using q1
      exact Option.some.inj (e2.symm.trans hx)
    subst ex
    refine ⟨_, rfl, wpAny_letOwnedTupleGo_enum (s := { s with heap := h', toks := tk + 1 }) eo fun h2 z2 sb => ?_⟩
    have hT2 : h2.get? s.heap.objs.size = some { cls := .type "tuple", data := .seq #[Value.int (n : Nat) tk, x1] } := (sb.2 _ (Nat.ne_of_gt hzl)).trans hT
    have new : ObjOk X.prog X.w (upd H s.heap.objs.size (.tup [.int (n : Nat), u])) h2 s.heap.objs.size (.tup [.int (n : Nat), u]) :=
      ⟨by show 2 ≤ sizeLine; decide, [Value.int (n : Nat) tk, x1], .cons (by first | exact ⟨tk, rfl⟩ | exact rfl | constructor) (.cons rx .nil), ⟨_, hT2, rfl, _, rfl⟩⟩
    have kept : ∀ c ob, c ∉ [e, it] → s.heap.get? c = some ob → h2.get? c = some ob := fun c ob nc e => by
      simp only [List.mem_cons, List.not_mem_nil, or_false, not_or] at nc
      exact (sb.2 c nc.1).trans (hk c ob nc.1 nc.2 e)
    have I1 : Inv X pins σ (upd H s.heap.objs.size (.tup [.int (n : Nat), u])) { s with heap := h2, toks := tk + 1 } :=
      I.turnedNew (t' := tk + 1) (ch := [e, it]) kept hf (Nat.le_refl _) new
    refine ⟨.ref s.heap.objs.size, _, I1, rfl, ⟨_, u, rfl, I.hok.fresh (Nat.le_refl _), rfl, fun l hl => ?_⟩, ⟨⟨_, z2⟩, ?_⟩, fun c hcm => ?_⟩
    · rw [I.tuple_inj hl hus]
      exact hu
    · exact st1.1.at fun ob e => (sb.2 _ d1.symm).trans e
    · have lt : c < s.heap.objs.size := by
        simp only [List.mem_cons, List.not_mem_nil, or_false] at hcm
        rcases hcm with rfl | rfl
        · exact hzl
        · exact hil
      rw [upd_ne (Nat.ne_of_lt lt)]
      exact (hf c hcm).1
  done := by
    intro X hP hw hK hc n pins s σ H E I hf st hg
    subst hP hw hK
    obtain ⟨⟨old, g1⟩, g2⟩ := st
    obtain ⟨us, hus, rfl⟩ := hg
    obtain ⟨its, r1, p1, _⟩ := I.tuple hus
    have l1 : its.toArray.size = us.length := by rw [List.size_toArray, r1.length]
    have hh : X.A.in1.handled = none := I.ok.hd hc
    refine wpAny_pyNext_enum_endD (Draws.tuple hh it a d2 its.toArray) g1 (by rw [l1]; exact ⟨g2, p1⟩) fun h' hk => ?_
    exact ⟨rfl, I.turnedL (t' := s.toks) (ch := [e, it]) (fun c ob nc e => by
      simp only [List.mem_cons, List.not_mem_nil, or_false, not_or] at nc
      exact hk c ob nc.2 e) hf⟩
  self := fun A n s Q E st h => wpAny_pyIter_enum st.1.choose_spec h
/-- enumerate(e), e a tuple -/
def iET (K : PySem.W.Frag) (ta : TA) : TI := fun σ H R => ta σ H fun vs H1 => ∃ p us, vs = [.ref p] ∧ SqT K H1 p us ∧ R (ItET K p) H1
theorem pi_ET {X : Cx} {e : Expr} {ta : TA} {p1 pos tpos : Pos} {es : List Expr} {k : Nat} (hg : Gl X "enumerate") (hm : X.mg "enumerate" = none) (ha : PA X [e] ta)
    (hs : starEach [e] X.env = [(false, eval e X.env)] := by rfl) (hpl : (backTo pos (starEach [] X.env)).any (·.1) = false := by rfl) :
    PI X (.Tuple es k tpos) (.Call (.Name "enumerate" p1) [e] [] pos) (iET X.K ta) := by
  refine ⟨fun pins s σ H R I h => Call_ (ld_blt I hg hm PyProof.Rows.boot_enumerate (PyProof.Rows.callWith_type1 (thn (ha.run pos pins s σ H _ I h) fun us s1 ⟨vs, H1, I1, r1, q1⟩ => ?_) hs hpl))⟩
  obtain ⟨p, xs, rfl, hx, g⟩ := q1
  have e3 : us = [.ref p] := by
    cases r1 with
    | cons a b =>
      cases b
      cases a
      rfl
  subst e3
  obtain ⟨its, rx, px, _⟩ := I1.tuple hx
  have lp : p < s1.heap.objs.size := by
    obtain ⟨_, e1, _⟩ := id px
    exact Heap.lt_size e1
  refine enum_one (begins_tuple p its.toArray) px fun h' hz h1 hsz hk => wpAny_pyIter_enum hz ?_
  have I2 : Inv X pins σ H1 { s1 with heap := h' } := I1.kept (t' := s1.toks) hk
  refine ⟨s1.heap.objs.size + 1, [s1.heap.objs.size + 1, s1.heap.objs.size], _, _, H1, rfl, I2,
    turnET (Nat.succ_ne_self _) (Nat.ne_of_lt lp) (Nat.ne_of_gt (Nat.lt_succ_of_lt lp)), ⟨⟨_, hz⟩, ⟨_, h1, rfl, rfl⟩⟩, fun c hcm => ?_, g⟩
  have le : s1.heap.objs.size ≤ c := by
    simp only [List.mem_cons, List.not_mem_nil, or_false] at hcm
    rcases hcm with rfl | rfl
    · exact Nat.le_add_right _ _
    · exact Nat.le_refl _
  exact I1.fpOk le (I1.hok.fresh le)
/-- a comprehension over it -/
theorem walkET {K : PySem.W.Frag} {p : Addr} {us : List V} : Walk (ItET K p) us.length (fun H => SqT K H p us) (YPair (fun n => some (.int (n : Nat))) (fun n => us[n]?)) := by
  refine ⟨fun n _ hn g => ?_, fun _ g => ⟨us, g, rfl⟩, fun n H v H' _ g y => ?_⟩
  · exact ⟨us, us[n], g, List.getElem?_eq_getElem hn⟩
  · obtain ⟨T, x, h1, h2, h3, h4⟩ := y
    exact ⟨T, _, x, h1, h2, h3, rfl, h4 us g⟩
end Xk
section
open PySem PySem.Spec PyProof.Rows L2
namespace Xk
variable {K : PySem.W.Frag} {σ : L2.St} {H : Hp} {Q : VK} {te : TE} {g : TG} {t : TT} {X : Cx}
theorem k_ET {e : Expr} {ta : TA} {p1 pos tpos : Pos} {es : List Expr} {k : Nat} (hk : X.K = K) (hg : Gl X "enumerate") (hm : X.mg "enumerate" = none) (ha : PA X [e] ta)
    (hs : starEach [e] X.env = [(false, eval e X.env)] := by rfl) (hpl : (backTo pos (starEach [] X.env)).any (·.1) = false := by rfl) :
    PI X (.Tuple es k tpos) (.Call (.Name "enumerate" p1) [e] [] pos) (iET K ta) := hk ▸ pi_ET hg hm ha hs hpl
def rLcET (K : PySem.W.Frag) (g : TG) (tt : TT) (te : TE) (vs : List Nat) (σ : L2.St) (Q : VK) : List V → Hp → Prop := fun zs H1 => ∃ p us, zs = [.ref p] ∧ SqT K H1 p us ∧ RLc (ItET K p) g tt te vs σ Q H1
theorem x_lcET1 {tr : TA} {vs : List Nat} (q : tr σ H (rLcET K g t te vs σ Q)) : tLc (iET K tr) g t te vs σ H Q := q
theorem x_lcET {a : Addr} {us : List V} {vs : List Nat} (Pv : Addr → Nat → Hp → Prop) (hx : SqT K H a us) (h0 : ∀ Dl, Fr Dl H → Pv Dl 0 (upd H Dl (.lst [])))
    (hl : ∀ Dl i H', Fr Dl H → Pv Dl i H' → SqT K H' a us)
    (hs : ∀ Dl, Fr Dl H → ∀ i x H1 T H', us[i]? = some x → Pv Dl i H1 → Fr T H1 → Same H1 H' → H' T = some (.tup [.int (i : Nat), x]) → g (.ref T) (wipe σ vs) H' fun σ2 H2 => wipe σ2 vs = wipe σ vs ∧ t σ2 H2 fun c H3 =>
      if c = true then te σ2 H3 fun y H4 => ∃ acc, H4 Dl = some (.lst acc) ∧ acc.length < sizeLine ∧ Pv Dl (i + 1) (upd H4 Dl (.lst (acc ++ [y]))) else Pv Dl (i + 1) H3)
    (hd : ∀ Dl H', Fr Dl H → Pv Dl us.length H' → Q (.ref Dl) H') : rLcET K g t te vs σ Q [.ref a] H := ⟨a, us, rfl, hx, fun Dl hD =>
  lc_it walkET (Pv Dl) (h0 Dl ⟨hD⟩) (fun i H' _ p => hl Dl i H' ⟨hD⟩ p) (fun i x H1 H' hi p y => by
    obtain ⟨T, u, v, rfl, hT, rfl, e1, e2⟩ := y
    cases Option.some.inj e1
    exact hs Dl ⟨hD⟩ i v H1 T _ e2 p ⟨hT⟩ (same_new hT) upd_same) (fun H' p => hd Dl H' ⟨hD⟩ p)⟩
end Xk
end
/-! dict comprehensions over a tuple -/
section
open PySem PySem.Spec PyProof.Rows L2
namespace Xk
variable {K : PySem.W.Frag} {σ : L2.St} {H : Hp} {Q : VK} {tk tv : TE} {g : TG} {t : TT}
def RDc (J : It) (g : TG) (tt : TT) (tk tv : TE) (vs : List Nat) (σ : L2.St) (Q : VK) : Hp → Prop := fun H1 => ∀ D, H1 D = none → ∃ W : Nat → Nat → Hp → Prop, (∃ m, W 0 m (upd H1 D (.dK []))) ∧ ∀ i m H, W i m H →
  (J.stop i H ∧ Q (.ref D) H) ∨ (J.go i H ∧ ∃ Nx : Hp → Prop, (∀ H', Nx H' → ∃ m', m' < m ∧ W (i + 1) m' H') ∧ ∀ x H', J.yld i H x H' → g x (wipe σ vs) H' fun σ2 H2 => wipe σ2 vs = wipe σ vs ∧ tt σ2 H2 fun b H3 =>
    if b = true then tk σ2 H3 fun y H4 => tv σ2 H4 fun z H5 => ∃ kvs k, y = kV k ∧ H5 D = some (.dK kvs) ∧ kvs.length < sizeLine ∧ Nx (upd H5 D (.dK (putK kvs k z))) else Nx H3)
def rDcT (K : PySem.W.Frag) (g : TG) (tt : TT) (tk tv : TE) (vs : List Nat) (σ : L2.St) (Q : VK) : VK := fun x H1 => ∃ a, x = .ref a ∧ (∃ xs, SqT K H1 a xs) ∧ RDc (Itt K a) g tt tk tv vs σ Q H1
theorem x_dcT1 {tx : TE} {vs : List Nat} (q : tx σ H (rDcT K g t tk tv vs σ Q)) : tDc (iTup K tx) g t tk tv vs σ H Q := q
theorem x_dcT {a : Addr} {xs : List V} {vs : List Nat} (Pv : Addr → Nat → Hp → Prop) (hx : SqT K H a xs) (h0 : ∀ Dl, Fr Dl H → Pv Dl 0 (upd H Dl (.dK []))) (hl : ∀ Dl i H', Fr Dl H → Pv Dl i H' → SqT K H' a xs)
    (hs : ∀ Dl, Fr Dl H → ∀ i x H', xs[i]? = some x → Pv Dl i H' → g x (wipe σ vs) H' fun σ2 H2 => wipe σ2 vs = wipe σ vs ∧ t σ2 H2 fun b H3 =>
      if b = true then tk σ2 H3 fun y H4 => tv σ2 H4 fun z H5 => ∃ kvs k, y = kV k ∧ H5 Dl = some (.dK kvs) ∧ kvs.length < sizeLine ∧ Pv Dl (i + 1) (upd H5 Dl (.dK (putK kvs k z))) else Pv Dl (i + 1) H3)
    (hd : ∀ Dl H', Fr Dl H → Pv Dl xs.length H' → Q (.ref Dl) H') : rDcT K g t tk tv vs σ Q (.ref a) H := ⟨a, rfl, ⟨xs, hx⟩, fun Dl hD =>
  dc_tup (xs := xs) (Pv Dl) (h0 Dl ⟨hD⟩) (fun i H' _ p => hl Dl i H' ⟨hD⟩ p) (fun i x H' hi p => hs Dl ⟨hD⟩ i x H' hi p) (fun H' p => hd Dl H' ⟨hD⟩ p)⟩
end Xk
end

local macro_rules | `(tactic| wtm_at "key") => `(tactic| (first | assumption | exact rfl | fail "key"))
local macro_rules | `(tactic| wtm_at "few") => `(tactic| (first | assumption | exact Nat.le_of_ble_eq_true rfl | fail "few"))
local macro_rules | `(tactic| wtm_at "cls") => `(tactic| (first | assumption | fail "cls"))
local macro_rules | `(tactic| wtm_at "neq") => `(tactic| (first | assumption | exact Ne.symm (by assumption) | exact Xk.ne_new (by assumption) (by wtm_at "hx") | exact (Xk.ne_new (by assumption) (by wtm_at "hx")).symm | fail "neq"))
local macro_rules | `(tactic| wtm_at "hx") => `(tactic| (first | assumption | exact L2.upd_same | ((refine' (L2.upd_ne ?un).trans ?uh); (case un => wtm_at "neq"); (case uh => wtm_at "hx")) | ((refine' Xk.same_at ?ue ?uh); (case ue => assumption); (case uh => wtm_at "hx")) | ((refine' Xk.but_at ?ue ?un ?uh); (case ue => assumption); (case un => wtm_at "neq"); (case uh => wtm_at "hx")) | fail "hx"))
local macro_rules | `(tactic| wtm_at "free") => `(tactic| (first | assumption | ((refine' Xk.free_back ?uh ?ue); (case uh => assumption); (case ue => wtm_at "sm")) | ((refine' Xk.free_back ?uh ?ue); (case uh => (refine' Xk.fr_upd ?uf; case uf => assumption)); (case ue => wtm_at "sm")) | fail "free"))
local macro_rules | `(tactic| wtm_at "sm") => `(tactic| (first | assumption | exact L2.Same.refl _ | ((refine' Xk.same_mut ?ue ?uh); (case ue => wtm_at "sm"); (case uh => wtm_at "free")) | ((refine' L2.Same.trans ?ue ?uh); (case uh => assumption); (case ue => wtm_at "sm")) | ((refine' Xk.same_but ?ue ?uh ?us); (case ue => assumption); (case uh => wtm_at "free"); (case us => wtm_at "sm")) | fail "sm"))
local macro_rules | `(tactic| wtm_at "bm") => `(tactic| (first | assumption | exact Xk.But.refl _ _ | ((refine' Xk.but_mut ?ue); (case ue => wtm_at "bm")) | ((refine' Xk.but_new ?ue ?uh); (case ue => wtm_at "bm"); (case uh => wtm_at "free")) | ((refine' Xk.but_trans ?ue ?uh); (case uh => assumption); (case ue => wtm_at "bm")) | ((refine' Xk.but_trans ?ue (Xk.but_same ?uh)); (case uh => assumption); (case ue => wtm_at "bm")) | fail "bm"))
local macro_rules | `(tactic| wtm_at "sq") => `(tactic| (first | assumption | exact Xk.sq_of (by wtm_at "hx") | ((refine' Xk.sq_same ?uh ?ue); (case uh => assumption); (case ue => wtm_at "sm")) | fail "sq"))
local macro_rules | `(tactic| wtm_at "st") => `(tactic| (first | assumption | exact Xk.st_of (by wtm_at "hx") | ((refine' Xk.st_same ?uh ?ue); (case uh => assumption); (case ue => wtm_at "sm")) | fail "st"))
local macro_rules | `(tactic| wtm_at "side") => `(tactic| (first | assumption | decide | omega | (refine Or.inr ?_; omega) | (refine Or.inl ?_; omega) | (refine ⟨?_, ?_⟩ <;> omega) | (refine ⟨?_, ?_, ?_⟩ <;> first | omega | decide) | fail "side"))
local macro_rules | `(tactic| wtm_at "len") => `(tactic| (first | omega | (simp only [List.length_map, List.length_append, List.length_cons, List.length_nil, List.length_set, List.length_replicate] at *; omega) | fail "len"))
local macro_rules | `(tactic| wtm_at "x") => `(tactic| (first
  | ((with_reducible refine' Xk.x_var ?a1 ?_); (case a1 => exact rfl))
  | (with_reducible refine Xk.x_c ?_)
  | (with_reducible refine Xk.x_op ?_)
  | (with_reducible refine Xk.x_I0 ?_)
  | ((with_reducible refine' Xk.x_I ?a1 ?_); (case a1 => wtm_at "side"))
  | (with_reducible refine Xk.x_cons ?_)
  | (with_reducible refine Xk.x_nil ?_)
  | (with_reducible refine Xk.x_cb ?_)
  | (with_reducible refine Xk.x_call ?_)
  | (with_reducible refine Xk.x_sasg ?_)
  | (with_reducible refine Xk.x_asg ?_)
  | (with_reducible refine Xk.x_ret ?_)
  | (with_reducible refine Xk.x_test ?_)
  | (with_reducible refine Xk.x_bl ?_)
  | (with_reducible refine Xk.x_isI ?_)
  | (with_reducible refine Xk.x_sif ?_)
  | (with_reducible refine Xk.x_ifS ?_)
  | (with_reducible refine Xk.x_and ?_)
  | (with_reducible refine Xk.x_or ?_)
  | (with_reducible refine Xk.x_not ?_)
  | (with_reducible refine Xk.x_B ?_)
  | (with_reducible refine Xk.x_nInt ?_)
  | (with_reducible refine Xk.x_nIntB ?_)
  | ((with_reducible refine' Xk.x_lenL ?a1 ?_); (case a1 => wtm_at "sq"))
  | ((with_reducible refine' Xk.x_lenT ?a1 ?_); (case a1 => wtm_at "st"))
  | (with_reducible refine Xk.x_un ?_)
  | (with_reducible refine Xk.x_U ?_)
  | ((with_reducible refine' Xk.x_eq ?a1 ?_); (case a1 => exact rfl))
  | ((with_reducible refine' Xk.x_ne ?a1 ?_); (case a1 => exact rfl))
  | ((with_reducible refine' Xk.x_ixL ?a1 ?a2 ?_); (case a1 => wtm_at "sq"); (case a2 => first | exact rfl | assumption | exact Xk.at_nat rfl (Xk.map_at (by assumption)) | exact Xk.at_nat rfl (by assumption)))
  | ((with_reducible refine' Xk.x_ixT ?a1 ?a2 ?_); (case a1 => wtm_at "st"); (case a2 => first | exact rfl | assumption | exact Xk.at_nat rfl (Xk.map_at (by assumption)) | exact Xk.at_nat rfl (by assumption)))
  | (with_reducible refine Xk.x_lst ?_)
  | (with_reducible refine Xk.x_tup ?_)
  | ((with_reducible refine' Xk.x_new ?a1 ?_); (case a1 => wtm_at "len"))
  | ((with_reducible refine' Xk.x_listL ?a1 ?_); (case a1 => wtm_at "sq"))
  | ((with_reducible refine' Xk.x_listT ?a1 ?_); (case a1 => wtm_at "st"))
  | ((with_reducible refine' Xk.x_tupleL ?a1 ?_); (case a1 => wtm_at "sq"))
  | ((with_reducible refine' Xk.x_tupleT ?a1 ?_); (case a1 => wtm_at "st"))
  | (with_reducible refine Xk.x_seq ?_)
  | (with_reducible refine Xk.x_next ?_)
  | (with_reducible refine Xk.x_sdrop ?_)
  | (with_reducible refine Xk.x_drop ?_)
  | (with_reducible refine Xk.x_bm ?_)
  | (with_reducible refine Xk.x_bm0 ?_)
  | ((with_reducible refine' Xk.x_tyL ?a1 ?_); (case a1 => wtm_at "sq"))
  | ((with_reducible refine' Xk.x_app ?a1 ?a2 ?_); (case a1 => wtm_at "hx"); (case a2 => wtm_at "len"))
  | (with_reducible refine Xk.x_sasgG ?_)
  | (with_reducible refine Xk.x_asgG ?_)
  | (with_reducible refine Xk.x_gName ?_)
  | ((with_reducible refine' Xk.x_gTup ?a1 ?a2 ?_); (case a1 => wtm_at "st"); (case a2 => exact rfl))
  | ((with_reducible refine' Xk.x_gLst ?a1 ?a2 ?_); (case a1 => wtm_at "sq"); (case a2 => exact rfl))
  | (with_reducible refine Xk.x_gCons ?_)
  | (with_reducible refine Xk.x_gNil ?_)
  | (with_reducible refine Xk.x_gSub ?_)
  | (with_reducible refine Xk.x_if ?_)
  | (with_reducible refine Xk.x_andV ?_)
  | (with_reducible refine Xk.x_orV ?_)
  | (with_reducible refine Xk.x_notV ?_)
  | (with_reducible refine Xk.x_chain ?_)
  | (with_reducible refine Xk.x_yes ?_)
  | (with_reducible refine Xk.x_sl ?_)
  | (with_reducible refine Xk.x_nopart ?_)
  | (with_reducible refine Xk.x_part ?_)
  | ((with_reducible refine' Xk.x_slL ?a1 ?_); (case a1 => wtm_at "sq"))
  | ((with_reducible refine' Xk.x_saug ?a1 ?_); (case a1 => exact rfl))
  | ((with_reducible refine' Xk.x_aug ?a1 ?_); (case a1 => exact rfl))
  | (with_reducible refine Xk.x_ipI ?_)
  | ((with_reducible refine' Xk.x_isiInt ?a1 ?_); (case a1 => first | exact Xk.kit_T (by decide +kernel) | exact Xk.kit_F (by decide +kernel)))
  | ((with_reducible refine' Xk.x_isiBl ?a1 ?_); (case a1 => first | exact Xk.kit_T (by decide +kernel) | exact Xk.kit_F (by decide +kernel)))
  | ((with_reducible refine' Xk.x_isiStr ?a1 ?_); (case a1 => first | exact Xk.kit_T (by decide +kernel) | exact Xk.kit_F (by decide +kernel)))
  | ((with_reducible refine' Xk.x_isiNon ?a1 ?_); (case a1 => first | exact Xk.kit_T (by decide +kernel) | exact Xk.kit_F (by decide +kernel)))
  | ((with_reducible refine' Xk.x_isiLst ?a1 ?a2 ?_); (case a1 => wtm_at "hx"); (case a2 => first | exact Xk.kit_T (by decide +kernel) | exact Xk.kit_F (by decide +kernel)))
  | ((with_reducible refine' Xk.x_isiTup ?a1 ?a2 ?_); (case a1 => wtm_at "hx"); (case a2 => first | exact Xk.kit_T (by decide +kernel) | exact Xk.kit_F (by decide +kernel)))
  | (with_reducible refine Xk.x_forR1 ?_)
  | (with_reducible refine Xk.x_forL1 ?_)
  | (with_reducible refine Xk.x_forT1 ?_)
  | (with_reducible refine Xk.x_brk ?_)
  | (with_reducible refine Xk.x_ct ?_)
  | (with_reducible refine Xk.x_retN ?_)
  | (with_reducible refine Xk.x_lcL1 ?_)
  | (with_reducible refine Xk.x_lcT1 ?_)
  | (with_reducible refine Xk.x_lcR1 ?_)
  | (with_reducible refine Xk.x_lcE1 ?_)
  | (with_reducible refine Xk.x_nocutW ?_)
  | (with_reducible refine Xk.x_nIsN ?_)
  | (with_reducible refine Xk.x_nNotN ?_)
  | (with_reducible refine Xk.x_and255 ?_)
  | (with_reducible refine Xk.x_wT ?_)
  | (with_reducible refine Xk.x_wF ?_)
  | (with_reducible refine Xk.x_lstRg ?_)
  | (with_reducible refine Xk.x_rg1 ?_)
  | ((with_reducible refine' Xk.x_nRg ?a1 ?_); (case a1 => omega))
  | (with_reducible refine L2.iteT ?_)
  | (with_reducible refine L2.iteF ?_)
  | (with_reducible refine Xk.x_nT ?_)
  | (with_reducible refine Xk.x_nF ?_)
  | ((with_reducible refine' Xk.x_dY ?a1 ?_); (case a1 => first | exact rfl | assumption | omega))
  | ((with_reducible refine' Xk.x_dN ?a1 ?_); (case a1 => first | assumption | omega | (intro z; cases z; done)))
  | ((with_reducible refine' Xk.x_ndY ?a1 ?_); (case a1 => first | exact rfl | assumption | omega))
  | ((with_reducible refine' Xk.x_ndN ?a1 ?_); (case a1 => first | assumption | omega | (intro z; cases z; done)))
  | (with_reducible refine Xk.x_lc2 ?_)
  | (with_reducible refine Xk.x_fld1 ?_)
  | ((with_reducible refine' Xk.x_rFld ?a1 ?a2 ?a3 ?a4 ?_); (case a1 => wtm_at "hx"); (case a2 => wtm_at "cls"); (case a3 => wtm_at "cls"); (case a4 => exact rfl))
  | (with_reducible refine Xk.x_ssfld ?_)
  | (with_reducible refine Xk.x_sfld ?_)
  | ((with_reducible refine' Xk.x_rSetF ?a1 ?a2 ?a3 ?a4 ?_); (case a1 => wtm_at "hx"); (case a2 => wtm_at "cls"); (case a3 => wtm_at "cls"); (case a4 => exact Nat.le_of_ble_eq_true rfl))
  | (with_reducible refine Xk.x_prop ?_)
  | ((with_reducible refine' Xk.x_rProp ?a1 ?_); (case a1 => wtm_at "hx"))
  | (with_reducible refine Xk.x_meth ?_)
  | ((with_reducible refine' Xk.x_rMeth ?a1 ?a2 ?_); (case a1 => wtm_at "hx"); (case a2 => exact rfl))
  | (with_reducible refine Xk.x_make ?_)
  | (with_reducible refine Xk.x_sdelT ?_)
  | (with_reducible refine Xk.x_delT ?_)
  | (with_reducible refine Xk.x_nMax2 ?_)
  | (with_reducible refine Xk.x_nMin2 ?_)
  | ((with_reducible refine' Xk.x_nRepS ?a1 ?a2 ?_); (case a1 => wtm_at "side"); (case a2 => decide))
  | (with_reducible refine Xk.x_inS ?_)
  | (with_reducible refine Xk.x_notInS ?_)
  | ((with_reducible refine' Xk.x_nAddS ?a1 ?_); (case a1 => wtm_at "len"))
  | ((with_reducible refine' Xk.x_nLenS ?a1 ?_); (case a1 => wtm_at "len"))
  | ((with_reducible refine' Xk.x_slS ?a1 ?_); (case a1 => wtm_at "len"))
  | (with_reducible refine Xk.x_lcS1 ?_)
  | (with_reducible refine Xk.x_forS1 ?_)
  | (with_reducible refine Xk.x_ord ?_)
  | (with_reducible refine Xk.x_dget1 ?_)
  | ((with_reducible refine' Xk.x_rGetD ?a1 ?_); (case a1 => wtm_at "hx"))
  | ((with_reducible refine' Xk.x_rGet1 ?a1 ?_); (case a1 => wtm_at "hx"))
  | (with_reducible refine Xk.x_dget2 ?_)
  | ((with_reducible refine' Xk.x_rGetE ?a1 ?_); (case a1 => wtm_at "hx"))
  | ((with_reducible refine' Xk.x_rGet2 ?a1 ?_); (case a1 => wtm_at "hx"))
  | (with_reducible refine Xk.x_dpop1 ?_)
  | ((with_reducible refine' Xk.x_rPopD ?a1 ?_); (case a1 => wtm_at "hx"))
  | (with_reducible refine Xk.x_dpop2 ?_)
  | ((with_reducible refine' Xk.x_rPopE ?a1 ?_); (case a1 => wtm_at "hx"))
  | (with_reducible refine Xk.x_din ?_)
  | ((with_reducible refine' Xk.x_rDInK ?a1 ?_); (case a1 => wtm_at "hx"))
  | (with_reducible refine Xk.x_dnew ?_)
  | (with_reducible refine Xk.x_notBl ?_)
  | (with_reducible refine Xk.x_isBl ?_)
  | (with_reducible refine Xk.x_dget ?_)
  | ((with_reducible refine' Xk.x_rDG ?a1 ?a2 ?_); (case a1 => wtm_at "hx"); (case a2 => wtm_at "key"))
  | (with_reducible refine Xk.x_sdput ?_)
  | (with_reducible refine Xk.x_dput ?_)
  | ((with_reducible refine' Xk.x_rDP ?a1 ?a2 ?a3 ?_); (case a1 => wtm_at "hx"); (case a2 => wtm_at "few"); (case a3 => wtm_at "key"))
  | (with_reducible refine Xk.x_pcons ?_)
  | (with_reducible refine Xk.x_pnil ?_)
  | (with_reducible refine Xk.x_forRev1 ?_)
  | (with_reducible refine Xk.x_forR2 ?_)
  | ((with_reducible refine' Xk.x_geP ?a1 ?a2 ?_); (case a1 => wtm_at "st"); (case a2 => wtm_at "st"))
  | ((with_reducible refine' Xk.x_ltP ?a1 ?a2 ?_); (case a1 => wtm_at "st"); (case a2 => wtm_at "st"))
  | (with_reducible refine Xk.x_lcZ1 ?_)
  | (with_reducible refine Xk.x_lcET1 ?_)
  | (with_reducible refine Xk.x_dcT1 ?_)
  | (with_reducible refine Xk.x_nLtS ?_)
  | (with_reducible refine Xk.x_nLeS ?_)
  | (with_reducible refine Xk.x_nGeS ?_)
  | (with_reducible refine Xk.x_spar ?_)
  | (with_reducible refine Xk.x_par ?_)
  | (with_reducible refine Xk.x_rPar ?_)
  | (with_reducible refine Xk.x_gSubSl ?_)
  | fail "x"))
local macro_rules | `(tactic| wtm_at "xs") => `(tactic| ((repeat wtm_at "x"); try dsimp only [L2.wipe, List.set, List.append_nil, List.cons_append, List.nil_append]))
local macro_rules | `(tactic| wtm_at "x0") => `(tactic| (dsimp only [L2.cxOf, L2.start, List.map, List.length, List.replicate, Nat.reduceAdd, Nat.reduceSub, List.cons_append, List.nil_append]))
local macro_rules | `(tactic| wtm_at "xc") => `(tactic| (dsimp only [L2.wipe, List.set, List.append_nil, List.cons_append, List.nil_append]))

namespace K70
open PySem PySem.Spec PyProof.Rows L2
def topS (i : Nat) : Stmt := PySem.Challenge.pw_crosskeep_k70_beliefs_learn_hints.main.body.getD i (.Pass ⟨0, 0, 0, 0⟩)
abbrev s_key_in : Stmt := topS 1
abbrev N_key_in : List Str := ["key", "start", "end"]
theorem sc_key_in : FnScope ["key", "start", "end"] ["key", "start", "end"] (defScope s_key_in) := ⟨rfl, rfl, rfl, by decide +kernel, rfl, by decide +kernel, by decide +kernel⟩
abbrev s_is_within : Stmt := topS 2
abbrev N_is_within : List Str := ["start", "end", "low", "high"]
theorem sc_is_within : FnScope ["start", "end", "low", "high"] ["start", "end", "low", "high"] (defScope s_is_within) := ⟨rfl, rfl, rfl, by decide +kernel, rfl, by decide +kernel, by decide +kernel⟩
abbrev s_with_ends : Stmt := topS 3
abbrev N_with_ends : List Str := ["ranges", "ends", "start", "cell", "end"]
theorem sc_with_ends : FnScope ["ranges", "ends", "start", "cell", "end"] ["ranges"] (defScope s_with_ends) := ⟨rfl, rfl, rfl, by decide +kernel, rfl, by decide +kernel, by decide +kernel⟩
abbrev s_first_beliefs : Stmt := topS 5
abbrev N_first_beliefs : List Str := ["ranges", "start", "end", "cell"]
theorem sc_first_beliefs : FnScope ["ranges", "start", "end", "cell"] ["ranges"] (defScope s_first_beliefs) := ⟨rfl, rfl, rfl, by decide +kernel, rfl, by decide +kernel, by decide +kernel⟩
abbrev s_cell_of : Stmt := topS 6
abbrev N_cell_of : List Str := ["beliefs", "key", "start", "end", "cell", "epoch"]
theorem sc_cell_of : FnScope ["beliefs", "key", "start", "end", "cell", "epoch"] ["beliefs", "key"] (defScope s_cell_of) := ⟨rfl, rfl, rfl, by decide +kernel, rfl, by decide +kernel, by decide +kernel⟩
abbrev s_learned : Stmt := topS 7
abbrev N_learned : List Str := ["beliefs", "hint", "low", "high", "row"]
theorem sc_learned : FnScope ["beliefs", "hint", "low", "high", "row"] ["beliefs", "hint"] (defScope s_learned) := ⟨rfl, rfl, rfl, by decide +kernel, rfl, by decide +kernel, by decide +kernel⟩
abbrev s_places_of : Stmt := topS 8
abbrev N_places_of : List Str := ["beliefs", "names", "key"]
theorem sc_places_of : FnScope ["beliefs", "names", "key"] ["beliefs", "names"] (defScope s_places_of) := ⟨rfl, rfl, rfl, by decide +kernel, rfl, by decide +kernel, by decide +kernel⟩
abbrev s__cut : Stmt := topS 9
abbrev N__cut : List Str := ["beliefs", "bound", "rows", "start", "end", "cell", "epoch"]
theorem sc__cut : FnScope ["beliefs", "bound", "rows", "start", "end", "cell", "epoch"] ["beliefs", "bound"] (defScope s__cut) := ⟨rfl, rfl, rfl, by decide +kernel, rfl, by decide +kernel, by decide +kernel⟩
abbrev s__row_behind : Stmt := topS 10
abbrev N__row_behind : List Str := ["row", "hint", "start", "end", "_", "epoch", "low", "high", "told_cell", "told_epoch"]
theorem sc__row_behind : FnScope ["row", "hint", "start", "end", "_", "epoch", "low", "high", "told_cell", "told_epoch"] ["row", "hint"] (defScope s__row_behind) := ⟨rfl, rfl, rfl, by decide +kernel, rfl, by decide +kernel, by decide +kernel⟩
abbrev s__law_number : Stmt := topS 12
abbrev N__law_number : List Str := ["script", "k", "cell", "first", "second"]
theorem sc__law_number : FnScope ["script", "k", "cell", "first", "second"] ["script", "k"] (defScope s__law_number) := ⟨rfl, rfl, rfl, by decide +kernel, rfl, by decide +kernel, by decide +kernel⟩
abbrev s__law_take : Stmt := topS 13
abbrev N__law_take : List Str := ["box", "size", "digit"]
theorem sc__law_take : FnScope ["box", "size", "digit"] ["box", "size"] (defScope s__law_take) := ⟨rfl, rfl, rfl, by decide +kernel, rfl, by decide +kernel, by decide +kernel⟩
abbrev s__law_key : Stmt := topS 14
abbrev N__law_key : List Str := ["box", "sign", "signs", "size", "spot", "text", "k"]
theorem sc__law_key : FnScope ["box", "sign", "signs", "size", "spot", "text", "k"] ["box", "sign"] (defScope s__law_key) := ⟨rfl, rfl, rfl, by decide +kernel, rfl, by decide +kernel, by decide +kernel⟩
abbrev s__law_ranges : Stmt := topS 16
abbrev N__law_ranges : List Str := ["box", "starts", "k", "key", "start"]
theorem sc__law_ranges : FnScope ["box", "starts", "k", "key", "start"] ["box"] (defScope s__law_ranges) := ⟨rfl, rfl, rfl, by decide +kernel, rfl, by decide +kernel, by decide +kernel⟩
abbrev s__law_first : Stmt := topS 17
abbrev N__law_first : List Str := ["ranges", "rows", "k", "end"]
theorem sc__law_first : FnScope ["ranges", "rows", "k", "end"] ["ranges"] (defScope s__law_first) := ⟨rfl, rfl, rfl, by decide +kernel, rfl, by decide +kernel, by decide +kernel⟩
abbrev s__law_cut : Stmt := topS 18
abbrev N__law_cut : List Str := ["rows", "key", "found", "row"]
theorem sc__law_cut : FnScope ["rows", "key", "found", "row"] ["rows", "key"] (defScope s__law_cut) := ⟨rfl, rfl, rfl, by decide +kernel, rfl, by decide +kernel, by decide +kernel⟩
abbrev s__law_learned : Stmt := topS 19
abbrev N__law_learned : List Str := ["rows", "hint", "found", "row", "within"]
theorem sc__law_learned : FnScope ["rows", "hint", "found", "row", "within"] ["rows", "hint"] (defScope s__law_learned) := ⟨rfl, rfl, rfl, by decide +kernel, rfl, by decide +kernel, by decide +kernel⟩
abbrev s__law_hint : Stmt := topS 20
abbrev N__law_hint : List Str := ["box", "rows", "start", "end"]
theorem sc__law_hint : FnScope ["box", "rows", "start", "end"] ["box", "rows"] (defScope s__law_hint) := ⟨rfl, rfl, rfl, by decide +kernel, rfl, by decide +kernel, by decide +kernel⟩
abbrev s__law_cell : Stmt := topS 21
abbrev N__law_cell : List Str := ["rows", "key", "row"]
theorem sc__law_cell : FnScope ["rows", "key", "row"] ["rows", "key"] (defScope s__law_cell) := ⟨rfl, rfl, rfl, by decide +kernel, rfl, by decide +kernel, by decide +kernel⟩
abbrev s_law : Stmt := topS 22
abbrev N_law : List Str := ["script", "box", "ranges", "beliefs", "rows", "k", "hint", "given", "after", "keys", "key", "places"]
theorem sc_law : FnScope ["script", "box", "ranges", "beliefs", "rows", "k", "hint", "given", "after", "keys", "key", "places"] ["script"] (defScope s_law) := ⟨rfl, rfl, rfl, by decide +kernel, rfl, by decide +kernel, by decide +kernel⟩
structure Txt (K : PySem.W.Frag) (mg : Str → Option Value) where
  f_key_in : Addr
  d_key_in : FuncData
  F_key_in : Fun K "key_in" "key_in" s_key_in f_key_in d_key_in
  b_key_in : Binds K d_key_in ["key", "start", "end"] []
  g_key_in : mg "key_in" = some (.ref f_key_in)
  f_is_within : Addr
  d_is_within : FuncData
  F_is_within : Fun K "is_within" "is_within" s_is_within f_is_within d_is_within
  b_is_within : Binds K d_is_within ["start", "end", "low", "high"] []
  g_is_within : mg "is_within" = some (.ref f_is_within)
  f_with_ends : Addr
  d_with_ends : FuncData
  F_with_ends : Fun K "with_ends" "with_ends" s_with_ends f_with_ends d_with_ends
  b_with_ends : Binds K d_with_ends ["ranges"] []
  g_with_ends : mg "with_ends" = some (.ref f_with_ends)
  f_first_beliefs : Addr
  d_first_beliefs : FuncData
  F_first_beliefs : Fun K "first_beliefs" "first_beliefs" s_first_beliefs f_first_beliefs d_first_beliefs
  b_first_beliefs : Binds K d_first_beliefs ["ranges"] []
  g_first_beliefs : mg "first_beliefs" = some (.ref f_first_beliefs)
  f_cell_of : Addr
  d_cell_of : FuncData
  F_cell_of : Fun K "cell_of" "cell_of" s_cell_of f_cell_of d_cell_of
  b_cell_of : Binds K d_cell_of ["beliefs", "key"] []
  g_cell_of : mg "cell_of" = some (.ref f_cell_of)
  f_learned : Addr
  d_learned : FuncData
  F_learned : Fun K "learned" "learned" s_learned f_learned d_learned
  b_learned : Binds K d_learned ["beliefs", "hint"] []
  g_learned : mg "learned" = some (.ref f_learned)
  f_places_of : Addr
  d_places_of : FuncData
  F_places_of : Fun K "places_of" "places_of" s_places_of f_places_of d_places_of
  b_places_of : Binds K d_places_of ["beliefs", "names"] []
  g_places_of : mg "places_of" = some (.ref f_places_of)
  f__cut : Addr
  d__cut : FuncData
  F__cut : Fun K "_cut" "_cut" s__cut f__cut d__cut
  b__cut : Binds K d__cut ["beliefs", "bound"] []
  g__cut : mg "_cut" = some (.ref f__cut)
  f__row_behind : Addr
  d__row_behind : FuncData
  F__row_behind : Fun K "_row_behind" "_row_behind" s__row_behind f__row_behind d__row_behind
  b__row_behind : Binds K d__row_behind ["row", "hint"] []
  g__row_behind : mg "_row_behind" = some (.ref f__row_behind)
  f__law_number : Addr
  d__law_number : FuncData
  F__law_number : Fun K "_law_number" "_law_number" s__law_number f__law_number d__law_number
  b__law_number : Binds K d__law_number ["script", "k"] []
  g__law_number : mg "_law_number" = some (.ref f__law_number)
  f__law_take : Addr
  d__law_take : FuncData
  F__law_take : Fun K "_law_take" "_law_take" s__law_take f__law_take d__law_take
  b__law_take : Binds K d__law_take ["box", "size"] []
  g__law_take : mg "_law_take" = some (.ref f__law_take)
  f__law_key : Addr
  d__law_key : FuncData
  F__law_key : Fun K "_law_key" "_law_key" s__law_key f__law_key d__law_key
  b__law_key : Binds K d__law_key ["box", "sign"] []
  g__law_key : mg "_law_key" = some (.ref f__law_key)
  f__law_ranges : Addr
  d__law_ranges : FuncData
  F__law_ranges : Fun K "_law_ranges" "_law_ranges" s__law_ranges f__law_ranges d__law_ranges
  b__law_ranges : Binds K d__law_ranges ["box"] []
  g__law_ranges : mg "_law_ranges" = some (.ref f__law_ranges)
  f__law_first : Addr
  d__law_first : FuncData
  F__law_first : Fun K "_law_first" "_law_first" s__law_first f__law_first d__law_first
  b__law_first : Binds K d__law_first ["ranges"] []
  g__law_first : mg "_law_first" = some (.ref f__law_first)
  f__law_cut : Addr
  d__law_cut : FuncData
  F__law_cut : Fun K "_law_cut" "_law_cut" s__law_cut f__law_cut d__law_cut
  b__law_cut : Binds K d__law_cut ["rows", "key"] []
  g__law_cut : mg "_law_cut" = some (.ref f__law_cut)
  f__law_learned : Addr
  d__law_learned : FuncData
  F__law_learned : Fun K "_law_learned" "_law_learned" s__law_learned f__law_learned d__law_learned
  b__law_learned : Binds K d__law_learned ["rows", "hint"] []
  g__law_learned : mg "_law_learned" = some (.ref f__law_learned)
  f__law_hint : Addr
  d__law_hint : FuncData
  F__law_hint : Fun K "_law_hint" "_law_hint" s__law_hint f__law_hint d__law_hint
  b__law_hint : Binds K d__law_hint ["box", "rows"] []
  g__law_hint : mg "_law_hint" = some (.ref f__law_hint)
  f__law_cell : Addr
  d__law_cell : FuncData
  F__law_cell : Fun K "_law_cell" "_law_cell" s__law_cell f__law_cell d__law_cell
  b__law_cell : Binds K d__law_cell ["rows", "key"] []
  g__law_cell : mg "_law_cell" = some (.ref f__law_cell)
  f_law : Addr
  d_law : FuncData
  F_law : Fun K "law" "law" s_law f_law d_law
  b_law : Binds K d_law ["script"] []
  g_law : mg "law" = some (.ref f_law)
  m_int : mg "int" = none
  m_isinstance : mg "isinstance" = none
  m_len : mg "len" = none
  m_list : mg "list" = none
  m_range : mg "range" = none
  m_sorted : mg "sorted" = none
  m_tuple : mg "tuple" = none
  m_zip : mg "zip" = none
section
variable {P : Program} {w : World} {K : PySem.W.Frag} {mg : Str → Option Value} {base : Heap}
def sp__law_number (K : PySem.W.Frag) : Sp := fun vs H Q _ => ∃ (a : Addr) (k : Int) (ns : List Int), vs = [.ref a, .int k] ∧ SqL K H a (ns.map V.int) ∧ ns.length ≤ 63 ∧ 0 ≤ k ∧ k ≤ 1000 ∧ ∀ n : Int, 0 ≤ n → Q (.int n) H
theorem ok__law_number (T : Txt K mg) : FnOk P w K mg base CX0 1 T.f__law_number T.d__law_number ["script", "k"] (sp__law_number K) := by
  refine T.F__law_number.ok sc__law_number (fun vs H Q E h => ?_) (fun cdv A outer s H vs Q E hr h => ?_)
  · obtain ⟨a, k, ns, rfl, _⟩ := h
    rfl
  obtain ⟨a, k, ns, rfl, hS, hl, hk, hk2, q⟩ := h
  refine ⟨_, (pss_cons (ps_set (i := 2) sc__law_number.nd rfl (Or.inl rfl) (pe_int))
      (Evl.pss_cut (ps_if (pt_cmpR op_gt (pe_callB (Xk.k_len (K := K) (by rfl)) (by rfl) T.m_len PySem.boot_len (pa_cons (pv 0) pa_nil)) (pe_int) (nomark _)) (pss_one (ps_set (i := 2) sc__law_number.nd rfl (Or.inl rfl) (pe_ix (Xk.k_ixL (K := K) (by rfl)) (pv 0) (pe_op op_mod (pe_callTy Xk.call_nInt (by rfl) T.m_int (by decide +kernel) (pa_cons (pv 1) pa_nil)) (pe_callB (Xk.k_len (K := K) (by rfl)) (by rfl) T.m_len PySem.boot_len (pa_cons (pv 0) pa_nil))) (fun _ _ => rfl)))) pss_nil)
      (Evl.pss_cut (ps_if (pt_cmpR op_lt (pv 2) (pe_int) (nomark _)) (pss_one (ps_set (i := 2) sc__law_number.nd rfl (Or.inl rfl) (pe_op op_sub (pe_int) (pe_op op_mul (pe_int) (pv 2))))) pss_nil)
      (Evl.pss_cut (ps_if (PW.pt (pw_and (pt_cmpR op_ge (pv 2) (pe_op op_pow (pe_int) (pe_int)) (nomark _)) (pw_and1 (pt_cmpR op_lt (pv 1) (pe_callB (Xk.k_len (K := K) (by rfl)) (by rfl) T.m_len PySem.boot_len (pa_cons (pv 0) pa_nil)) (nomark _))))) (pss_one (ps_ret (pv 2))) pss_nil)
      (pss_cons (ps_set (i := 3) sc__law_number.nd rfl (Or.inl rfl) (pe_op op_mod (pe_callTy Xk.call_nInt (by rfl) T.m_int (by decide +kernel) (pa_cons (pe_op op_add (pe_op op_mul (pe_op op_add (pv 2) (pe_int)) (pe_int)) (pe_op op_mul (pe_op op_add (pv 1) (pe_int)) (pe_int))) pa_nil)) (pe_int)))
      (pss_cons (ps_set (i := 4) sc__law_number.nd rfl (Or.inl rfl) (pe_op op_mod (pe_callTy Xk.call_nInt (by rfl) T.m_int (by decide +kernel) (pa_cons (pe_op op_add (pe_op op_add (pe_op op_mul (pe_op op_add (pv 3) (pe_int)) (pe_int)) (pe_op op_mul (pe_op op_add (pv 2) (pe_int)) (pe_int))) (pv 1)) pa_nil)) (pe_int)))
      (pss_one (ps_ret (pe_op op_mod (pe_callTy Xk.call_nInt (by rfl) T.m_int (by decide +kernel) (pa_cons (pe_op op_add (pe_op op_add (pe_op op_mul (pv 3) (pe_int)) (pe_op op_mul (pv 4) (pe_int))) (pv 2)) pa_nil)) (pe_int)))))))))), ?_⟩
  wtm_at "x0"
  wtm_at "xs"
  refine Xk.x_cut (fun σ' H' => H = H' ∧ ∃ c : Int, σ' = [some (.ref a), some (.int k), some (.int c), none, none]) ?_ ?_
  · wtm_at "xs"
    refine Xk.x_itd (fun h => ?_) (fun h => ?_)
    · wtm_at "xs"
      rw [List.length_map] at h ⊢
      have h1 : k % (ns.length : Int) < ns.length := Int.emod_lt_of_pos _ h
      have h2 : 0 ≤ k % (ns.length : Int) := Int.emod_nonneg _ (by omega)
      obtain ⟨j, hj⟩ := Int.eq_ofNat_of_zero_le h2
      rw [hj] at h1 ⊢
      have h3 : j < ns.length := by omega
      refine Xk.x_ixL hS (atI_nat (j := j) (by rw [List.getElem?_map, List.getElem?_eq_getElem h3]; rfl)) ?_
      exact ⟨rfl, _, rfl⟩
    · wtm_at "xs"
      exact ⟨rfl, _, rfl⟩
  rintro σ' H' ⟨rfl, c, rfl⟩
  refine Xk.x_cut (fun σ' H' => H = H' ∧ ∃ c : Int, 0 ≤ c ∧ σ' = [some (.ref a), some (.int k), some (.int c), none, none]) ?_ ?_
  · wtm_at "xs"
    refine Xk.x_itd (fun h => ?_) (fun h => ?_)
    · wtm_at "xs"
      exact ⟨rfl, _, by omega, rfl⟩
    · wtm_at "xs"
      exact ⟨rfl, _, by omega, rfl⟩
  rintro σ' H' ⟨rfl, c, hc, rfl⟩
  refine Xk.x_cut (fun σ' H' => H = H' ∧ σ' = [some (.ref a), some (.int k), some (.int c), none, none]) ?_ ?_
  · wtm_at "xs"
    refine Xk.x_itd (fun h => ?_) (fun h => ?_)
    · wtm_at "xs"
      refine Xk.x_itd (fun h => ?_) (fun h => ?_)
      · wtm_at "xs"
        exact q _ hc
      · wtm_at "xs"
        exact ⟨rfl, rfl⟩
    · wtm_at "xs"
      exact ⟨rfl, rfl⟩
  rintro σ' H' ⟨rfl, rfl⟩
  wtm_at "xs"
  exact q _ (by omega)
def sp__law_take (K : PySem.W.Frag) : Sp := fun vs H Q _ => ∃ (a : Addr) (z n : Int), vs = [.ref a, .int z] ∧ H a = some (.lst [.int n]) ∧ 0 < z ∧ z < 1073741824 ∧ (0 ≤ n % z → n % z < z → Q (.int (n % z)) (upd H a (.lst [.int (n / z)])))
theorem ok__law_take (T : Txt K mg) : FnOk P w K mg base CX0 1 T.f__law_take T.d__law_take ["box", "size"] (sp__law_take K) := by
  refine T.F__law_take.ok sc__law_take (fun vs H Q E h => ?_) (fun cdv A outer s H vs Q E hr h => ?_)
  · obtain ⟨a, z, n, rfl, _⟩ := h
    rfl
  obtain ⟨a, z, n, rfl, hb, h0, h1, q⟩ := h
  refine ⟨_, (pss_cons (ps_set (i := 2) sc__law_take.nd rfl (Or.inl rfl) (pe_op op_mod (pe_callTy Xk.call_nInt (by rfl) T.m_int (by decide +kernel) (pa_cons (pe_ix (Xk.k_ixL (K := K) (by rfl)) (pv 0) (pe_int) (fun _ _ => rfl)) pa_nil)) (pv 1)))
      (pss_cons (ps_asg (pe_op op_fdiv (pe_ix (Xk.k_ixL (K := K) (by rfl)) (pv 0) (pe_int) (fun _ _ => rfl)) (pv 1)) (pg_sub (pv 0) (pe_int) set_list))
      (pss_one (ps_ret (pv 2))))), ?_⟩
  wtm_at "x0"
  wtm_at "xs"
  refine Xk.x_setL (j := 0) hb rfl ?_
  wtm_at "xs"
  exact q (Int.emod_nonneg _ (by omega)) (Int.emod_lt_of_pos _ h0)
--CUT--
/-- a draw from a box, said so that it goes on -/
theorem draw {K : PySem.W.Frag} {H : Hp} {Q : VK} {E : XK} {a : Addr} {z n : Int} (hb : H a = some (.lst [.int n])) (hz : 0 < z ∧ z < 1073741824)
    (q : ∀ (j : Nat) (m : Int) H', (j : Int) < z → Xk.But a H H' → H' a = some (.lst [.int m]) → Q (.int j) H') : sp__law_take K [.ref a, .int z] H Q E := by
  refine ⟨a, z, n, rfl, hb, hz.1, hz.2, fun h1 h2 => ?_⟩
  obtain ⟨j, hj⟩ := Int.eq_ofNat_of_zero_le h1
  rw [hj] at h2 ⊢
  exact q j (n / z) _ h2 (Xk.but_mut (Xk.But.refl _ _)) upd_same
def alphS : Str := "abcdefghijklmnopqrstuvwxyz0123456789"
/-- a text of a few signs -/
def Ok (s : Str) : Prop := s.length ≤ 20 ∧ Xk.AllC Xk.okC s = true
theorem one_len (c : Nat) : (⟨#[c]⟩ : Str).length = 1 := rfl
def sp__law_key (K : PySem.W.Frag) : Sp := fun vs H Q _ => ∃ (a : Addr) (n : Int) (z : Str), vs = [.ref a, .str z] ∧ H a = some (.lst [.int n]) ∧ z.length ≤ 1 ∧ Xk.AllC Xk.okC z = true ∧
  ∀ H' m s, Xk.But a H H' → H' a = some (.lst [.int m]) → Ok s → Q (.str s) H'
theorem ok__law_key (T : Txt K mg) : FnOk P w K mg base CX0 2 T.f__law_key T.d__law_key ["box", "sign"] (sp__law_key K) := by
  refine T.F__law_key.ok sc__law_key (fun vs H Q E h => ?_) (fun cdv A outer s H vs Q E hr h => ?_)
  · obtain ⟨a, n, z, rfl, _⟩ := h
    rfl
  obtain ⟨a, n, z, rfl, hb, hz, hz2, q⟩ := h
  refine ⟨_, (pss_cons (ps_set (i := 2) sc__law_key.nd rfl (Or.inl rfl) (pe_str))
      (pss_cons (ps_set (i := 3) sc__law_key.nd rfl (Or.inl rfl) (pe_ix (Xk.k_ixL (K := K) (by rfl)) (pe_lst (pa_cons (pe_int) (pa_cons (pe_int) (pa_cons (pe_int) (pa_cons (pe_int) pa_nil))))) (pe_call (ok__law_take T) (hr.mono (by decide)) (by rfl) T.g__law_take T.F__law_take.kp T.b__law_take .nil pass0 (pa_cons (pv 0) (pa_cons (pe_int) pa_nil))) (fun _ _ => rfl)))
      (pss_cons (ps_set (i := 4) sc__law_key.nd rfl (Or.inl rfl) (pe_call (ok__law_take T) (hr.mono (by decide)) (by rfl) T.g__law_take T.F__law_take.kp T.b__law_take .nil pass0 (pa_cons (pv 0) (pa_cons (pv 3) pa_nil))))
      (pss_cons (ps_set (i := 5) sc__law_key.nd rfl (Or.inl rfl) (pe_str))
      (pss_cons (ps_for PassesOwn.never rfl (pi_range1 (by rfl) T.m_range (pa_cons (pe_op op_sub (pv 3) (pe_int)) pa_nil)) (pg_name (i := 6) sc__law_key.nd rfl (Or.inl rfl)) (pss_one (ps_set (i := 5) sc__law_key.nd rfl (Or.inl rfl) (pe_op Xk.op_nAddS (pv 5) (pe_ix ix_str (pv 2) (pe_call (ok__law_take T) (hr.mono (by decide)) (by rfl) T.g__law_take T.F__law_take.kp T.b__law_take .nil pass0 (pa_cons (pv 0) (pa_cons (pe_int) pa_nil))) (fun _ _ => rfl))))))
      (pss_one (ps_ret (pe_op Xk.op_nAddS (pe_op Xk.op_nAddS (pe_slice sl_str (pv 5) po_none (po_some (pv 4))) (pv 1)) (pe_slice sl_str (pv 5) (po_some (pv 4)) po_none))))))))), ?_⟩
  wtm_at "x0"
  wtm_at "xs"
  intro p H2 hp s2 h2
  have nap : p ≠ a := (Xk.ne_new hp hb).symm
  have hb2 := s2 _ _ hb
  wtm_at "xs"
  refine draw hb2 ⟨by decide, by decide⟩ fun j m H3 hj b3 hb3 => ?_
  obtain ⟨v, hv⟩ := Xk.lt_at (xs := [V.int 1, V.int 2, V.int 3, V.int 8]) (j := j) (by simp only [List.length_cons, List.length_nil]; omega)
  refine Xk.x_ixL (Xk.sq_of (b3 _ _ nap h2)) (Xk.at_nat rfl hv) ?_
  obtain ⟨c, rfl, c1, c2⟩ : ∃ c : Int, v = .int c ∧ 1 ≤ c ∧ c ≤ 8 := by
    have hm := List.mem_of_getElem? hv
    simp only [List.mem_cons, List.not_mem_nil, or_false] at hm
    rcases hm with rfl | rfl | rfl | rfl <;> exact ⟨_, rfl, by decide, by decide⟩
  have b03 := Xk.but_trans (Xk.but_same (p := a) s2) b3
  clear hv hj b3 h2 hb2 s2 hp
  wtm_at "xs"
  refine draw hb3 ⟨by omega, by omega⟩ fun g m2 H4 hg b4 hb4 => ?_
  have b04 := Xk.but_trans b03 b4
  clear b03 b4 hb3
  wtm_at "xs"
  refine Xk.x_range (fun i σ' H' => ∃ (t : Str) (m : Int) (y : Option V), σ' = [some (.ref a), some (.str z), some (.str alphS), some (.int c), some (.int g), some (.str t), y] ∧ Xk.But a H H' ∧ H' a = some (.lst [.int m]) ∧ t.length = i ∧ Xk.AllC Xk.okC t = true)
    ⟨by omega, by omega⟩ ⟨_, _, _, rfl, b04, hb4, rfl, rfl⟩ ?_ ?_
  · rintro i σ' H' hi ⟨t, m, y, rfl, b, hb5, ht, hk⟩
    wtm_at "xs"
    refine draw hb5 ⟨by decide, by decide⟩ fun j m H3 hj b3 hb3 => ?_
    obtain ⟨d, hd⟩ := Xk.lt_at (xs := alphS.cps.toList) (j := j) (by show j < 36; omega)
    refine Xk.x_ixS (by decide) (Xk.at_nat rfl hd) ?_
    have ho : Xk.okC d = true := by
      have h1 : alphS.cps.toList.all Xk.okC = true := by decide
      exact List.all_eq_true.mp h1 d (List.mem_of_getElem? hd)
    have hl2 : t.length + (⟨#[d]⟩ : Str).length ≤ 100000 := by rw [one_len]; omega
    refine Xk.x_nAddS hl2 ?_
    exact ⟨_, _, _, rfl, Xk.but_trans b b3, hb3, by rw [Xk.len_add, ht]; rfl, Xk.allC_add hk (by show List.all _ _ = true; simp [ho])⟩
  · rintro σ' H' ⟨t, m, y, rfl, b, hb5, ht, hk⟩
    have l1 := Xk.len_cut t none (some (g : Int))
    have l2 := Xk.len_cut t (some (g : Int)) none
    wtm_at "xs"
    refine Xk.x_nAddS (by rw [Xk.len_add]; omega) ?_
    refine q _ m _ b hb5 ⟨by rw [Xk.len_add, Xk.len_add]; omega, Xk.allC_add (Xk.allC_add (Xk.allC_cut hk) hz2) (Xk.allC_cut hk)⟩
--CUT--
theorem lt_irr (a : Str) : ¬ (LT.lt (Array.toList (PySem.Str.cps a)) (Array.toList (PySem.Str.cps a))) := List.lt_irrefl _
theorem lt_tr {a b c : Str} (h : (LT.lt (Array.toList (PySem.Str.cps a)) (Array.toList (PySem.Str.cps b)))) (h' : (LT.lt (Array.toList (PySem.Str.cps b)) (Array.toList (PySem.Str.cps c)))) : (LT.lt (Array.toList (PySem.Str.cps a)) (Array.toList (PySem.Str.cps c))) := List.lt_trans h h'
theorem lt_as {a b : Str} (h : (LT.lt (Array.toList (PySem.Str.cps a)) (Array.toList (PySem.Str.cps b)))) : ¬ (LT.lt (Array.toList (PySem.Str.cps b)) (Array.toList (PySem.Str.cps a))) := fun h' => lt_irr a (lt_tr h h')
theorem nl_lt {a b c : Str} (h : ¬ (LT.lt (Array.toList (PySem.Str.cps b)) (Array.toList (PySem.Str.cps a)))) (h' : (LT.lt (Array.toList (PySem.Str.cps b)) (Array.toList (PySem.Str.cps c)))) : (LT.lt (Array.toList (PySem.Str.cps a)) (Array.toList (PySem.Str.cps c))) := Std.lt_of_le_of_lt (List.not_lt.mp h) h'
theorem lt_nl {a b c : Str} (h : (LT.lt (Array.toList (PySem.Str.cps a)) (Array.toList (PySem.Str.cps b)))) (h' : ¬ (LT.lt (Array.toList (PySem.Str.cps c)) (Array.toList (PySem.Str.cps b)))) : (LT.lt (Array.toList (PySem.Str.cps a)) (Array.toList (PySem.Str.cps c))) := Std.lt_of_lt_of_le h (List.not_lt.mp h')
theorem nl_tr {a b c : Str} (h : ¬ (LT.lt (Array.toList (PySem.Str.cps b)) (Array.toList (PySem.Str.cps a)))) (h' : ¬ (LT.lt (Array.toList (PySem.Str.cps c)) (Array.toList (PySem.Str.cps b)))) : ¬ (LT.lt (Array.toList (PySem.Str.cps c)) (Array.toList (PySem.Str.cps a))) := fun z => h (lt_of_nl z h')
  where lt_of_nl {a b c : Str} (h : (LT.lt (Array.toList (PySem.Str.cps c)) (Array.toList (PySem.Str.cps a)))) (h' : ¬ (LT.lt (Array.toList (PySem.Str.cps c)) (Array.toList (PySem.Str.cps b)))) : (LT.lt (Array.toList (PySem.Str.cps b)) (Array.toList (PySem.Str.cps a))) := nl_lt h' h
theorem nil_le (a : Str) : ¬ (LT.lt (Array.toList (PySem.Str.cps a)) (Array.toList (PySem.Str.cps ""))) := List.not_lt_nil _
/-- a key is below an end -/
def below (k : Str) : Option Str → Bool
  | none => true
  | some t => decide ((LT.lt (Array.toList (PySem.Str.cps k)) (Array.toList (PySem.Str.cps t))))
section
variable {α : Type}
/-- rows with bounds that follow one another -/
def Ch : Str → List (Str × Option Str × α) → Prop
  | _, [] => False
  | s, [r] => r.1 = s ∧ r.2.1 = none
  | s, r :: r2 :: l => r.1 = s ∧ r.2.1 = some r2.1 ∧ (LT.lt (Array.toList (PySem.Str.cps s)) (Array.toList (PySem.Str.cps r2.1))) ∧ Ch r2.1 (r2 :: l)
theorem Ch.hd {s : Str} : ∀ {l : List (Str × Option Str × α)}, Ch s l → ∃ r t, l = r :: t ∧ r.1 = s
  | [], h => h.elim
  | [r], h => ⟨r, [], rfl, h.1⟩
  | r :: r2 :: l, h => ⟨r, r2 :: l, rfl, h.1⟩
theorem Ch.cons {s b : Str} {x : α} {l : List (Str × Option Str × α)} (h : (LT.lt (Array.toList (PySem.Str.cps s)) (Array.toList (PySem.Str.cps b)))) (hl : Ch b l) : Ch s ((s, some b, x) :: l) := by
  obtain ⟨r, t, rfl, rfl⟩ := hl.hd
  exact ⟨rfl, rfl, h, hl⟩
/-- a row cut at a bound -/
def cutR (b : Str) (r : Str × Option Str × α) : List (Str × Option Str × α) := if (decide ((LT.lt (Array.toList (PySem.Str.cps r.1)) (Array.toList (PySem.Str.cps b)))) && below b r.2.1) = true then [(r.1, some b, r.2.2), (b, r.2.1, r.2.2)] else [r]
def cutL (b : Option Str) (l : List (Str × Option Str × α)) : List (Str × Option Str × α) := match b with
  | none => l
  | some b => l.flatMap (cutR b)
theorem cut_off {s b : Str} : ∀ {l : List (Str × Option Str × α)}, Ch s l → ¬ (LT.lt (Array.toList (PySem.Str.cps s)) (Array.toList (PySem.Str.cps b))) → l.flatMap (cutR b) = l
  | [], h, _ => h.elim
  | [r], h, n => by
    have e : cutR b r = [r] := if_neg (by rw [h.1, decide_eq_false n, Bool.false_and]; decide)
    rw [List.flatMap_cons, e]
    rfl
  | r :: r2 :: l, h, n => by
    have e : cutR b r = [r] := if_neg (by rw [h.1, decide_eq_false n, Bool.false_and]; decide)
    have n2 : ¬ (LT.lt (Array.toList (PySem.Str.cps r2.1)) (Array.toList (PySem.Str.cps b))) := fun z => n (lt_tr h.2.2.1 z)
    rw [List.flatMap_cons, e, cut_off h.2.2.2 n2]
    rfl
theorem Ch.cut (b : Str) {s : Str} : ∀ {l : List (Str × Option Str × α)}, Ch s l → Ch s (l.flatMap (cutR b)) ∧ (l.flatMap (cutR b)).length ≤ l.length + 1
  | [], h => h.elim
  | [r], h => by
    obtain ⟨a, e, x⟩ := r
    obtain ⟨rfl, rfl⟩ : a = s ∧ e = none := h
    rw [List.flatMap_cons, List.flatMap_nil, List.append_nil]
    by_cases c : (LT.lt (Array.toList (PySem.Str.cps a)) (Array.toList (PySem.Str.cps b)))
    · have e : cutR b (a, none, x) = [(a, some b, x), (b, none, x)] := if_pos (by rw [decide_eq_true c]; rfl)
      rw [e]
      exact ⟨⟨rfl, rfl, c, rfl, rfl⟩, Nat.le_refl _⟩
    · have e : cutR b (a, none, x) = [(a, none, x)] := if_neg (by rw [decide_eq_false c, Bool.false_and]; decide)
      rw [e]
      exact ⟨⟨rfl, rfl⟩, Nat.le_succ _⟩
  | r :: r2 :: l, h => by
    obtain ⟨a, e, x⟩ := r
    obtain ⟨rfl, rfl, h3, h4⟩ : a = s ∧ e = some r2.1 ∧ (LT.lt (Array.toList (PySem.Str.cps s)) (Array.toList (PySem.Str.cps r2.1))) ∧ Ch r2.1 (r2 :: l) := h
    have ih := Ch.cut b h4
    by_cases c : (LT.lt (Array.toList (PySem.Str.cps a)) (Array.toList (PySem.Str.cps b))) ∧ (LT.lt (Array.toList (PySem.Str.cps b)) (Array.toList (PySem.Str.cps r2.1)))
    · have e : cutR b (a, some r2.1, x) = [(a, some b, x), (b, some r2.1, x)] := if_pos (by
        show (decide ((LT.lt (Array.toList (PySem.Str.cps a)) (Array.toList (PySem.Str.cps b)))) && decide ((LT.lt (Array.toList (PySem.Str.cps b)) (Array.toList (PySem.Str.cps r2.1))))) = true
        rw [decide_eq_true c.1, decide_eq_true c.2]
        rfl)
      rw [List.flatMap_cons, e, cut_off h4 (lt_as c.2)]
      exact ⟨⟨rfl, rfl, c.1, Ch.cons c.2 h4⟩, Nat.le_refl _⟩
    · have e : cutR b (a, some r2.1, x) = [(a, some r2.1, x)] := if_neg (by
        show ¬ (decide ((LT.lt (Array.toList (PySem.Str.cps a)) (Array.toList (PySem.Str.cps b)))) && decide ((LT.lt (Array.toList (PySem.Str.cps b)) (Array.toList (PySem.Str.cps r2.1))))) = true
        rw [Bool.and_eq_true, decide_eq_true_eq, decide_eq_true_eq]
        exact c)
      rw [List.flatMap_cons, e]
      exact ⟨Ch.cons h3 ih.1, Nat.succ_le_succ ih.2⟩
theorem cutL_ok (b : Option Str) {s : Str} {l : List (Str × Option Str × α)} (h : Ch s l) : Ch s (cutL b l) ∧ (cutL b l).length ≤ l.length + 1 := by
  cases b with
  | none => exact ⟨h, Nat.le_succ _⟩
  | some b => exact h.cut b
/-- no row goes over a bound at which it was cut -/
theorem cut_no {b : Str} {l : List (Str × Option Str × α)} {r : Str × Option Str × α} (h : r ∈ l.flatMap (cutR b)) : (decide ((LT.lt (Array.toList (PySem.Str.cps r.1)) (Array.toList (PySem.Str.cps b)))) && below b r.2.1) = false := by
  obtain ⟨r0, _, h1⟩ := List.mem_flatMap.mp h
  unfold cutR at h1
  split at h1
  · have e : decide ((LT.lt (Array.toList (PySem.Str.cps b)) (Array.toList (PySem.Str.cps b)))) = false := decide_eq_false (lt_irr b)
    rcases List.mem_cons.mp h1 with rfl | h1
    · show (_ && decide ((LT.lt (Array.toList (PySem.Str.cps b)) (Array.toList (PySem.Str.cps b))))) = false
      rw [e, Bool.and_false]
    · rw [List.mem_singleton.mp h1]
      show (decide ((LT.lt (Array.toList (PySem.Str.cps b)) (Array.toList (PySem.Str.cps b)))) && _) = false
      rw [e]
      rfl
  · rename_i c
    rw [List.mem_singleton.mp h1]
    exact Bool.eq_false_iff.mpr c
theorem Ch.wf {s : Str} : ∀ {l : List (Str × Option Str × α)}, Ch s l → ∀ r ∈ l, ∀ t, r.2.1 = some t → (LT.lt (Array.toList (PySem.Str.cps r.1)) (Array.toList (PySem.Str.cps t)))
  | [], h, _, _, _, _ => h.elim
  | [r], h, r', hr, t, e => by
    rw [List.mem_singleton.mp hr, h.2] at e
    cases e
  | r :: r2 :: l, h, r', hr, t, e => by
    rcases List.mem_cons.mp hr with rfl | hr
    · rw [h.2.1] at e
      cases e
      rw [h.1]
      exact h.2.2.1
    · exact Ch.wf h.2.2.2 r' hr t e
theorem Ch.cover {k s : Str} : ∀ {l : List (Str × Option Str × α)}, Ch s l → ¬ (LT.lt (Array.toList (PySem.Str.cps k)) (Array.toList (PySem.Str.cps s))) → ∃ r ∈ l, (!decide ((LT.lt (Array.toList (PySem.Str.cps k)) (Array.toList (PySem.Str.cps r.1)))) && below k r.2.1) = true
  | [], h, _ => h.elim
  | [r], h, n => ⟨r, List.mem_cons_self .., by rw [h.1, h.2, decide_eq_false n]; rfl⟩
  | r :: r2 :: l, h, n => by
    by_cases c : (LT.lt (Array.toList (PySem.Str.cps k)) (Array.toList (PySem.Str.cps r2.1)))
    · refine ⟨r, List.mem_cons_self .., ?_⟩
      rw [h.1, h.2.1, decide_eq_false n]
      show decide ((LT.lt (Array.toList (PySem.Str.cps k)) (Array.toList (PySem.Str.cps r2.1)))) = true
      exact decide_eq_true c
    · obtain ⟨r', h1, h2⟩ := Ch.cover h.2.2.2 c
      exact ⟨r', List.mem_cons_of_mem _ h1, h2⟩
theorem Ch.map {β : Type} {f : (Str × Option Str × α) → (Str × Option Str × β)} (hf : ∀ r, (f r).1 = r.1 ∧ (f r).2.1 = r.2.1) {s : Str} : ∀ {l : List (Str × Option Str × α)}, Ch s l → Ch s (l.map f)
  | [], h => h.elim
  | [r], h => ⟨(hf r).1.trans h.1, (hf r).2.trans h.2⟩
  | r :: r2 :: l, h => by
    have ih := Ch.map hf h.2.2.2
    refine ⟨(hf r).1.trans h.1, ?_, ?_, ?_⟩
    · rw [(hf r).2, h.2.1, (hf r2).1]
    · show (LT.lt (Array.toList (PySem.Str.cps s)) (Array.toList (PySem.Str.cps (f r2).1)))
      rw [(hf r2).1]
      exact h.2.2.1
    · show Ch (f r2).1 _
      rw [(hf r2).1]
      exact ih
end
--CUT--
def ov : Option Str → V
  | none => .non
  | some s => .str s
abbrev Br := Str × Option Str × Int × Int
def Br.v (r : Br) : List V := [.str r.1, ov r.2.1, .int r.2.2.1, .int r.2.2.2]
def Br.ok (r : Br) : Prop := Ok r.1 ∧ ∀ t, r.2.1 = some t → Ok t
structure RowsAt (H : Hp) (p : Addr) (L : List (Addr × Br)) : Prop where
  lst : H p = some (.lst (L.map fun e => V.ref e.1))
  tup : ∀ e ∈ L, H e.1 = some (.tup (Br.v e.2))
theorem RowsAt.same {H H' : Hp} {p : Addr} {L : List (Addr × Br)} (h : RowsAt H p L) (s : Same H H') : RowsAt H' p L := ⟨s _ _ h.lst, fun e he => s _ _ (h.tup e he)⟩
def sp_key_in (K : PySem.W.Frag) : Sp := fun vs H Q _ => ∃ (k s : Str) (e : Option Str), vs = [.str k, .str s, ov e] ∧ Q (.bl (!decide ((LT.lt (Array.toList (PySem.Str.cps k)) (Array.toList (PySem.Str.cps s)))) && below k e)) H
theorem ok_key_in (T : Txt K mg) : FnOk P w K mg base CX0 1 T.f_key_in T.d_key_in ["key", "start", "end"] (sp_key_in K) := by
  refine T.F_key_in.ok sc_key_in (fun vs H Q E h => ?_) (fun cdv A outer s H vs Q E hr h => ?_)
  · obtain ⟨k, s, e, rfl, _⟩ := h
    rfl
  obtain ⟨k, s, e, rfl, q⟩ := h
  refine ⟨_, (pss_one (ps_ret ((pe_and (pe_cmpR Xk.op_nLeS (pv 1) (pv 0) (nomark _)) (pe_one ((pe_or (pe_cmpR Xk.op_nIsN (pv 2) (pe_non) (nomark _)) (pe_one (pe_cmpR Xk.op_nLtS (pv 0) (pv 2) (nomark _)))))))))), ?_⟩
  wtm_at "x0"
  wtm_at "xs"
  refine Xk.x_itn (fun h => ?_) (fun h => ?_)
  · rw [decide_eq_false h] at q
    cases e with
    | none =>
      dsimp only [ov]
      wtm_at "xs"
      exact q
    | some t =>
      dsimp only [ov]
      wtm_at "xs"
      exact q
  · rw [decide_eq_true h] at q
    exact q
def withinB (s : Str) (e : Option Str) (lo : Str) (hi : Option Str) : Bool := !decide ((LT.lt (Array.toList (PySem.Str.cps s)) (Array.toList (PySem.Str.cps lo)))) && (match hi with
  | none => true
  | some h => match e with
    | none => false
    | some t => !decide ((LT.lt (Array.toList (PySem.Str.cps h)) (Array.toList (PySem.Str.cps t)))))
def sp_is_within (K : PySem.W.Frag) : Sp := fun vs H Q _ => ∃ (s lo : Str) (e hi : Option Str), vs = [.str s, ov e, .str lo, ov hi] ∧ Q (.bl (withinB s e lo hi)) H
theorem ok_is_within (T : Txt K mg) : FnOk P w K mg base CX0 1 T.f_is_within T.d_is_within ["start", "end", "low", "high"] (sp_is_within K) := by
  refine T.F_is_within.ok sc_is_within (fun vs H Q E h => ?_) (fun cdv A outer s H vs Q E hr h => ?_)
  · obtain ⟨s, lo, e, hi, rfl, _⟩ := h
    rfl
  obtain ⟨s, lo, e, hi, rfl, q⟩ := h
  refine ⟨_, (pss_one (ps_ret ((pe_and (pe_cmpR Xk.op_nLeS (pv 2) (pv 0) (nomark _)) (pe_one ((pe_or (pe_cmpR Xk.op_nIsN (pv 3) (pe_non) (nomark _)) (pe_one ((pe_and (pe_cmpR Xk.op_nNotN (pv 1) (pe_non) (nomark _)) (pe_one (pe_cmpR Xk.op_nLeS (pv 1) (pv 3) (nomark _))))))))))))), ?_⟩
  wtm_at "x0"
  unfold withinB at q
  wtm_at "xs"
  refine Xk.x_itn (fun h => ?_) (fun h => ?_)
  · rw [decide_eq_false h] at q
    cases hi with
    | none =>
      dsimp only [ov]
      wtm_at "xs"
      exact q
    | some t =>
      cases e with
      | none =>
        dsimp only [ov]
        wtm_at "xs"
        exact q
      | some u =>
        dsimp only [ov]
        wtm_at "xs"
        exact q
  · rw [decide_eq_true h] at q
    exact q
--CUT--
theorem keep_tup {H : Hp} {a c : Addr} {xs ys : List V} {o : HO} (h : H a = some (.tup xs)) (h' : H c = some (.lst ys)) : upd H c o a = some (.tup xs) :=
  (upd_ne (fun z => by subst z; rw [h] at h'; cases h')).trans h
structure RgAt (H : Hp) (p : Addr) (R : List (Addr × Str × Int)) : Prop where
  tup : H p = some (.tup (R.map fun e => V.ref e.1))
  it : ∀ e ∈ R, H e.1 = some (.tup [.str e.2.1, .int e.2.2])
theorem RgAt.same {H H' : Hp} {p : Addr} {R : List (Addr × Str × Int)} (h : RgAt H p R) (s : Same H H') : RgAt H' p R := ⟨s _ _ h.tup, fun e he => s _ _ (h.it e he)⟩
/-- ranges with their ends -/
def endsOf : List (Str × Int) → List (Str × Option Str × Int)
  | [] => []
  | [(s, c)] => [(s, none, c)]
  | (s, c) :: (t, d) :: r => (s, some t, c) :: endsOf ((t, d) :: r)
theorem endsOf_len : ∀ l, (endsOf l).length = l.length
  | [] => rfl
  | [_] => rfl
  | (s, c) :: (t, d) :: r => congrArg (· + 1) (endsOf_len ((t, d) :: r))
theorem endsOf_at : ∀ (l : List (Str × Int)) (i : Nat), (endsOf l)[i]? = l[i]?.map fun x => (x.1, l[i + 1]?.map (·.1), x.2)
  | [], i => rfl
  | [(s, c)], 0 => rfl
  | [(s, c)], i + 1 => rfl
  | (s, c) :: (t, d) :: r, 0 => rfl
  | (s, c) :: (t, d) :: r, i + 1 => endsOf_at ((t, d) :: r) i
def sp_with_ends (K : PySem.W.Frag) : Sp := fun vs H Q _ => ∃ p R, vs = [.ref p] ∧ RgAt H p R ∧ 1 ≤ R.length ∧ R.length ≤ 50 ∧
  ∀ H' q (W : List (Addr × Str × Option Str × Int)), Same H H' → H' q = some (.lst (W.map fun e => V.ref e.1)) → (∀ e ∈ W, H' e.1 = some (.tup [.str e.2.1, ov e.2.2.1, .int e.2.2.2])) → W.map (·.2) = endsOf (R.map (·.2)) → Q (.ref q) H'
theorem ok_with_ends (T : Txt K mg) : FnOk P w K mg base CX0 1 T.f_with_ends T.d_with_ends ["ranges"] (sp_with_ends K) := by
  refine T.F_with_ends.ok sc_with_ends (fun vs H Q E h => ?_) (fun cdv A outer s H vs Q E hr h => ?_)
  · obtain ⟨p, R, rfl, _⟩ := h
    rfl
  obtain ⟨p, R, rfl, hR, hl1, hl2, q⟩ := h
  refine ⟨_, (pss_cons (ps_set (i := 1) sc_with_ends.nd rfl (Or.inl rfl) (pe_op op_cat (pe_lc (own := [("start", 2), ("cell", 3)]) (g := gTup K 2 (gCons (gName 2) (gCons (gName 3) gNil))) (tt := tYes) rfl sc_with_ends.nd  (pi_tup (pe_slice sl_tupA (pv 0) (po_some (pe_int)) po_none)) (blkOk_by (N := N_with_ends) (sc := defScope s_with_ends) (own := [("start", 2), ("cell", 3)]) (by decide +kernel)) (fun _ _ _ _ _ => Xk.k_gtup (K := K) (by rfl) rfl (pgs_cons (pg_name (i := 2) sc_with_ends.nd rfl (Or.inl rfl)) (pgs_cons (pg_name (i := 3) sc_with_ends.nd rfl (Or.inl rfl)) pgs_nil))) (fun _ _ _ _ _ => pts_nil) (fun _ _ _ _ _ => (pv 2))) (pe_lst (pa_cons (pe_non) pa_nil))))
      (pss_one (ps_ret (pe_lc (own := [("end", 4), ("start", 2), ("cell", 3)]) (g := gTup K 2 (gCons (gTup K 2 (gCons (gName 2) (gCons (gName 3) gNil))) (gCons (gName 4) gNil))) (tt := tYes) rfl sc_with_ends.nd  (Xk.k_TL (K := K) (by rfl) (by rfl) T.m_zip (pa_cons (pv 0) (pa_cons (pv 1) pa_nil))) (blkOk_by (N := N_with_ends) (sc := defScope s_with_ends) (own := [("end", 4), ("start", 2), ("cell", 3)]) (by decide +kernel)) (fun _ _ _ _ _ => Xk.k_gtup (K := K) (by rfl) rfl (pgs_cons (Xk.k_gtup (K := K) (by rfl) rfl (pgs_cons (pg_name (i := 2) sc_with_ends.nd rfl (Or.inl rfl)) (pgs_cons (pg_name (i := 3) sc_with_ends.nd rfl (Or.inl rfl)) pgs_nil))) (pgs_cons (pg_name (i := 4) sc_with_ends.nd rfl (Or.inl rfl)) pgs_nil))) (fun _ _ _ _ _ => pts_nil) (fun _ _ _ _ _ => (pe_tup (pa_cons (pv 2) (pa_cons (pv 4) (pa_cons (pv 3) pa_nil))))))))), ?_⟩
  wtm_at "x0"
  wtm_at "xs"
  refine Xk.x_slA hR.tup fun q1 H1 s1 h1 => ?_
  rw [Xk.cut_drop (k := 1) (n := 1) rfl, ← List.map_drop] at h1
  refine Xk.x_lcT (xs := (R.drop 1).map fun e => V.ref e.1) (fun Dl i H' => Same H H' ∧ Same H1 H' ∧ H' Dl = some (.lst (((R.drop 1).take i).map fun e => V.str e.2.1))) (Xk.st_of h1) ?_ ?_ ?_ ?_
  · intro Dl hD
    exact ⟨Xk.same_mut s1 (Xk.free_back hD s1), Xk.same_fr hD, upd_same⟩
  · rintro Dl i H' hD ⟨_, s2, _⟩
    exact Xk.st_of (s2 _ _ h1)
  · rintro Dl hD i x H' hi ⟨s3, s2, h2⟩
    obtain ⟨e, he, rfl⟩ := Xk.of_map_at hi
    have hm := s3 _ _ (hR.it e (List.mem_of_mem_drop (List.mem_of_getElem? he)))
    refine Xk.x_gTup (Xk.st_of hm) rfl ?_
    wtm_at "xs"
    refine ⟨rfl, ?_⟩
    wtm_at "xs"
    refine ⟨_, h2, Xk.size_lt (by simp only [List.length_map, List.length_take, List.length_drop]; omega), Xk.same_mut s3 (Xk.free_back hD s1), Xk.same_mut s2 hD, ?_⟩
    rw [upd_same, List.take_add_one, he, List.map_append]
    rfl
  · rintro Dl H2 hD ⟨s3, s2, h2⟩
    rw [List.length_map, List.take_length] at h2
    wtm_at "xs"
    intro nl H3 hnl s4 h3
    have h23 := s4 _ _ h2
    refine Xk.x_cat h23 h3 (by simp only [List.length_map, List.length_drop, List.length_cons, List.length_nil]; omega) fun el H4 hel s5 h4 => ?_
    wtm_at "xs"
    have s04 := s3.trans (s4.trans s5)
    have hE : ∀ i y, ((R.drop 1).map (fun e => V.str e.2.1) ++ [V.non])[i]? = some y → y = ov ((R.map (·.2))[i + 1]?.map (·.1)) := by
      intro i y hy
      rw [List.getElem?_map]
      by_cases hi : i < (R.drop 1).length
      · rw [List.getElem?_append_left (by rw [List.length_map]; exact hi), List.getElem?_map, List.getElem?_drop, Nat.add_comm 1 i] at hy
        obtain ⟨e, he, rfl⟩ := Option.map_eq_some_iff.mp hy
        rw [he]
        rfl
      · have h6 := Xk.at_lt hy
        rw [List.length_append, List.length_map] at h6
        rw [List.length_drop] at hi h6
        have h7 : i + 1 = R.length := by
          simp only [List.length_cons, List.length_nil] at h6
          omega
        rw [List.getElem?_append_right (by rw [List.length_map, List.length_drop]; omega), List.length_map, List.length_drop, show i - (R.length - 1) = 0 by omega] at hy
        rw [h7, List.getElem?_eq_none (Nat.le_refl _)]
        exact (Option.some.inj hy).symm
    refine Xk.x_lcZ (us := R.map fun e => V.ref e.1) (ws := (R.drop 1).map (fun e => V.str e.2.1) ++ [V.non]) (fun Dl i H' => Same H4 H' ∧ ∃ W : List (Addr × Str × Option Str × Int), H' Dl = some (.lst (W.map fun e => V.ref e.1)) ∧ (∀ e ∈ W, H' e.1 = some (.tup [.str e.2.1, ov e.2.2.1, .int e.2.2.2])) ∧ W.map (·.2) = (endsOf (R.map (·.2))).take i)
      (by simp only [List.length_map, List.length_append, List.length_drop, List.length_cons, List.length_nil]; omega) (Xk.st_of (s04 _ _ hR.tup)) (Xk.sq_of h4) ?_ ?_ ?_ ?_
    · intro Dl hD
      exact ⟨Xk.same_fr hD, [], upd_same, fun e z => (by cases z), rfl⟩
    · rintro Dl i H' hD ⟨s6, _⟩
      exact ⟨Xk.st_of ((s04.trans s6) _ _ hR.tup), Xk.sq_of (s6 _ _ h4)⟩
    · rintro Dl hD i x y H5 T H6 hi hj ⟨s6, W, w1, w2, w3⟩ hT s7 hT2
      obtain ⟨e, he, rfl⟩ := Xk.of_map_at hi
      have hy := hE i y hj
      subst hy
      have s67 := s6.trans s7
      refine Xk.x_gTup (Xk.st_of hT2) rfl ?_
      wtm_at "xs"
      have hm := (s04.trans s67) _ _ (hR.it e (List.mem_of_getElem? he))
      refine Xk.x_gTup (Xk.st_of hm) rfl ?_
      wtm_at "xs"
      refine ⟨rfl, ?_⟩
      wtm_at "xs"
      intro tp H7 htp s8 h8
      have s78 := s7.trans s8
      have w17 := s78 _ _ w1
      have hWl : W.length ≤ R.length := by
        have h9 := congrArg List.length w3
        rw [List.length_map, List.length_take, endsOf_len, List.length_map] at h9
        omega
      refine ⟨_, w17, Xk.size_lt (by rw [List.length_map]; omega), Xk.same_mut (s6.trans s78) hD, W ++ [(tp, e.2.1, ((R.map (·.2))[i + 1]?.map (·.1)), e.2.2)], by rw [upd_same, List.map_append]; rfl, fun z hz => ?_, ?_⟩
      · rcases List.mem_append.mp hz with hz | hz
        · exact keep_tup (s78 _ _ (w2 z hz)) w17
        · rw [List.mem_singleton.mp hz]
          exact keep_tup h8 w17
      · have e9 : (R.map (·.2))[i]? = some e.2 := Xk.map_at he
        rw [List.map_append, w3, List.take_add_one, endsOf_at, e9]
        rfl
    · rintro Dl H5 hD ⟨s6, W, w1, w2, w3⟩
      wtm_at "xs"
      refine q _ Dl W (s04.trans s6) w1 w2 ?_
      rw [w3, List.length_map, List.take_of_length_le]
      rw [endsOf_len, List.length_map]
      exact Nat.le_refl _
--CUT--
def firstR (l : List (Str × Int)) : List Br := (endsOf l).map fun x => (x.1, x.2.1, x.2.2, 1)
theorem firstR_len (l : List (Str × Int)) : (firstR l).length = l.length := by
  unfold firstR
  rw [List.length_map, endsOf_len]
theorem firstR_at (l : List (Str × Int)) (i : Nat) : (firstR l)[i]? = l[i]?.map fun x => (x.1, l[i + 1]?.map (·.1), x.2, 1) := by
  unfold firstR
  rw [List.getElem?_map, endsOf_at, Option.map_map]
  rfl
/-- one more row -/
theorem RowsAt.snoc {H H' : Hp} {p t : Addr} {L : List (Addr × Br)} {r : Br} (h : RowsAt H p L) (s : Same H H') (h2 : H' t = some (.tup (Br.v r))) : RowsAt (upd H' p (.lst ((L.map fun e => V.ref e.1) ++ [.ref t]))) p (L ++ [(t, r)]) := by
  have h3 := s _ _ h.lst
  refine ⟨by rw [upd_same, List.map_append]; rfl, fun e he => ?_⟩
  rcases List.mem_append.mp he with he | he
  · exact keep_tup (s _ _ (h.tup e he)) h3
  · rw [List.mem_singleton.mp he]
    exact keep_tup h2 h3
def sp_first_beliefs (K : PySem.W.Frag) : Sp := fun vs H Q _ => ∃ p R, vs = [.ref p] ∧ RgAt H p R ∧ 1 ≤ R.length ∧ R.length ≤ 50 ∧
  ∀ H' q L, Same H H' → Xk.Fr q H → RowsAt H' q L → L.map (·.2) = firstR (R.map (·.2)) → Q (.ref q) H'
theorem ok_first_beliefs (T : Txt K mg) : FnOk P w K mg base CX0 2 T.f_first_beliefs T.d_first_beliefs ["ranges"] (sp_first_beliefs K) := by
  refine T.F_first_beliefs.ok sc_first_beliefs (fun vs H Q E h => ?_) (fun cdv A outer s H vs Q E hr h => ?_)
  · obtain ⟨p, R, rfl, _⟩ := h
    rfl
  obtain ⟨p, R, rfl, hR, hl1, hl2, q⟩ := h
  refine ⟨_, (pss_one (ps_ret (pe_lc (own := [("start", 1), ("end", 2), ("cell", 3)]) (g := gTup K 3 (gCons (gName 1) (gCons (gName 2) (gCons (gName 3) gNil)))) (tt := tYes) rfl sc_first_beliefs.nd  (pi_list (pe_call (ok_with_ends T) (hr.mono (by decide)) (by rfl) T.g_with_ends T.F_with_ends.kp T.b_with_ends .nil pass0 (pa_cons (pv 0) pa_nil))) (blkOk_by (N := N_first_beliefs) (sc := defScope s_first_beliefs) (own := [("start", 1), ("end", 2), ("cell", 3)]) (by decide +kernel)) (fun _ _ _ _ _ => Xk.k_gtup (K := K) (by rfl) rfl (pgs_cons (pg_name (i := 1) sc_first_beliefs.nd rfl (Or.inl rfl)) (pgs_cons (pg_name (i := 2) sc_first_beliefs.nd rfl (Or.inl rfl)) (pgs_cons (pg_name (i := 3) sc_first_beliefs.nd rfl (Or.inl rfl)) pgs_nil)))) (fun _ _ _ _ _ => pts_nil) (fun _ _ _ _ _ => (pe_tup (pa_cons (pv 1) (pa_cons (pv 2) (pa_cons (pv 3) (pa_cons (pe_int) pa_nil))))))))), ?_⟩
  wtm_at "x0"
  wtm_at "xs"
  refine ⟨p, R, rfl, hR, hl1, hl2, fun H1 wp W s1 hw1 hw2 hw3 => ?_⟩
  have hWl : W.length = R.length := by
    have h9 := congrArg List.length hw3
    rw [List.length_map, endsOf_len, List.length_map] at h9
    exact h9
  refine Xk.x_lcL (xs := W.map fun e => V.ref e.1) (fun Dl i H' => Same H1 H' ∧ ∃ L, RowsAt H' Dl L ∧ L.map (·.2) = (firstR (R.map (·.2))).take i) (Xk.sq_of hw1) ?_ ?_ ?_ ?_
  · intro Dl hD
    exact ⟨Xk.same_fr hD, [], ⟨upd_same, fun e z => (by cases z)⟩, rfl⟩
  · rintro Dl i H' hD ⟨s2, _⟩
    exact Xk.sq_of (s2 _ _ hw1)
  · rintro Dl hD i x H' hi ⟨s2, L, hL, hL2⟩
    obtain ⟨e, he, rfl⟩ := Xk.of_map_at hi
    refine Xk.x_gTup (Xk.st_of (s2 _ _ (hw2 e (List.mem_of_getElem? he)))) rfl ?_
    wtm_at "xs"
    refine ⟨rfl, ?_⟩
    wtm_at "xs"
    intro tp H3 htp s3 h3
    have hLl : L.length ≤ R.length := by
      have h9 := congrArg List.length hL2
      rw [List.length_map, List.length_take, firstR_len, List.length_map] at h9
      omega
    refine ⟨_, s3 _ _ hL.lst, Xk.size_lt (by rw [List.length_map]; omega), Xk.same_mut (s2.trans s3) hD, _, hL.snoc (r := (e.2.1, e.2.2.1, e.2.2.2, 1)) s3 h3, ?_⟩
    have e9 : (endsOf (R.map (·.2)))[i]? = some e.2 := by
      rw [← hw3]
      exact Xk.map_at he
    have e10 : (firstR (R.map (·.2)))[i]? = some (e.2.1, e.2.2.1, e.2.2.2, 1) := by
      unfold firstR
      rw [List.getElem?_map, e9]
      rfl
    rw [List.map_append, hL2, List.take_add_one, e10]
    rfl
  · rintro Dl H2 hD ⟨s2, L, hL, hL2⟩
    refine q H2 Dl L (s1.trans s2) (Xk.free_back hD s1) hL ?_
    rw [hL2, List.length_map, List.take_of_length_le]
    rw [firstR_len, List.length_map, hWl]
    exact Nat.le_refl _
def sp__law_first (K : PySem.W.Frag) : Sp := fun vs H Q _ => ∃ p R, vs = [.ref p] ∧ RgAt H p R ∧ 1 ≤ R.length ∧ R.length ≤ 50 ∧
  ∀ H' q L, Same H H' → Xk.Fr q H → RowsAt H' q L → L.map (·.2) = firstR (R.map (·.2)) → Q (.ref q) H'
theorem ok__law_first (T : Txt K mg) : FnOk P w K mg base CX0 1 T.f__law_first T.d__law_first ["ranges"] (sp__law_first K) := by
  refine T.F__law_first.ok sc__law_first (fun vs H Q E h => ?_) (fun cdv A outer s H vs Q E hr h => ?_)
  · obtain ⟨p, R, rfl, _⟩ := h
    rfl
  obtain ⟨p, R, rfl, hR, hl1, hl2, q⟩ := h
  refine ⟨_, (pss_cons (ps_set (i := 1) sc__law_first.nd rfl (Or.inl rfl) (pe_lst pa_nil))
      (pss_cons (ps_for PassesOwn.never rfl (pi_range1 (by rfl) T.m_range (pa_cons (pe_callB (Xk.k_len (K := K) (by rfl)) (by rfl) T.m_len PySem.boot_len (pa_cons (pv 0) pa_nil)) pa_nil)) (pg_name (i := 2) sc__law_first.nd rfl (Or.inl rfl)) (pss_cons (ps_set (i := 3) sc__law_first.nd rfl (Or.inl rfl) (pe_non))
      (Evl.pss_cut (ps_if (pt_cmpR op_lt (pe_op op_add (pv 2) (pe_int)) (pe_callB (Xk.k_len (K := K) (by rfl)) (by rfl) T.m_len PySem.boot_len (pa_cons (pv 0) pa_nil)) (nomark _)) (pss_one (ps_set (i := 3) sc__law_first.nd rfl (Or.inl rfl) (pe_ix (Xk.k_ixT (K := K) (by rfl)) (pe_ix (Xk.k_ixT (K := K) (by rfl)) (pv 0) (pe_op op_add (pv 2) (pe_int)) (fun _ _ => rfl)) (pe_int) (fun _ _ => rfl)))) pss_nil)
      (pss_one (ps_expr (pe_bm PySem.F.plainAttrs_list PySem.F.slot_list_append PySem.F.type_list_append mt_append (pv 1) (pa_cons (pe_tup (pa_cons (pe_ix (Xk.k_ixT (K := K) (by rfl)) (pe_ix (Xk.k_ixT (K := K) (by rfl)) (pv 0) (pv 2) (fun _ _ => rfl)) (pe_int) (fun _ _ => rfl)) (pa_cons (pv 3) (pa_cons (pe_ix (Xk.k_ixT (K := K) (by rfl)) (pe_ix (Xk.k_ixT (K := K) (by rfl)) (pv 0) (pv 2) (fun _ _ => rfl)) (pe_int) (fun _ _ => rfl)) (pa_cons (pe_int) pa_nil))))) pa_nil)))))))
      (pss_one (ps_ret (pv 1))))), ?_⟩
  wtm_at "x0"
  wtm_at "xs"
  intro rp H1 hrp s1 hr1
  have hp1 := s1 _ _ hR.tup
  wtm_at "xs"
  rw [List.length_map]
  refine Xk.x_range (fun i σ' H' => ∃ (y1 y2 : Option V) (L : List (Addr × Br)), σ' = [some (.ref p), some (.ref rp), y1, y2] ∧ Same H H' ∧ RowsAt H' rp L ∧ L.map (·.2) = (firstR (R.map (·.2))).take i)
    ⟨by omega, by omega⟩ ⟨_, _, [], rfl, s1, ⟨hr1, fun e z => (by cases z)⟩, rfl⟩ ?_ ?_
  · rintro i σ' H' hi ⟨y1, y2, L, rfl, s2, hL, hL2⟩
    have hp2 := s2 _ _ hR.tup
    obtain ⟨e, he⟩ := Xk.lt_at (xs := R) (j := i) (by omega)
    have he2 := s2 _ _ (hR.it e (List.mem_of_getElem? he))
    wtm_at "xs"
    refine Xk.x_cut (fun σ' H'' => H' = H'' ∧ σ' = [some (.ref p), some (.ref rp), some (.int i), some (ov ((R.map (·.2))[i + 1]?.map (·.1)))]) ?_ ?_
    · wtm_at "xs"
      rw [List.length_map]
      refine Xk.x_itd (fun h => ?_) (fun h => ?_)
      · obtain ⟨f, hf⟩ := Xk.lt_at (xs := R) (j := i + 1) (by omega)
        have hf2 := s2 _ _ (hR.it f (List.mem_of_getElem? hf))
        wtm_at "xs"
        refine ⟨rfl, ?_⟩
        rw [List.getElem?_map, hf]
        rfl
      · wtm_at "xs"
        refine ⟨rfl, ?_⟩
        rw [List.getElem?_map, List.getElem?_eq_none (by omega)]
        rfl
    rintro σ' H'' ⟨rfl, rfl⟩
    have hLl : L.length ≤ R.length := by
      have h9 := congrArg List.length hL2
      rw [List.length_map, List.length_take, firstR_len, List.length_map] at h9
      omega
    have hr3 := hL.lst
    wtm_at "xs"
    intro tp H3 htp s3 h3
    have hr4 := s3 _ _ hr3
    have hsz : (L.map fun e => V.ref e.1).length < 100000 := by rw [List.length_map]; omega
    wtm_at "xs"
    refine ⟨_, _, _, rfl, Xk.same_mut (s2.trans s3) hrp, hL.snoc s3 (r := (e.2.1, (R.map (fun e => e.2))[i + 1]?.map (fun x : Str × Int => x.1), e.2.2, 1)) h3, ?_⟩
    have e9 : (R.map (·.2))[i]? = some e.2 := Xk.map_at he
    rw [List.map_append, hL2, List.take_add_one, firstR_at, e9]
    rfl
  · rintro σ' H2 ⟨y1, y2, L, rfl, s2, hL, hL2⟩
    wtm_at "xs"
    refine q H2 rp L s2 hrp hL ?_
    rw [hL2, List.take_of_length_le]
    rw [firstR_len, List.length_map]
    omega
--CUT--
theorem filt_next {β : Type} {f : β → Bool} {L : List (Addr × β)} {i : Nat} {e : Addr × β} (he : L[i]? = some e) : ((L.take (i + 1)).map (·.2)).filter f = ((L.take i).map (·.2)).filter f ++ (if f e.2 = true then [e.2] else []) := by
  rw [List.take_add_one, he, List.map_append, List.filter_append]
  congr 1
  show List.filter f [e.2] = _
  rw [List.filter_cons]
  rfl
theorem filt_len {β : Type} {f : β → Bool} {L : List (Addr × β)} {i : Nat} : (((L.take i).map (·.2)).filter f).length ≤ L.length :=
  Nat.le_trans (List.length_filter_le _ _) (by rw [List.length_map, List.length_take]; omega)
/-- the first cell that has the key -/
def hasK (k : Str) (r : Br) : Bool := !decide ((LT.lt (Array.toList (PySem.Str.cps k)) (Array.toList (PySem.Str.cps r.1)))) && below k r.2.1
def sp_cell_of (K : PySem.W.Frag) : Sp := fun vs H Q _ => ∃ p L k, vs = [.ref p, .str k] ∧ RowsAt H p L ∧ L.length ≤ 50 ∧ ∃ r, ((L.map (·.2)).filter (hasK k))[0]? = some r ∧
  ∀ H', Same H H' → Q (.int r.2.2.1) H'
theorem ok_cell_of (T : Txt K mg) : FnOk P w K mg base CX0 2 T.f_cell_of T.d_cell_of ["beliefs", "key"] (sp_cell_of K) := by
  refine T.F_cell_of.ok sc_cell_of (fun vs H Q E h => ?_) (fun cdv A outer s H vs Q E hr h => ?_)
  · obtain ⟨p, L, k, rfl, _⟩ := h
    rfl
  obtain ⟨p, L, k, rfl, hL, hl, r, hr0, q⟩ := h
  refine ⟨_, (pss_one (ps_ret (pe_ix (Xk.k_ixL (K := K) (by rfl)) (pe_lc (own := [("start", 2), ("end", 3), ("cell", 4), ("epoch", 5)]) (g := gTup K 4 (gCons (gName 2) (gCons (gName 3) (gCons (gName 4) (gCons (gName 5) gNil))))) rfl sc_cell_of.nd  (pi_list (pv 0)) (blkOk_by (N := N_cell_of) (sc := defScope s_cell_of) (own := [("start", 2), ("end", 3), ("cell", 4), ("epoch", 5)]) (by decide +kernel)) (fun _ _ _ _ _ => Xk.k_gtup (K := K) (by rfl) rfl (pgs_cons (pg_name (i := 2) sc_cell_of.nd rfl (Or.inl rfl)) (pgs_cons (pg_name (i := 3) sc_cell_of.nd rfl (Or.inl rfl)) (pgs_cons (pg_name (i := 4) sc_cell_of.nd rfl (Or.inl rfl)) (pgs_cons (pg_name (i := 5) sc_cell_of.nd rfl (Or.inl rfl)) pgs_nil))))) (fun _ _ _ _ _ => pts_one (pt_val (pe_call (ok_key_in T) (hr.mono (by decide)) (by rfl) T.g_key_in T.F_key_in.kp T.b_key_in .nil pass0 (pa_cons (pv 1) (pa_cons (pv 2) (pa_cons (pv 3) pa_nil)))))) (fun _ _ _ _ _ => (pv 4))) (pe_int) (fun _ _ => rfl)))), ?_⟩
  wtm_at "x0"
  have hl0 := Xk.sq_of (K := K) hL.lst
  wtm_at "xs"
  refine Xk.x_lcL (xs := L.map fun e => V.ref e.1) (fun Dl i H' => Same H H' ∧ H' Dl = some (.lst ((((L.take i).map (·.2)).filter (hasK k)).map fun r => V.int r.2.2.1))) hl0 ?_ ?_ ?_ ?_
  · intro Dl hD
    exact ⟨Xk.same_fr hD, upd_same⟩
  · rintro Dl i H' hD ⟨s2, _⟩
    exact Xk.sq_of (s2 _ _ hL.lst)
  · rintro Dl hD i x H' hi ⟨s2, h2⟩
    obtain ⟨e, he, rfl⟩ := Xk.of_map_at hi
    refine Xk.x_gTup (Xk.st_of (s2 _ _ (hL.tup e (List.mem_of_getElem? he)))) rfl ?_
    dsimp only [Br.v]
    wtm_at "xs"
    refine ⟨rfl, ?_⟩
    wtm_at "xs"
    refine ⟨k, e.2.1, e.2.2.1, rfl, ?_⟩
    have e1 := filt_next (f := hasK k) he
    have e2 := filt_len (f := hasK k) (L := L) (i := i)
    wtm_at "xs"
    refine Xk.x_itb (b := hasK k e.2) (fun hk => ?_) (fun hk => ?_)
    · rw [hk, if_pos rfl] at e1
      wtm_at "xs"
      refine ⟨_, h2, Xk.size_lt (by rw [List.length_map]; omega), Xk.same_mut s2 hD, ?_⟩
      rw [upd_same, e1, List.map_append]
      rfl
    · rw [hk, if_neg (by decide), List.append_nil] at e1
      refine ⟨s2, ?_⟩
      rw [e1]
      exact h2
  · rintro Dl H2 hD ⟨s2, h2⟩
    rw [List.length_map, List.take_length] at h2
    wtm_at "xs"
    exact q H2 s2
def sp__law_cell (K : PySem.W.Frag) : Sp := fun vs H Q _ => ∃ p L k, vs = [.ref p, .str k] ∧ RowsAt H p L ∧ L.length ≤ 50 ∧ ∃ r, ((L.map (·.2)).filter (hasK k))[0]? = some r ∧
  ∀ H', Same H H' → Q (.int r.2.2.1) H'
theorem ok__law_cell (T : Txt K mg) : FnOk P w K mg base CX0 1 T.f__law_cell T.d__law_cell ["rows", "key"] (sp__law_cell K) := by
  refine T.F__law_cell.ok sc__law_cell (fun vs H Q E h => ?_) (fun cdv A outer s H vs Q E hr h => ?_)
  · obtain ⟨p, L, k, rfl, _⟩ := h
    rfl
  obtain ⟨p, L, k, rfl, hL, hl, r, hr0, q⟩ := h
  refine ⟨_, (pss_one (ps_ret (pe_ix (Xk.k_ixL (K := K) (by rfl)) (pe_lc (own := [("row", 2)]) (g := gName 2) rfl sc__law_cell.nd  (pi_list (pv 0)) (blkOk_by (N := N__law_cell) (sc := defScope s__law_cell) (own := [("row", 2)]) (by decide +kernel)) (fun _ _ _ _ _ => pg_name (i := 2) sc__law_cell.nd rfl (Or.inl rfl)) (fun _ _ _ _ _ => pts_one (PW.pt (pw_and (pt_cmpR Xk.op_nLeS (pe_ix (Xk.k_ixT (K := K) (by rfl)) (pv 2) (pe_int) (fun _ _ => rfl)) (pv 1) (nomark _)) (pw_and1 (PW.pt (pw_or (pt_cmpR Xk.op_nIsN (pe_ix (Xk.k_ixT (K := K) (by rfl)) (pv 2) (pe_int) (fun _ _ => rfl)) (pe_non) (nomark _)) (pw_or1 (pt_cmpR Xk.op_nLtS (pv 1) (pe_ix (Xk.k_ixT (K := K) (by rfl)) (pv 2) (pe_int) (fun _ _ => rfl)) (nomark _))))))))) (fun _ _ _ _ _ => (pe_ix (Xk.k_ixT (K := K) (by rfl)) (pv 2) (pe_int) (fun _ _ => rfl)))) (pe_int) (fun _ _ => rfl)))), ?_⟩
  wtm_at "x0"
  have hl0 := Xk.sq_of (K := K) hL.lst
  wtm_at "xs"
  refine Xk.x_lcL (xs := L.map fun e => V.ref e.1) (fun Dl i H' => Same H H' ∧ H' Dl = some (.lst ((((L.take i).map (·.2)).filter (hasK k)).map fun r => V.int r.2.2.1))) hl0 ?_ ?_ ?_ ?_
  · intro Dl hD
    exact ⟨Xk.same_fr hD, upd_same⟩
  · rintro Dl i H' hD ⟨s2, _⟩
    exact Xk.sq_of (s2 _ _ hL.lst)
  · rintro Dl hD i x H' hi ⟨s2, h2⟩
    obtain ⟨⟨t, s0, eo, c, n⟩, he, rfl⟩ := Xk.of_map_at hi
    have he2 := s2 _ _ (hL.tup _ (List.mem_of_getElem? he))
    dsimp only [Br.v] at he2
    wtm_at "xs"
    refine ⟨rfl, ?_⟩
    have e1 := filt_next (f := hasK k) he
    have e2 := filt_len (f := hasK k) (L := L) (i := i)
    have no : hasK k (s0, eo, c, n) = false → Same H H' ∧ H' Dl = some (.lst ((((L.take (i + 1)).map (·.2)).filter (hasK k)).map fun r => V.int r.2.2.1)) := fun hk => by
      rw [hk, if_neg (by decide), List.append_nil] at e1
      refine ⟨s2, ?_⟩
      rw [e1]
      exact h2
    have yes : hasK k (s0, eo, c, n) = true → (((L.take i).map (·.2)).filter (hasK k)).length ≤ L.length → ∃ acc, H' Dl = some (.lst acc) ∧ acc.length < sizeLine ∧ Same H (upd H' Dl (.lst (acc ++ [V.int c]))) ∧ upd H' Dl (.lst (acc ++ [V.int c])) Dl = some (.lst ((((L.take (i + 1)).map (·.2)).filter (hasK k)).map fun r => V.int r.2.2.1)) := fun hk e2 => by
      rw [hk, if_pos rfl] at e1
      refine ⟨_, h2, Xk.size_lt (by rw [List.length_map]; omega), Xk.same_mut s2 hD, ?_⟩
      rw [upd_same, e1, List.map_append]
      rfl
    dsimp only at e1
    wtm_at "xs"
    refine Xk.x_itn (fun h => ?_) (fun h => ?_)
    · cases eo with
      | none =>
        dsimp only [ov] at he2
        wtm_at "xs"
        exact yes (by show (!decide ((LT.lt (Array.toList (PySem.Str.cps k)) (Array.toList (PySem.Str.cps s0)))) && true) = true; rw [decide_eq_false h]; rfl) e2
      | some u =>
        dsimp only [ov] at he2
        wtm_at "xs"
        refine Xk.x_itd (fun h5 => ?_) (fun h5 => ?_)
        · wtm_at "xs"
          exact yes (by show (!decide ((LT.lt (Array.toList (PySem.Str.cps k)) (Array.toList (PySem.Str.cps s0)))) && decide ((LT.lt (Array.toList (PySem.Str.cps k)) (Array.toList (PySem.Str.cps u))))) = true; rw [decide_eq_false h, decide_eq_true h5]; rfl) e2
        · wtm_at "xs"
          exact no (by show (!decide ((LT.lt (Array.toList (PySem.Str.cps k)) (Array.toList (PySem.Str.cps s0)))) && decide ((LT.lt (Array.toList (PySem.Str.cps k)) (Array.toList (PySem.Str.cps u))))) = false; rw [decide_eq_false h5, Bool.and_false])
    · wtm_at "xs"
      exact no (by show (!decide ((LT.lt (Array.toList (PySem.Str.cps k)) (Array.toList (PySem.Str.cps s0)))) && _) = false; rw [decide_eq_true h]; rfl)
  · rintro Dl H2 hD ⟨s2, h2⟩
    rw [List.length_map, List.take_length] at h2
    wtm_at "xs"
    exact q H2 s2
--CUT--
theorem cut_next {b : Str} {L : List (Addr × Br)} {i : Nat} {e : Addr × Br} (he : L[i]? = some e) : ((L.take (i + 1)).map (·.2)).flatMap (cutR b) = ((L.take i).map (·.2)).flatMap (cutR b) ++ cutR b e.2 := by
  rw [List.take_add_one, he, List.map_append, List.flatMap_append]
  congr 1
  exact List.append_nil _
theorem cut_pre {b : Str} {L : List (Addr × Br)} (i : Nat) : (((L.take i).map (·.2)).flatMap (cutR b)).length ≤ ((L.map (·.2)).flatMap (cutR b)).length := by
  conv => rhs; rw [← List.take_append_drop i L]
  rw [List.map_append, List.flatMap_append, List.length_append]
  omega
theorem cut_yes {b s : Str} {e : Option Str} {c n : Int} (h1 : (LT.lt (Array.toList (PySem.Str.cps s)) (Array.toList (PySem.Str.cps b)))) (h2 : below b e = true) : cutR b ((s, e, c, n) : Br) = [(s, some b, c, n), (b, e, c, n)] := if_pos (by show (decide ((LT.lt (Array.toList (PySem.Str.cps s)) (Array.toList (PySem.Str.cps b)))) && below b e) = true; rw [decide_eq_true h1, h2]; rfl)
theorem cut_not {b s : Str} {e : Option Str} {c n : Int} (h : ¬ (LT.lt (Array.toList (PySem.Str.cps s)) (Array.toList (PySem.Str.cps b))) ∨ below b e = false) : cutR b ((s, e, c, n) : Br) = [(s, e, c, n)] := if_neg (by
  show ¬ (decide ((LT.lt (Array.toList (PySem.Str.cps s)) (Array.toList (PySem.Str.cps b)))) && below b e) = true
  rcases h with h | h
  · rw [decide_eq_false h, Bool.false_and]
    decide
  · rw [h, Bool.and_false]
    decide)
theorem RowsAt.snoc2 {H H' : Hp} {p t u : Addr} {L : List (Addr × Br)} {r r2 : Br} (h : RowsAt H p L) (s : Same H H') (h2 : H' t = some (.tup (Br.v r))) (h3 : H' u = some (.tup (Br.v r2))) : RowsAt (upd H' p (.lst ((L.map fun e => V.ref e.1) ++ [.ref t, .ref u]))) p (L ++ [(t, r), (u, r2)]) := by
  have h4 := s _ _ h.lst
  refine ⟨by rw [upd_same, List.map_append]; rfl, fun e he => ?_⟩
  rcases List.mem_append.mp he with he | he
  · exact keep_tup (s _ _ (h.tup e he)) h4
  · rcases List.mem_cons.mp he with rfl | he
    · exact keep_tup h2 h4
    · rw [List.mem_singleton.mp he]
      exact keep_tup h3 h4
def sp__cut (K : PySem.W.Frag) : Sp := fun vs H Q _ => ∃ p L b, vs = [.ref p, ov b] ∧ RowsAt H p L ∧ L.length ≤ 50 ∧ (cutL b (L.map (·.2))).length ≤ L.length + 1 ∧
  ∀ H' q L', Same H H' → Xk.Fr q H → RowsAt H' q L' → L'.map (·.2) = cutL b (L.map (·.2)) → Q (.ref q) H'
theorem ok__cut (T : Txt K mg) : FnOk P w K mg base CX0 1 T.f__cut T.d__cut ["beliefs", "bound"] (sp__cut K) := by
  refine T.F__cut.ok sc__cut (fun vs H Q E h => ?_) (fun cdv A outer s H vs Q E hr h => ?_)
  · obtain ⟨p, L, b, rfl, _⟩ := h
    rfl
  obtain ⟨p, L, b, rfl, hL, hl, hlc, q⟩ := h
  refine ⟨_, (Evl.pss_cut (ps_if (pt_cmpR Xk.op_nIsN (pv 1) (pe_non) (nomark _)) (pss_one (ps_ret (pe_callTy (Xk.k_list (K := K) (by rfl)) (by rfl) T.m_list (by decide +kernel) (pa_cons (pv 0) pa_nil)))) pss_nil)
      (pss_cons (ps_set (i := 2) sc__cut.nd rfl (Or.inl rfl) (pe_lst pa_nil))
      (pss_cons (ps_for PassesOwn.never rfl (pi_list (pv 0)) (pg_tup rfl (pgs_cons (pg_name (i := 3) sc__cut.nd rfl (Or.inl rfl)) (pgs_cons (pg_name (i := 4) sc__cut.nd rfl (Or.inl rfl)) (pgs_cons (pg_name (i := 5) sc__cut.nd rfl (Or.inl rfl)) (pgs_cons (pg_name (i := 6) sc__cut.nd rfl (Or.inl rfl)) pgs_nil))))) (pss_one (ps_if (PW.pt (pw_and (pt_cmpR Xk.op_nLtS (pv 3) (pv 1) (nomark _)) (pw_and1 (PW.pt (pw_or (pt_cmpR Xk.op_nIsN (pv 4) (pe_non) (nomark _)) (pw_or1 (pt_cmpR Xk.op_nLtS (pv 1) (pv 4) (nomark _)))))))) (pss_one (ps_expr (pe_bm PySem.F.plainAttrs_list PySem.F.slot_list_extend PySem.F.type_list_extend mt_extend (pv 2) (pa_cons (pe_lst (pa_cons (pe_tup (pa_cons (pv 3) (pa_cons (pv 1) (pa_cons (pv 5) (pa_cons (pv 6) pa_nil))))) (pa_cons (pe_tup (pa_cons (pv 1) (pa_cons (pv 4) (pa_cons (pv 5) (pa_cons (pv 6) pa_nil))))) pa_nil))) pa_nil)))) (pss_one (ps_expr (pe_bm PySem.F.plainAttrs_list PySem.F.slot_list_append PySem.F.type_list_append mt_append (pv 2) (pa_cons (pe_tup (pa_cons (pv 3) (pa_cons (pv 4) (pa_cons (pv 5) (pa_cons (pv 6) pa_nil))))) pa_nil)))))))
      (pss_one (ps_ret (pv 2)))))), ?_⟩
  wtm_at "x0"
  refine Xk.x_nocut ?_
  have hl0 := hL.lst
  cases b with
  | none =>
    dsimp only [ov]
    wtm_at "xs"
    intro lp H1 hlp s1 h1
    exact q H1 lp L s1 hlp ⟨h1, (hL.same s1).tup⟩ rfl
  | some b =>
    dsimp only [ov]
    wtm_at "xs"
    intro rp H1 hrp s1 h1
    wtm_at "xs"
    refine Xk.x_forL (xs := L.map fun e => V.ref e.1) (fun i σ' H' => ∃ (y3 y4 y5 y6 : Option V) (L' : List (Addr × Br)), σ' = [some (.ref p), some (.str b), some (.ref rp), y3, y4, y5, y6] ∧ Same H H' ∧ RowsAt H' rp L' ∧ L'.map (·.2) = ((L.take i).map (·.2)).flatMap (cutR b)) (Xk.sq_of (s1 _ _ hl0))
      ⟨_, _, _, _, [], rfl, s1, ⟨h1, fun e z => (by cases z)⟩, rfl⟩ ?_ ?_ ?_
    · rintro i σ' H' hi ⟨y3, y4, y5, y6, L', rfl, s2, _⟩
      exact Xk.sq_of (s2 _ _ hl0)
    · rintro i x σ' H' hi ⟨y3, y4, y5, y6, L', rfl, s2, hL', hL2⟩
      obtain ⟨⟨t, s0, eo, c, n⟩, he, rfl⟩ := Xk.of_map_at hi
      have he2 := s2 _ _ (hL.tup _ (List.mem_of_getElem? he))
      dsimp only [Br.v] at he2
      have c1 := cut_next (b := b) he
      have c2 := cut_pre (b := b) (L := L) i
      have hl3 : L'.length ≤ 60 := by
        have h9 := congrArg List.length hL2
        rw [List.length_map] at h9
        have h10 : ((L.map (·.2)).flatMap (cutR b)).length ≤ L.length + 1 := hlc
        omega
      have hl4 : (L'.map fun e => V.ref e.1).length < 100000 := by rw [List.length_map]; omega
      have hr3 := hL'.lst
      have yes : (LT.lt (Array.toList (PySem.Str.cps s0)) (Array.toList (PySem.Str.cps b))) → below b eo = true → ∀ H3 t1 t2, Same H' H3 → H3 t1 = some (.tup [.str s0, .str b, .int c, .int n]) → H3 t2 = some (.tup [.str b, ov eo, .int c, .int n]) →
          ∃ L2, Same H (upd H3 rp (.lst ((L'.map fun e => V.ref e.1) ++ [.ref t1, .ref t2]))) ∧ RowsAt (upd H3 rp (.lst ((L'.map fun e => V.ref e.1) ++ [.ref t1, .ref t2]))) rp L2 ∧ L2.map (·.2) = ((L.take (i + 1)).map (·.2)).flatMap (cutR b) := fun z1 z2 H3 t1 t2 s3 g1 g2 => by
        refine ⟨_, Xk.same_mut (s2.trans s3) hrp, hL'.snoc2 (r := (s0, some b, c, n)) (r2 := (b, eo, c, n)) s3 g1 g2, ?_⟩
        rw [c1, cut_yes z1 z2, List.map_append, hL2]
        rfl
      have no : (¬ (LT.lt (Array.toList (PySem.Str.cps s0)) (Array.toList (PySem.Str.cps b))) ∨ below b eo = false) → ∀ H3 t1, Same H' H3 → H3 t1 = some (.tup [.str s0, ov eo, .int c, .int n]) →
          ∃ L2, Same H (upd H3 rp (.lst ((L'.map fun e => V.ref e.1) ++ [.ref t1]))) ∧ RowsAt (upd H3 rp (.lst ((L'.map fun e => V.ref e.1) ++ [.ref t1]))) rp L2 ∧ L2.map (·.2) = ((L.take (i + 1)).map (·.2)).flatMap (cutR b) := fun z H3 t1 s3 g1 => by
        refine ⟨_, Xk.same_mut (s2.trans s3) hrp, hL'.snoc (r := (s0, eo, c, n)) s3 g1, ?_⟩
        rw [c1, cut_not z, List.map_append, hL2]
        rfl
      clear c1 c2 hL2
      wtm_at "xs"
      refine Xk.x_itd (fun h => ?_) (fun h => ?_)
      · cases eo with
        | none =>
          dsimp only [ov]
          wtm_at "xs"
          intro t1 H3 ht1 s3 g1
          wtm_at "xs"
          intro t2 H4 ht2 s4 g2
          wtm_at "xs"
          intro lq H5 hlq s5 g3
          have s35 := s3.trans (s4.trans s5)
          wtm_at "xs"
          refine Xk.x_ext (s35 _ _ hr3) g3 (by simp only [List.length_map, List.length_cons, List.length_nil]; omega) ?_
          obtain ⟨L2, z1, z2, z3⟩ := yes h rfl H5 t1 t2 s35 ((s4.trans s5) _ _ g1) (s5 _ _ g2)
          exact ⟨_, _, _, _, L2, rfl, z1, z2, z3⟩
        | some u =>
          dsimp only [ov]
          wtm_at "xs"
          refine Xk.x_itd (fun h5 => ?_) (fun h5 => ?_)
          · wtm_at "xs"
            intro t1 H3 ht1 s3 g1
            wtm_at "xs"
            intro t2 H4 ht2 s4 g2
            wtm_at "xs"
            intro lq H5 hlq s5 g3
            have s35 := s3.trans (s4.trans s5)
            wtm_at "xs"
            refine Xk.x_ext (s35 _ _ hr3) g3 (by simp only [List.length_map, List.length_cons, List.length_nil]; omega) ?_
            obtain ⟨L2, z1, z2, z3⟩ := yes h (decide_eq_true h5) H5 t1 t2 s35 ((s4.trans s5) _ _ g1) (s5 _ _ g2)
            exact ⟨_, _, _, _, L2, rfl, z1, z2, z3⟩
          · wtm_at "xs"
            intro t1 H3 ht1 s3 g1
            have hr4 := s3 _ _ hr3
            wtm_at "xs"
            obtain ⟨L2, z1, z2, z3⟩ := no (.inr (decide_eq_false h5)) H3 t1 s3 g1
            exact ⟨_, _, _, _, L2, rfl, z1, z2, z3⟩
      · wtm_at "xs"
        intro t1 H3 ht1 s3 g1
        have hr4 := s3 _ _ hr3
        wtm_at "xs"
        obtain ⟨L2, z1, z2, z3⟩ := no (.inl h) H3 t1 s3 g1
        exact ⟨_, _, _, _, L2, rfl, z1, z2, z3⟩
    · rintro σ' H2 ⟨y3, y4, y5, y6, L', rfl, s2, hL', hL2⟩
      rw [List.length_map, List.take_length] at hL2
      wtm_at "xs"
      exact q H2 rp L' s2 hrp hL' hL2
def sp__law_cut (K : PySem.W.Frag) : Sp := fun vs H Q _ => ∃ p L b, vs = [.ref p, ov b] ∧ RowsAt H p L ∧ L.length ≤ 50 ∧ (cutL b (L.map (·.2))).length ≤ L.length + 1 ∧
  ∀ H' q L', Same H H' → Xk.Fr q H → RowsAt H' q L' → L'.map (·.2) = cutL b (L.map (·.2)) → Q (.ref q) H'
theorem cut_none (l : List Br) : l = l.flatMap fun r => [r] := by
  induction l with
  | nil => rfl
  | cons a l ih =>
    rw [List.flatMap_cons, ← ih]
    rfl
theorem ok__law_cut (T : Txt K mg) : FnOk P w K mg base CX0 1 T.f__law_cut T.d__law_cut ["rows", "key"] (sp__law_cut K) := by
  refine T.F__law_cut.ok sc__law_cut (fun vs H Q E h => ?_) (fun cdv A outer s H vs Q E hr h => ?_)
  · obtain ⟨p, L, b, rfl, _⟩ := h
    rfl
  obtain ⟨p, L, b, rfl, hL, hl, hlc, q⟩ := h
  refine ⟨_, (pss_cons (ps_set (i := 2) sc__law_cut.nd rfl (Or.inl rfl) (pe_lst pa_nil))
      (pss_cons (ps_for PassesOwn.never rfl (pi_list (pv 0)) (pg_name (i := 3) sc__law_cut.nd rfl (Or.inl rfl)) (pss_one (ps_if (PW.pt (pw_and (pt_cmpR Xk.op_nNotN (pv 1) (pe_non) (nomark _)) (pw_and (pt_cmpR Xk.op_nLtS (pe_ix (Xk.k_ixT (K := K) (by rfl)) (pv 3) (pe_int) (fun _ _ => rfl)) (pv 1) (nomark _)) (pw_and1 (PW.pt (pw_or (pt_cmpR Xk.op_nIsN (pe_ix (Xk.k_ixT (K := K) (by rfl)) (pv 3) (pe_int) (fun _ _ => rfl)) (pe_non) (nomark _)) (pw_or1 (pt_cmpR Xk.op_nLtS (pv 1) (pe_ix (Xk.k_ixT (K := K) (by rfl)) (pv 3) (pe_int) (fun _ _ => rfl)) (nomark _))))))))) (pss_cons (ps_expr (pe_bm PySem.F.plainAttrs_list PySem.F.slot_list_append PySem.F.type_list_append mt_append (pv 2) (pa_cons (pe_op op_catA (pe_tup (pa_cons (pe_ix (Xk.k_ixT (K := K) (by rfl)) (pv 3) (pe_int) (fun _ _ => rfl)) (pa_cons (pv 1) pa_nil))) (pe_slice sl_tupA (pv 3) (po_some (pe_int)) po_none)) pa_nil)))
      (pss_one (ps_expr (pe_bm PySem.F.plainAttrs_list PySem.F.slot_list_append PySem.F.type_list_append mt_append (pv 2) (pa_cons (pe_op op_catA (pe_tup (pa_cons (pv 1) pa_nil)) (pe_slice sl_tupA (pv 3) (po_some (pe_int)) po_none)) pa_nil))))) (pss_one (ps_expr (pe_bm PySem.F.plainAttrs_list PySem.F.slot_list_append PySem.F.type_list_append mt_append (pv 2) (pa_cons (pv 3) pa_nil)))))))
      (pss_one (ps_ret (pv 2))))), ?_⟩
  wtm_at "x0"
  have hl0 := hL.lst
  wtm_at "xs"
  intro rp H1 hrp s1 h1
  wtm_at "xs"
  refine Xk.x_forL (xs := L.map fun e => V.ref e.1) (fun i σ' H' => ∃ (y3 : Option V) (L' : List (Addr × Br)), σ' = [some (.ref p), some (ov b), some (.ref rp), y3] ∧ Same H H' ∧ RowsAt H' rp L' ∧ L'.map (·.2) = cutL b ((L.take i).map (·.2))) (Xk.sq_of (s1 _ _ hl0))
    ⟨_, [], rfl, s1, ⟨h1, fun e z => (by cases z)⟩, by cases b <;> rfl⟩ ?_ ?_ ?_
  · rintro i σ' H' hi ⟨y3, L', rfl, s2, _⟩
    exact Xk.sq_of (s2 _ _ hl0)
  · rintro i x σ' H' hi ⟨y3, L', rfl, s2, hL', hL2⟩
    obtain ⟨⟨t, s0, eo, c, n⟩, he, rfl⟩ := Xk.of_map_at hi
    have he2 := s2 _ _ (hL.tup _ (List.mem_of_getElem? he))
    dsimp only [Br.v] at he2
    have hr3 := hL'.lst
    cases b with
    | none =>
      have hl4 : (L'.map fun e => V.ref e.1).length < 100000 := by
        have h9 := congrArg List.length hL2
        have h10 : (cutL (none : Option Str) ((L.take i).map (·.2))).length = ((L.take i).map (·.2)).length := rfl
        rw [h10, List.length_map, List.length_map, List.length_take] at h9
        rw [List.length_map]
        omega
      dsimp only [ov]
      wtm_at "xs"
      refine ⟨_, _, rfl, Xk.same_mut s2 hrp, hL'.snoc (r := (s0, eo, c, n)) (Same.refl _) he2, ?_⟩
      rw [List.map_append, hL2]
      show _ = (L.take (i + 1)).map (·.2)
      rw [List.take_add_one, he, List.map_append]
      rfl
    | some b =>
      have hL2 : L'.map (·.2) = ((L.take i).map (·.2)).flatMap (cutR b) := hL2
      have c1 := cut_next (b := b) he
      have c2 := cut_pre (b := b) (L := L) i
      have hl3 : L'.length ≤ 60 := by
        have h9 := congrArg List.length hL2
        rw [List.length_map] at h9
        have h10 : ((L.map (·.2)).flatMap (cutR b)).length ≤ L.length + 1 := hlc
        omega
      have hl4 : (L'.map fun e => V.ref e.1).length < 100000 := by rw [List.length_map]; omega
      have no : (¬ (LT.lt (Array.toList (PySem.Str.cps s0)) (Array.toList (PySem.Str.cps b))) ∨ below b eo = false) → ∃ L2, Same H (upd H' rp (.lst ((L'.map fun e => V.ref e.1) ++ [.ref t]))) ∧ RowsAt (upd H' rp (.lst ((L'.map fun e => V.ref e.1) ++ [.ref t]))) rp L2 ∧ L2.map (·.2) = ((L.take (i + 1)).map (·.2)).flatMap (cutR b) := fun z => by
        refine ⟨_, Xk.same_mut s2 hrp, hL'.snoc (r := (s0, eo, c, n)) (Same.refl _) he2, ?_⟩
        rw [c1, cut_not z, List.map_append, hL2]
        rfl
      have yes : (LT.lt (Array.toList (PySem.Str.cps s0)) (Array.toList (PySem.Str.cps b))) → below b eo = true → ∀ H3 H4 t1 t2, Same H' H3 → H3 t1 = some (.tup [.str s0, .str b, .int c, .int n]) → Same (upd H3 rp (.lst ((L'.map fun e => V.ref e.1) ++ [.ref t1]))) H4 → H4 t2 = some (.tup [.str b, ov eo, .int c, .int n]) →
          ∃ L2, Same H (upd H4 rp (.lst (((L'.map fun e => V.ref e.1) ++ [.ref t1]) ++ [.ref t2]))) ∧ RowsAt (upd H4 rp (.lst (((L'.map fun e => V.ref e.1) ++ [.ref t1]) ++ [.ref t2]))) rp L2 ∧ L2.map (·.2) = ((L.take (i + 1)).map (·.2)).flatMap (cutR b) := fun z1 z2 H3 H4 t1 t2 s3 g1 s4 g2 => by
        have a1 := hL'.snoc (r := (s0, some b, c, n)) s3 g1
        have a2 := a1.snoc (r := (b, eo, c, n)) s4 g2
        rw [List.map_append] at a2
        refine ⟨_, Xk.same_mut ((Xk.same_mut (s2.trans s3) hrp).trans s4) hrp, a2, ?_⟩
        rw [c1, cut_yes z1 z2, List.map_append, List.map_append, hL2, List.append_assoc]
        rfl
      clear c1 c2 hL2
      dsimp only [ov]
      wtm_at "xs"
      refine Xk.x_itd (fun h => ?_) (fun h => ?_)
      · cases eo with
        | none =>
          dsimp only [ov] at he2
          wtm_at "xs"
          intro t1 H3 ht1 s3 g1
          wtm_at "xs"
          refine Xk.x_slA (s3 _ _ he2) fun q1 H4 s4 g2 => ?_
          rw [Xk.cut_drop (k := 2) (n := 2) rfl] at g2
          refine Xk.x_catB (s4 _ _ g1) g2 (Nat.le_of_ble_eq_true rfl) fun t2 H5 s5 g3 => ?_
          have s35 := s3.trans (s4.trans s5)
          have hr5 := s35 _ _ hr3
          have hlt := Xk.same_mut (s2.trans s35) hrp (o := .lst ((L'.map fun e => V.ref e.1) ++ [.ref t2]))
          have he5 : upd H5 rp (.lst ((L'.map fun e => V.ref e.1) ++ [.ref t2])) t = _ := keep_tup (s35 _ _ he2) hr5
          wtm_at "xs"
          intro t3 H6 ht3 s6 g6
          wtm_at "xs"
          refine Xk.x_slA (s6 _ _ he5) fun q2 H7 s7 g7 => ?_
          rw [Xk.cut_drop (k := 1) (n := 1) rfl] at g7
          refine Xk.x_catB (s7 _ _ g6) g7 (Nat.le_of_ble_eq_true rfl) fun t4 H8 s8 g8 => ?_
          have s68 := s6.trans (s7.trans s8)
          have hr8 := s68 _ _ (upd_same (H := H5) (a := rp))
          have hl5 : ((L'.map fun e => V.ref e.1) ++ [V.ref t2]).length < 100000 := by simp only [List.length_append, List.length_map, List.length_cons, List.length_nil]; omega
          wtm_at "xs"
          obtain ⟨L2, z1, z2, z3⟩ := yes h rfl H5 H8 t2 t4 s35 g3 s68 g8
          exact ⟨_, L2, rfl, z1, z2, z3⟩
        | some u =>
          dsimp only [ov] at he2
          wtm_at "xs"
          refine Xk.x_itd (fun h5 => ?_) (fun h5 => ?_)
          · wtm_at "xs"
            intro t1 H3 ht1 s3 g1
            wtm_at "xs"
            refine Xk.x_slA (s3 _ _ he2) fun q1 H4 s4 g2 => ?_
            rw [Xk.cut_drop (k := 2) (n := 2) rfl] at g2
            refine Xk.x_catB (s4 _ _ g1) g2 (Nat.le_of_ble_eq_true rfl) fun t2 H5 s5 g3 => ?_
            have s35 := s3.trans (s4.trans s5)
            have hr5 := s35 _ _ hr3
            have hlt := Xk.same_mut (s2.trans s35) hrp (o := .lst ((L'.map fun e => V.ref e.1) ++ [.ref t2]))
            have he5 : upd H5 rp (.lst ((L'.map fun e => V.ref e.1) ++ [.ref t2])) t = _ := keep_tup (s35 _ _ he2) hr5
            wtm_at "xs"
            intro t3 H6 ht3 s6 g6
            wtm_at "xs"
            refine Xk.x_slA (s6 _ _ he5) fun q2 H7 s7 g7 => ?_
            rw [Xk.cut_drop (k := 1) (n := 1) rfl] at g7
            refine Xk.x_catB (s7 _ _ g6) g7 (Nat.le_of_ble_eq_true rfl) fun t4 H8 s8 g8 => ?_
            have s68 := s6.trans (s7.trans s8)
            have hr8 := s68 _ _ (upd_same (H := H5) (a := rp))
            have hl5 : ((L'.map fun e => V.ref e.1) ++ [V.ref t2]).length < 100000 := by simp only [List.length_append, List.length_map, List.length_cons, List.length_nil]; omega
            wtm_at "xs"
            obtain ⟨L2, z1, z2, z3⟩ := yes h (decide_eq_true h5) H5 H8 t2 t4 s35 g3 s68 g8
            exact ⟨_, L2, rfl, z1, z2, z3⟩
          · wtm_at "xs"
            obtain ⟨L2, z1, z2, z3⟩ := no (.inr (decide_eq_false h5))
            exact ⟨_, L2, rfl, z1, z2, z3⟩
      · wtm_at "xs"
        obtain ⟨L2, z1, z2, z3⟩ := no (.inl h)
        exact ⟨_, L2, rfl, z1, z2, z3⟩
  · rintro σ' H2 ⟨y3, L', rfl, s2, hL', hL2⟩
    rw [List.length_map, List.take_length] at hL2
    wtm_at "xs"
    exact q H2 rp L' s2 hrp hL' hL2
--CUT--
/-- a row behind a hint -/
def behind (hi r : Br) : Br := if (decide (r.2.2.2 < hi.2.2.2) && withinB r.1 r.2.1 hi.1 hi.2.1) = true then (r.1, r.2.1, hi.2.2) else r
def sp__row_behind (K : PySem.W.Frag) : Sp := fun vs H Q _ => ∃ a b r hi, vs = [.ref a, .ref b] ∧ H a = some (.tup (Br.v r)) ∧ H b = some (.tup (Br.v hi)) ∧
  ∀ H' q, Same H H' → H' q = some (.tup (Br.v (behind hi r))) → Q (.ref q) H'
theorem ok__row_behind (T : Txt K mg) : FnOk P w K mg base CX0 2 T.f__row_behind T.d__row_behind ["row", "hint"] (sp__row_behind K) := by
  refine T.F__row_behind.ok sc__row_behind (fun vs H Q E h => ?_) (fun cdv A outer s H vs Q E hr h => ?_)
  · obtain ⟨a, b, r, hi, rfl, _⟩ := h
    rfl
  obtain ⟨a, b, ⟨s0, eo, c, n⟩, ⟨lo, ho, tc, tn⟩, rfl, h1, h2, q⟩ := h
  refine ⟨_, (pss_cons (ps_asg (pv 0) (pg_tup rfl (pgs_cons (pg_name (i := 2) sc__row_behind.nd rfl (Or.inl rfl)) (pgs_cons (pg_name (i := 3) sc__row_behind.nd rfl (Or.inl rfl)) (pgs_cons (pg_name (i := 4) sc__row_behind.nd rfl (Or.inl rfl)) (pgs_cons (pg_name (i := 5) sc__row_behind.nd rfl (Or.inl rfl)) pgs_nil))))))
      (pss_cons (ps_asg (pv 1) (pg_tup rfl (pgs_cons (pg_name (i := 6) sc__row_behind.nd rfl (Or.inl rfl)) (pgs_cons (pg_name (i := 7) sc__row_behind.nd rfl (Or.inl rfl)) (pgs_cons (pg_name (i := 8) sc__row_behind.nd rfl (Or.inl rfl)) (pgs_cons (pg_name (i := 9) sc__row_behind.nd rfl (Or.inl rfl)) pgs_nil))))))
      (Evl.pss_cut (ps_if (PW.pt (pw_and (pt_cmpR op_lt (pv 5) (pv 9) (nomark _)) (pw_and1 (pt_val (pe_call (ok_is_within T) (hr.mono (by decide)) (by rfl) T.g_is_within T.F_is_within.kp T.b_is_within .nil pass0 (pa_cons (pv 2) (pa_cons (pv 3) (pa_cons (pv 6) (pa_cons (pv 7) pa_nil))))))))) (pss_one (ps_ret (pe_tup (pa_cons (pv 2) (pa_cons (pv 3) (pa_cons (pv 8) (pa_cons (pv 9) pa_nil))))))) pss_nil)
      (pss_one (ps_ret (pv 0)))))), ?_⟩
  dsimp only [Br.v] at h1 h2
  wtm_at "x0"
  wtm_at "xs"
  refine Xk.x_nocut ?_
  wtm_at "xs"
  have yes : n < tn → withinB s0 eo lo ho = true → ∀ H3 q2, Same H H3 → H3 q2 = some (.tup [.str s0, ov eo, .int tc, .int tn]) → Q (.ref q2) H3 := fun z1 z2 H3 q2 s3 g => q H3 q2 s3 (by
    have e : behind (lo, ho, tc, tn) (s0, eo, c, n) = (s0, eo, tc, tn) := if_pos (by show (decide (n < tn) && withinB s0 eo lo ho) = true; rw [decide_eq_true z1, z2]; rfl)
    rw [e]
    exact g)
  have no : (¬ n < tn ∨ withinB s0 eo lo ho = false) → ∀ H3, Same H H3 → Q (.ref a) H3 := fun z H3 s3 => q H3 a s3 (by
    have e : behind (lo, ho, tc, tn) (s0, eo, c, n) = (s0, eo, c, n) := if_neg (by
      show ¬ (decide (n < tn) && withinB s0 eo lo ho) = true
      rcases z with z | z
      · rw [decide_eq_false z, Bool.false_and]
        decide
      · rw [z, Bool.and_false]
        decide)
    rw [e]
    exact s3 _ _ h1)
  refine Xk.x_itd (fun h => ?_) (fun h => ?_)
  · wtm_at "xs"
    refine ⟨s0, lo, eo, ho, rfl, ?_⟩
    wtm_at "xs"
    refine Xk.x_itb (b := withinB s0 eo lo ho) (fun hw => ?_) (fun hw => ?_)
    · wtm_at "xs"
      intro q2 H3 hq s3 g
      exact yes h hw H3 q2 s3 g
    · wtm_at "xs"
      exact no (.inr hw) _ (Same.refl _)
  · wtm_at "xs"
    exact no (.inl h) _ (Same.refl _)
def sp_learned (K : PySem.W.Frag) : Sp := fun vs H Q _ => ∃ p b L hi, vs = [.ref p, .ref b] ∧ RowsAt H p L ∧ H b = some (.tup (Br.v hi)) ∧ L.length ≤ 40 ∧ Ch "" (L.map (·.2)) ∧
  ∀ H' q L', Same H H' → Xk.Fr q H → RowsAt H' q L' → L'.map (·.2) = (cutL hi.2.1 (cutL (some hi.1) (L.map (·.2)))).map (behind hi) → Q (.ref q) H'
theorem ok_learned (T : Txt K mg) : FnOk P w K mg base CX0 3 T.f_learned T.d_learned ["beliefs", "hint"] (sp_learned K) := by
  refine T.F_learned.ok sc_learned (fun vs H Q E h => ?_) (fun cdv A outer s H vs Q E hr h => ?_)
  · obtain ⟨p, b, L, hi, rfl, _⟩ := h
    rfl
  obtain ⟨p, b, L, ⟨lo, ho, tc, tn⟩, rfl, hL, hb, hl, hc, q⟩ := h
  refine ⟨_, (pss_cons (ps_par (i := 2) (j := 3) (by rfl) sc_learned.nd rfl rfl (by decide) rfl rfl (pa_cons (pe_ix (Xk.k_ixT (K := K) (by rfl)) (pv 1) (pe_int) (fun _ _ => rfl)) (pa_cons (pe_ix (Xk.k_ixT (K := K) (by rfl)) (pv 1) (pe_int) (fun _ _ => rfl)) pa_nil)) (by rfl))
      (pss_one (ps_ret (pe_lc (own := [("row", 4)]) (g := gName 4) (tt := tYes) rfl sc_learned.nd  (pi_list (pe_call (ok__cut T) (hr.mono (by decide)) (by rfl) T.g__cut T.F__cut.kp T.b__cut .nil pass0 (pa_cons (pe_call (ok__cut T) (hr.mono (by decide)) (by rfl) T.g__cut T.F__cut.kp T.b__cut .nil pass0 (pa_cons (pv 0) (pa_cons (pv 2) pa_nil))) (pa_cons (pv 3) pa_nil)))) (blkOk_by (N := N_learned) (sc := defScope s_learned) (own := [("row", 4)]) (by decide +kernel)) (fun _ _ _ _ _ => pg_name (i := 4) sc_learned.nd rfl (Or.inl rfl)) (fun _ _ _ _ _ => pts_nil) (fun _ _ _ _ _ => (pe_call (ok__row_behind T) (hr.mono (by decide)) (by rfl) T.g__row_behind T.F__row_behind.kp T.b__row_behind .nil pass0 (pa_cons (pv 4) (pa_cons (pv 1) pa_nil)))))))), ?_⟩
  dsimp only [Br.v] at hb
  wtm_at "x0"
  wtm_at "xs"
  have c1 := cutL_ok (some lo) hc
  refine ⟨p, L, some lo, rfl, hL, by omega, by rw [List.length_map] at c1; exact c1.2, fun H2 q1 L1 s2 hq1 g1 e1 => ?_⟩
  wtm_at "xs"
  have l1 : L1.length ≤ L.length + 1 := by
    have z := c1.2
    rw [← e1, List.length_map, List.length_map] at z
    exact z
  have c2 := cutL_ok ho (by rw [← e1] at c1; exact c1.1)
  refine ⟨q1, L1, ho, rfl, g1, by omega, by rw [List.length_map] at c2; exact c2.2, fun H3 q2 L2 s3 hq2 g2 e2 => ?_⟩
  wtm_at "xs"
  have l2 : L2.length ≤ L1.length + 1 := by
    have z := c2.2
    rw [← e2, List.length_map, List.length_map] at z
    exact z
  have s13 := s2.trans s3
  refine Xk.x_lcL (xs := L2.map fun e => V.ref e.1) (fun Dl i H' => Same H3 H' ∧ ∃ L', RowsAt H' Dl L' ∧ L'.map (·.2) = ((L2.take i).map (·.2)).map (behind (lo, ho, tc, tn))) (Xk.sq_of g2.lst) ?_ ?_ ?_ ?_
  · intro Dl hD
    exact ⟨Xk.same_fr hD, [], ⟨upd_same, fun e z => (by cases z)⟩, rfl⟩
  · rintro Dl i H' hD ⟨s4, _⟩
    exact Xk.sq_of (s4 _ _ g2.lst)
  · rintro Dl hD i x H' hi ⟨s4, L', hL', e3⟩
    obtain ⟨e, he, rfl⟩ := Xk.of_map_at hi
    wtm_at "xs"
    refine ⟨rfl, ?_⟩
    wtm_at "xs"
    refine ⟨e.1, b, e.2, (lo, ho, tc, tn), rfl, s4 _ _ (g2.tup e (List.mem_of_getElem? he)), (s13.trans s4) _ _ hb, fun H5 q5 s5 g5 => ?_⟩
    have l3 : L'.length ≤ L2.length := by
      have z := congrArg List.length e3
      simp only [List.length_map, List.length_take] at z
      omega
    refine ⟨_, s5 _ _ hL'.lst, Xk.size_lt (by rw [List.length_map]; omega), Xk.same_mut (s4.trans s5) hD, _, hL'.snoc s5 g5, ?_⟩
    rw [List.map_append, e3, List.take_add_one, he, List.map_append, List.map_append]
    rfl
  · rintro Dl H4 hD ⟨s4, L', hL', e3⟩
    rw [List.length_map, List.take_length] at e3
    refine q H4 Dl L' (s13.trans s4) (Xk.free_back hD s13) hL' ?_
    rw [e3, e2, e1]
--CUT--
theorem within_eq {s lo : Str} {e ho : Option Str} (hw : ∀ t, e = some t → (LT.lt (Array.toList (PySem.Str.cps s)) (Array.toList (PySem.Str.cps t)))) (hn : ∀ h, ho = some h → (decide ((LT.lt (Array.toList (PySem.Str.cps s)) (Array.toList (PySem.Str.cps h)))) && below h e) = false) : withinB s e lo ho = (!decide ((LT.lt (Array.toList (PySem.Str.cps s)) (Array.toList (PySem.Str.cps lo)))) && below s ho) := by
  unfold withinB
  cases ho with
  | none => rfl
  | some h =>
    have h1 := hn h rfl
    cases e with
    | none =>
      have h2 : decide ((LT.lt (Array.toList (PySem.Str.cps s)) (Array.toList (PySem.Str.cps h)))) = false := by rw [← h1]; exact (Bool.and_true _).symm
      show (_ && false) = (_ && decide ((LT.lt (Array.toList (PySem.Str.cps s)) (Array.toList (PySem.Str.cps h)))))
      rw [h2]
    | some t =>
      show (_ && !decide ((LT.lt (Array.toList (PySem.Str.cps h)) (Array.toList (PySem.Str.cps t))))) = (_ && decide ((LT.lt (Array.toList (PySem.Str.cps s)) (Array.toList (PySem.Str.cps h)))))
      by_cases c : (LT.lt (Array.toList (PySem.Str.cps s)) (Array.toList (PySem.Str.cps h)))
      · have h2 : decide ((LT.lt (Array.toList (PySem.Str.cps h)) (Array.toList (PySem.Str.cps t)))) = false := by
          have h3 : (decide ((LT.lt (Array.toList (PySem.Str.cps s)) (Array.toList (PySem.Str.cps h)))) && decide ((LT.lt (Array.toList (PySem.Str.cps h)) (Array.toList (PySem.Str.cps t))))) = false := h1
          rw [decide_eq_true c] at h3
          exact h3
        rw [h2, decide_eq_true c]
        rfl
      · have h2 : (LT.lt (Array.toList (PySem.Str.cps h)) (Array.toList (PySem.Str.cps t))) := nl_lt c (hw t rfl)
        rw [decide_eq_true h2, decide_eq_false c]
        rfl
/-- rows that do not go over a bound -/
theorem cut_rows {lo : Str} {ho : Option Str} {l : List Br} (hc : Ch "" l) : ∀ r ∈ cutL ho (cutL (some lo) l), withinB r.1 r.2.1 lo ho = (!decide ((LT.lt (Array.toList (PySem.Str.cps r.1)) (Array.toList (PySem.Str.cps lo)))) && below r.1 ho) := by
  intro r hr
  have c1 := (cutL_ok (some lo) hc).1
  have c2 := (cutL_ok ho c1).1
  refine within_eq (c2.wf r hr) fun h e => ?_
  subst e
  exact cut_no hr
theorem but_tup {H H' : Hp} {r a : Addr} {xs ys : List V} (b : Xk.But r H H') (hr : H r = some (.lst ys)) (h : H a = some (.tup xs)) : H' a = some (.tup xs) :=
  b _ _ (fun z => by subst z; rw [hr] at h; cases h) h
def sp__law_learned (K : PySem.W.Frag) : Sp := fun vs H Q _ => ∃ p b L hi, vs = [.ref p, .ref b] ∧ RowsAt H p L ∧ H b = some (.tup (Br.v hi)) ∧ L.length ≤ 40 ∧ Ch "" (L.map (·.2)) ∧
  ∀ H' q L', Same H H' → Xk.Fr q H → RowsAt H' q L' → L'.map (·.2) = (cutL hi.2.1 (cutL (some hi.1) (L.map (·.2)))).map (behind hi) → Q (.ref q) H'
theorem ok__law_learned (T : Txt K mg) : FnOk P w K mg base CX0 2 T.f__law_learned T.d__law_learned ["rows", "hint"] (sp__law_learned K) := by
  refine T.F__law_learned.ok sc__law_learned (fun vs H Q E h => ?_) (fun cdv A outer s H vs Q E hr h => ?_)
  · obtain ⟨p, b, L, hi, rfl, _⟩ := h
    rfl
  obtain ⟨p, b, L, ⟨lo, ho, tc, tn⟩, rfl, hL, hb, hl, hc, q⟩ := h
  refine ⟨_, (pss_cons (ps_set (i := 2) sc__law_learned.nd rfl (Or.inl rfl) (pe_lst pa_nil))
      (pss_cons (ps_for PassesOwn.never rfl (pi_list (pe_call (ok__law_cut T) (hr.mono (by decide)) (by rfl) T.g__law_cut T.F__law_cut.kp T.b__law_cut .nil pass0 (pa_cons (pe_call (ok__law_cut T) (hr.mono (by decide)) (by rfl) T.g__law_cut T.F__law_cut.kp T.b__law_cut .nil pass0 (pa_cons (pv 0) (pa_cons (pe_ix (Xk.k_ixT (K := K) (by rfl)) (pv 1) (pe_int) (fun _ _ => rfl)) pa_nil))) (pa_cons (pe_ix (Xk.k_ixT (K := K) (by rfl)) (pv 1) (pe_int) (fun _ _ => rfl)) pa_nil)))) (pg_name (i := 3) sc__law_learned.nd rfl (Or.inl rfl)) (pss_cons (ps_set (i := 4) sc__law_learned.nd rfl (Or.inl rfl) ((pe_and (pe_cmpR Xk.op_nLeS (pe_ix (Xk.k_ixT (K := K) (by rfl)) (pv 1) (pe_int) (fun _ _ => rfl)) (pe_ix (Xk.k_ixT (K := K) (by rfl)) (pv 3) (pe_int) (fun _ _ => rfl)) (nomark _)) (pe_one ((pe_or (pe_cmpR Xk.op_nIsN (pe_ix (Xk.k_ixT (K := K) (by rfl)) (pv 1) (pe_int) (fun _ _ => rfl)) (pe_non) (nomark _)) (pe_one (pe_cmpR Xk.op_nLtS (pe_ix (Xk.k_ixT (K := K) (by rfl)) (pv 3) (pe_int) (fun _ _ => rfl)) (pe_ix (Xk.k_ixT (K := K) (by rfl)) (pv 1) (pe_int) (fun _ _ => rfl)) (nomark _)))))))))
      (Evl.pss_cut (ps_if (PW.pt (pw_and (pt_val (pv 4)) (pw_and1 (pt_cmpR op_lt (pe_ix (Xk.k_ixT (K := K) (by rfl)) (pv 3) (pe_int) (fun _ _ => rfl)) (pe_ix (Xk.k_ixT (K := K) (by rfl)) (pv 1) (pe_int) (fun _ _ => rfl)) (nomark _))))) (pss_one (ps_set (i := 3) sc__law_learned.nd rfl (Or.inl rfl) (pe_op op_catA (pe_slice sl_tupA (pv 3) po_none (po_some (pe_int))) (pe_slice sl_tupA (pv 1) (po_some (pe_int)) po_none)))) pss_nil)
      (pss_one (ps_expr (pe_bm PySem.F.plainAttrs_list PySem.F.slot_list_append PySem.F.type_list_append mt_append (pv 2) (pa_cons (pv 3) pa_nil)))))))
      (pss_one (ps_ret (pv 2))))), ?_⟩
  dsimp only [Br.v] at hb
  wtm_at "x0"
  wtm_at "xs"
  intro rp H1 hrp s1 hr1
  have hb1 := s1 _ _ hb
  wtm_at "xs"
  have c1 := cutL_ok (some lo) hc
  refine ⟨p, L, some lo, rfl, hL.same s1, by omega, by rw [List.length_map] at c1; exact c1.2, fun H2 q1 L1 s2 hq1 g1 e1 => ?_⟩
  have hb2 := s2 _ _ hb1
  wtm_at "xs"
  have l1 : L1.length ≤ L.length + 1 := by
    have z := c1.2
    rw [← e1, List.length_map, List.length_map] at z
    exact z
  have c2 := cutL_ok ho (by rw [← e1] at c1; exact c1.1)
  refine ⟨q1, L1, ho, rfl, g1, by omega, by rw [List.length_map] at c2; exact c2.2, fun H3 q2 L2 s3 hq2 g2 e2 => ?_⟩
  wtm_at "xs"
  have l2 : L2.length ≤ L1.length + 1 := by
    have z := c2.2
    rw [← e2, List.length_map, List.length_map] at z
    exact z
  have s03 := s1.trans (s2.trans s3)
  have hr3 := (s2.trans s3) _ _ hr1
  have nq : q2 ≠ rp := (Xk.ne_new hq2 (s2 _ _ hr1)).symm
  have hcut := cut_rows (lo := lo) (ho := ho) hc
  rw [← e1, ← e2] at hcut
  refine Xk.x_forL (xs := L2.map fun e => V.ref e.1) (fun i σ' H' => ∃ (y3 y4 : Option V) (L' : List (Addr × Br)), σ' = [some (.ref p), some (.ref b), some (.ref rp), y3, y4] ∧ Same H H' ∧ Xk.But rp H3 H' ∧ RowsAt H' rp L' ∧ L'.map (·.2) = ((L2.take i).map (·.2)).map (behind (lo, ho, tc, tn))) (Xk.sq_of g2.lst)
    ⟨_, _, [], rfl, s03, Xk.But.refl _ _, ⟨hr3, fun e z => (by cases z)⟩, rfl⟩ ?_ ?_ ?_
  · rintro i σ' H' hi ⟨y3, y4, L', rfl, s4, s5, _⟩
    exact Xk.sq_of (s5 _ _ nq g2.lst)
  · rintro i x σ' H' hi ⟨y3, y4, L', rfl, s4, s5, hL', e3⟩
    obtain ⟨⟨t, s0, eo, c, n⟩, he, rfl⟩ := Xk.of_map_at hi
    have he2 := but_tup s5 hr3 (g2.tup _ (List.mem_of_getElem? he))
    have hb4 := s4 _ _ hb
    have hw : withinB s0 eo lo ho = (!decide ((LT.lt (Array.toList (PySem.Str.cps s0)) (Array.toList (PySem.Str.cps lo)))) && below s0 ho) := hcut _ (List.mem_map.mpr ⟨_, List.mem_of_getElem? he, rfl⟩)
    dsimp only [Br.v] at he2
    have l3 : L'.length ≤ L2.length := by
      have z := congrArg List.length e3
      simp only [List.length_map, List.length_take] at z
      omega
    have l4 : (L'.map fun e => V.ref e.1).length < 100000 := by rw [List.length_map]; omega
    have hr5 := hL'.lst
    have fin : ∀ H5 t5 r5, Same H' H5 → H5 t5 = some (.tup (Br.v r5)) → behind (lo, ho, tc, tn) (s0, eo, c, n) = r5 → ∃ L5, Same H (upd H5 rp (.lst ((L'.map fun e => V.ref e.1) ++ [.ref t5]))) ∧ Xk.But rp H3 (upd H5 rp (.lst ((L'.map fun e => V.ref e.1) ++ [.ref t5]))) ∧ RowsAt (upd H5 rp (.lst ((L'.map fun e => V.ref e.1) ++ [.ref t5]))) rp L5 ∧ L5.map (·.2) = ((L2.take (i + 1)).map (·.2)).map (behind (lo, ho, tc, tn)) := fun H5 t5 r5 s6 g e => by
      refine ⟨_, Xk.same_mut (s4.trans s6) hrp, Xk.but_mut (Xk.but_trans s5 (Xk.but_same s6)), hL'.snoc s6 g, ?_⟩
      rw [List.map_append, e3, List.take_add_one, he, List.map_append, List.map_append, ← e]
      rfl
    have bY : withinB s0 eo lo ho = true → n < tn → behind (lo, ho, tc, tn) (s0, eo, c, n) = (s0, eo, tc, tn) := fun z1 z2 => if_pos (by show (decide (n < tn) && withinB s0 eo lo ho) = true; rw [decide_eq_true z2, z1]; rfl)
    have bN : (withinB s0 eo lo ho = false ∨ ¬ n < tn) → behind (lo, ho, tc, tn) (s0, eo, c, n) = (s0, eo, c, n) := fun z => if_neg (by
      show ¬ (decide (n < tn) && withinB s0 eo lo ho) = true
      rcases z with z | z
      · rw [z, Bool.and_false]
        decide
      · rw [decide_eq_false z, Bool.false_and]
        decide)
    by_cases h : (LT.lt (Array.toList (PySem.Str.cps s0)) (Array.toList (PySem.Str.cps lo)))
    · rw [decide_eq_true h] at hw
      replace hw : withinB s0 eo lo ho = false := hw
      wtm_at "xs"
      refine Xk.x_nocut ?_
      wtm_at "xs"
      obtain ⟨L5, z1, z2, z3, z4⟩ := fin H' t (s0, eo, c, n) (Same.refl _) he2 (bN (.inl hw))
      exact ⟨_, _, L5, rfl, z1, z2, z3, z4⟩
    · rw [decide_eq_false h] at hw
      cases ho with
      | none =>
        replace hw : withinB s0 eo lo none = true := hw
        dsimp only [ov] at hb4
        wtm_at "xs"
        refine Xk.x_nocut ?_
        wtm_at "xs"
        refine Xk.x_itd (fun hn => ?_) (fun hn => ?_)
        · wtm_at "xs"
          refine Xk.x_slA he2 fun p1 H5 u5 g5 => ?_
          rw [Xk.cut_take (k := 2) (n := 2) rfl] at g5
          wtm_at "xs"
          refine Xk.x_slA (u5 _ _ hb4) fun p2 H6 u6 g6 => ?_
          rw [Xk.cut_drop (k := 2) (n := 2) rfl] at g6
          refine Xk.x_catB (u6 _ _ g5) g6 (Nat.le_of_ble_eq_true rfl) fun p3 H7 u7 g7 => ?_
          have u57 := u5.trans (u6.trans u7)
          have hr6 := u57 _ _ hr5
          wtm_at "xs"
          obtain ⟨L5, z1, z2, z3, z4⟩ := fin H7 p3 (s0, eo, tc, tn) u57 g7 (bY hw hn)
          exact ⟨_, _, L5, rfl, z1, z2, z3, z4⟩
        · wtm_at "xs"
          obtain ⟨L5, z1, z2, z3, z4⟩ := fin H' t (s0, eo, c, n) (Same.refl _) he2 (bN (.inr hn))
          exact ⟨_, _, L5, rfl, z1, z2, z3, z4⟩
      | some u =>
        replace hw : withinB s0 eo lo (some u) = decide ((LT.lt (Array.toList (PySem.Str.cps s0)) (Array.toList (PySem.Str.cps u)))) := hw
        dsimp only [ov] at hb4
        by_cases h5 : (LT.lt (Array.toList (PySem.Str.cps s0)) (Array.toList (PySem.Str.cps u)))
        · rw [decide_eq_true h5] at hw
          wtm_at "xs"
          refine Xk.x_nocut ?_
          wtm_at "xs"
          refine Xk.x_itd (fun hn => ?_) (fun hn => ?_)
          · wtm_at "xs"
            refine Xk.x_slA he2 fun p1 H5 u5 g5 => ?_
            rw [Xk.cut_take (k := 2) (n := 2) rfl] at g5
            wtm_at "xs"
            refine Xk.x_slA (u5 _ _ hb4) fun p2 H6 u6 g6 => ?_
            rw [Xk.cut_drop (k := 2) (n := 2) rfl] at g6
            refine Xk.x_catB (u6 _ _ g5) g6 (Nat.le_of_ble_eq_true rfl) fun p3 H7 u7 g7 => ?_
            have u57 := u5.trans (u6.trans u7)
            have hr6 := u57 _ _ hr5
            wtm_at "xs"
            obtain ⟨L5, z1, z2, z3, z4⟩ := fin H7 p3 (s0, eo, tc, tn) u57 g7 (bY hw hn)
            exact ⟨_, _, L5, rfl, z1, z2, z3, z4⟩
          · wtm_at "xs"
            obtain ⟨L5, z1, z2, z3, z4⟩ := fin H' t (s0, eo, c, n) (Same.refl _) he2 (bN (.inr hn))
            exact ⟨_, _, L5, rfl, z1, z2, z3, z4⟩
        · rw [decide_eq_false h5] at hw
          wtm_at "xs"
          refine Xk.x_nocut ?_
          wtm_at "xs"
          obtain ⟨L5, z1, z2, z3, z4⟩ := fin H' t (s0, eo, c, n) (Same.refl _) he2 (bN (.inl hw))
          exact ⟨_, _, L5, rfl, z1, z2, z3, z4⟩
  · rintro σ' H4 ⟨y3, y4, L', rfl, s4, s5, hL', e3⟩
    rw [List.length_map, List.take_length] at e3
    wtm_at "xs"
    refine q H4 rp L' s4 hrp hL' ?_
    rw [e3, e2, e1]
--CUT--
theorem sign_ok {z : Str} {i c : Nat} (h : z.cps.toList.all Xk.okC = true) (e : z.cps.toList[i]? = some c) : Xk.AllC Xk.okC ⟨#[c]⟩ = true := by
  have h1 := List.all_eq_true.mp h c (List.mem_of_getElem? e)
  show List.all [c] _ = true
  rw [List.all_cons, h1]
  rfl
theorem RowsAt.but {H H' : Hp} {p a : Addr} {L : List (Addr × Br)} {ys : List V} (h : RowsAt H p L) (b : Xk.But a H H') (ha : H a = some (.lst ys)) (n : p ≠ a) : RowsAt H' p L := ⟨b _ _ n h.lst, fun e he => but_tup b ha (h.tup e he)⟩
def sp__law_hint (K : PySem.W.Frag) : Sp := fun vs H Q _ => ∃ a b n L, vs = [.ref a, .ref b] ∧ H a = some (.lst [.int n]) ∧ RowsAt H b L ∧ b ≠ a ∧ 1 ≤ L.length ∧ L.length ≤ 50 ∧ (∀ e ∈ L, e.2.ok) ∧
  ∀ H' q hi m, Xk.But a H H' → H' a = some (.lst [.int m]) → H' q = some (.tup (Br.v hi)) → hi.ok → Q (.ref q) H'
theorem ok__law_hint (T : Txt K mg) : FnOk P w K mg base CX0 3 T.f__law_hint T.d__law_hint ["box", "rows"] (sp__law_hint K) := by
  refine T.F__law_hint.ok sc__law_hint (fun vs H Q E h => ?_) (fun cdv A outer s H vs Q E hr h => ?_)
  · obtain ⟨a, b, n, L, rfl, _⟩ := h
    rfl
  obtain ⟨a, b, n, L, rfl, ha, hL, nba, hl1, hl2, hok, q⟩ := h
  refine ⟨_, (pss_cons (ps_set (i := 2) sc__law_hint.nd rfl (Or.inl rfl) (pe_ix (Xk.k_ixL (K := K) (by rfl)) (pe_lst (pa_cons (pe_str) (pa_cons (pe_ix (Xk.k_ixT (K := K) (by rfl)) (pe_ix (Xk.k_ixL (K := K) (by rfl)) (pv 1) (pe_call (ok__law_take T) (hr.mono (by decide)) (by rfl) T.g__law_take T.F__law_take.kp T.b__law_take .nil pass0 (pa_cons (pv 0) (pa_cons (pe_callB (Xk.k_len (K := K) (by rfl)) (by rfl) T.m_len PySem.boot_len (pa_cons (pv 1) pa_nil)) pa_nil))) (fun _ _ => rfl)) (pe_int) (fun _ _ => rfl)) (pa_cons (pe_call (ok__law_key T) (hr.mono (by decide)) (by rfl) T.g__law_key T.F__law_key.kp T.b__law_key .nil pass0 (pa_cons (pv 0) (pa_cons (pe_ix ix_str (pe_str) (pe_call (ok__law_take T) (hr.mono (by decide)) (by rfl) T.g__law_take T.F__law_take.kp T.b__law_take .nil pass0 (pa_cons (pv 0) (pa_cons (pe_int) pa_nil))) (fun _ _ => rfl)) pa_nil))) pa_nil)))) (pe_call (ok__law_take T) (hr.mono (by decide)) (by rfl) T.g__law_take T.F__law_take.kp T.b__law_take .nil pass0 (pa_cons (pv 0) (pa_cons (pe_int) pa_nil))) (fun _ _ => rfl)))
      (pss_cons (ps_set (i := 3) sc__law_hint.nd rfl (Or.inl rfl) (pe_ix (Xk.k_ixL (K := K) (by rfl)) (pe_lst (pa_cons (pe_non) (pa_cons (pe_ix (Xk.k_ixT (K := K) (by rfl)) (pe_ix (Xk.k_ixL (K := K) (by rfl)) (pv 1) (pe_call (ok__law_take T) (hr.mono (by decide)) (by rfl) T.g__law_take T.F__law_take.kp T.b__law_take .nil pass0 (pa_cons (pv 0) (pa_cons (pe_callB (Xk.k_len (K := K) (by rfl)) (by rfl) T.m_len PySem.boot_len (pa_cons (pv 1) pa_nil)) pa_nil))) (fun _ _ => rfl)) (pe_int) (fun _ _ => rfl)) (pa_cons (pe_call (ok__law_key T) (hr.mono (by decide)) (by rfl) T.g__law_key T.F__law_key.kp T.b__law_key .nil pass0 (pa_cons (pv 0) (pa_cons (pe_ix ix_str (pe_str) (pe_call (ok__law_take T) (hr.mono (by decide)) (by rfl) T.g__law_take T.F__law_take.kp T.b__law_take .nil pass0 (pa_cons (pv 0) (pa_cons (pe_int) pa_nil))) (fun _ _ => rfl)) pa_nil))) pa_nil)))) (pe_call (ok__law_take T) (hr.mono (by decide)) (by rfl) T.g__law_take T.F__law_take.kp T.b__law_take .nil pass0 (pa_cons (pv 0) (pa_cons (pe_int) pa_nil))) (fun _ _ => rfl)))
      (Evl.pss_cut (ps_if (PW.pt (pw_and (pt_cmpR Xk.op_nNotN (pv 3) (pe_non) (nomark _)) (pw_and1 (pt_cmpR Xk.op_nGeS (pv 2) (pv 3) (nomark _))))) (pss_one (ps_set (i := 3) sc__law_hint.nd rfl (Or.inl rfl) (pe_non))) pss_nil)
      (pss_one (ps_ret (pe_tup (pa_cons (pv 2) (pa_cons (pv 3) (pa_cons (pe_op op_add (pe_int) (pe_call (ok__law_take T) (hr.mono (by decide)) (by rfl) T.g__law_take T.F__law_take.kp T.b__law_take .nil pass0 (pa_cons (pv 0) (pa_cons (pe_int) pa_nil)))) (pa_cons (pe_op op_add (pe_int) (pe_call (ok__law_take T) (hr.mono (by decide)) (by rfl) T.g__law_take T.F__law_take.kp T.b__law_take .nil pass0 (pa_cons (pv 0) (pa_cons (pe_int) pa_nil)))) pa_nil)))))))))), ?_⟩
  wtm_at "x0"
  have hl0 := hL.lst
  wtm_at "xs"
  rw [List.length_map]
  refine draw ha ⟨by omega, by omega⟩ fun j1 m1 H1 hj1 b1 ha1 => ?_
  obtain ⟨e1, he1⟩ := Xk.lt_at (xs := L) (j := j1) (by omega)
  have ok1 := hok e1 (List.mem_of_getElem? he1)
  have hl1' := b1 _ _ nba hl0
  have ht1 := but_tup b1 ha (hL.tup e1 (List.mem_of_getElem? he1))
  dsimp only [Br.v] at ht1
  wtm_at "xs"
  refine draw ha1 ⟨by omega, by omega⟩ fun j2 m2 H2 hj2 b2 ha2 => ?_
  obtain ⟨c2, hc2⟩ := Xk.lt_at (xs := ("ch5" : Str).cps.toList) (j := j2) (by show j2 < 3; omega)
  refine Xk.x_ixS (by decide) (Xk.at_nat rfl hc2) ?_
  wtm_at "xs"
  refine ⟨a, m2, _, rfl, ha2, Nat.le_refl _, sign_ok (by decide) hc2, fun H3 m3 s3 b3 ha3 hs3 => ?_⟩
  wtm_at "xs"
  intro lp H4 hlp s4 h4
  have ha4 := s4 _ _ ha3
  have nlp : lp ≠ a := (Xk.ne_new hlp ha3).symm
  have b04 := Xk.but_trans b1 (Xk.but_trans b2 (Xk.but_trans b3 (Xk.but_same s4)))
  wtm_at "xs"
  refine draw ha4 ⟨by omega, by omega⟩ fun j5 m5 H5 hj5 b5 ha5 => ?_
  obtain ⟨x5, hx5⟩ := Xk.lt_at (xs := [V.str "", V.str e1.2.1, V.str s3]) (j := j5) (by simp only [List.length_cons, List.length_nil]; omega)
  refine Xk.x_ixL (Xk.sq_of (b5 _ _ nlp h4)) (Xk.at_nat rfl hx5) ?_
  obtain ⟨st, rfl, hst⟩ : ∃ st, x5 = V.str st ∧ Ok st := by
    have hm := List.mem_of_getElem? hx5
    simp only [List.mem_cons, List.not_mem_nil, or_false] at hm
    rcases hm with rfl | rfl | rfl
    · exact ⟨_, rfl, Nat.zero_le _, rfl⟩
    · exact ⟨_, rfl, ok1.1⟩
    · exact ⟨_, rfl, hs3⟩
  have b05 := Xk.but_trans b04 b5
  clear b04 b1 b2 b3 s4 b5 h4 hx5 ha1 ha2 ha3 ha4 hl1' ht1 hlp
  have hl5 := b05 _ _ nba hl0
  wtm_at "xs"
  rw [List.length_map]
  refine draw ha5 ⟨by omega, by omega⟩ fun j1 m1 H1 hj1 b1 ha1 => ?_
  obtain ⟨f1, hf1⟩ := Xk.lt_at (xs := L) (j := j1) (by omega)
  have ok2 := hok f1 (List.mem_of_getElem? hf1)
  have b01 := Xk.but_trans b05 b1
  have hl1' := b01 _ _ nba hl0
  have ht1 := but_tup b01 ha (hL.tup f1 (List.mem_of_getElem? hf1))
  dsimp only [Br.v] at ht1
  wtm_at "xs"
  refine draw ha1 ⟨by omega, by omega⟩ fun j2 m2 H2 hj2 b2 ha2 => ?_
  obtain ⟨d2, hd2⟩ := Xk.lt_at (xs := ("nx8" : Str).cps.toList) (j := j2) (by show j2 < 3; omega)
  refine Xk.x_ixS (by decide) (Xk.at_nat rfl hd2) ?_
  wtm_at "xs"
  refine ⟨a, m2, _, rfl, ha2, Nat.le_refl _, sign_ok (by decide) hd2, fun H3 m3 u3 b3 ha3 hu3 => ?_⟩
  wtm_at "xs"
  intro lq H4 hlq s4 h4
  have ha4 := s4 _ _ ha3
  have nlq : lq ≠ a := (Xk.ne_new hlq ha3).symm
  have b04 := Xk.but_trans b01 (Xk.but_trans b2 (Xk.but_trans b3 (Xk.but_same s4)))
  wtm_at "xs"
  refine draw ha4 ⟨by omega, by omega⟩ fun j6 m6 H6 hj6 b6 ha6 => ?_
  obtain ⟨x6, hx6⟩ := Xk.lt_at (xs := [V.non, ov f1.2.2.1, V.str u3]) (j := j6) (by simp only [List.length_cons, List.length_nil]; omega)
  refine Xk.x_ixL (Xk.sq_of (b6 _ _ nlq h4)) (Xk.at_nat rfl hx6) ?_
  obtain ⟨en, rfl, hen⟩ : ∃ en, x6 = ov en ∧ ∀ z, en = some z → Ok z := by
    have hm := List.mem_of_getElem? hx6
    simp only [List.mem_cons, List.not_mem_nil, or_false] at hm
    rcases hm with rfl | rfl | rfl
    · exact ⟨none, rfl, fun z e => by cases e⟩
    · exact ⟨_, rfl, ok2.2⟩
    · exact ⟨some u3, rfl, fun z e => by cases e; exact hu3⟩
  have b06 := Xk.but_trans b04 b6
  clear b04 b01 b05 b1 b2 b3 s4 b6 h4 hx6 ha1 ha2 ha3 ha4 hl1' ht1 hlq hl5 ha5
  refine Xk.x_cut (fun σ' H' => H6 = H' ∧ ∃ en, (∀ z, en = some z → Ok z) ∧ σ' = [some (.ref a), some (.ref b), some (.str st), some (ov en)]) ?_ ?_
  · cases en with
    | none =>
      dsimp only [ov]
      wtm_at "xs"
      exact ⟨rfl, none, hen, rfl⟩
    | some z =>
      dsimp only [ov]
      wtm_at "xs"
      refine Xk.x_itn (fun h => ?_) (fun h => ?_)
      · wtm_at "xs"
        exact ⟨rfl, none, (fun z e => by cases e), rfl⟩
      · wtm_at "xs"
        exact ⟨rfl, some z, hen, rfl⟩
  rintro σ' H' ⟨rfl, en, hen, rfl⟩
  wtm_at "xs"
  refine draw ha6 ⟨by omega, by omega⟩ fun j7 m7 H7 hj7 b7 ha7 => ?_
  wtm_at "xs"
  refine draw ha7 ⟨by omega, by omega⟩ fun j8 m8 H8 hj8 b8 ha8 => ?_
  wtm_at "xs"
  intro tq H9 htq s9 h9
  exact q H9 tq (st, en, _, _) m8 (Xk.but_trans b06 (Xk.but_trans b7 (Xk.but_trans b8 (Xk.but_same s9)))) (s9 _ _ ha8) h9 ⟨hst, hen⟩
--CUT--
theorem rise_pair : ∀ {l : List Str} {p : Str}, risingS p l = true → (p :: l).Pairwise (fun a b : Str => a.cps.toList ≤ b.cps.toList)
  | [], p, _ => List.pairwise_singleton _ _
  | x :: r, p, h => by
    have h2 : (!ltCps x.cps.toList p.cps.toList && risingS x r) = true := h
    rw [Bool.and_eq_true, ltCps_eq, Bool.not_eq_true', decide_eq_false_iff_not] at h2
    have h3 := rise_pair h2.2
    have h4 : p.cps.toList ≤ x.cps.toList := List.not_lt.mp h2.1
    refine List.pairwise_cons.mpr ⟨fun y hy => ?_, h3⟩
    rcases List.mem_cons.mp hy with rfl | hy
    · exact h4
    · exact List.le_trans h4 ((List.pairwise_cons.mp h3).1 y hy)
theorem srtS_pair {l : List Str} (h : sortedS l = true) : l.Pairwise (fun a b : Str => a.cps.toList ≤ b.cps.toList) := by
  cases l with
  | nil => exact .nil
  | cons p r => exact rise_pair h
theorem flat_strs : ∀ ks : List Str, (ks.map V.str).all flatV = true
  | [] => rfl
  | k :: r => by
    rw [List.map_cons, List.all_cons, flat_strs r]
    rfl
theorem in_strs (s : Str) : ∀ ks : List Str, inV (.str s) (ks.map V.str) = decide (s ∈ ks)
  | [] => by simp [inV]
  | k :: r => by
    have h := in_strs s r
    unfold inV at h ⊢
    rw [List.map_cons, List.any_cons, h]
    by_cases e : k = s
    · subst e
      simp [eqV]
    · have e' : ¬ s = k := fun z => e z.symm
      simp [eqV, e, e']
theorem strict {l : List Str} (h : sortedS l = true) (nd : l.Nodup) : l.Pairwise (fun a b : Str => (LT.lt (Array.toList (PySem.Str.cps a)) (Array.toList (PySem.Str.cps b)))) := by
  refine ((srtS_pair h).and nd).imp fun {a b} hab => ?_
  refine Classical.byContradiction fun c => hab.2 ?_
  have e := List.le_antisymm hab.1 (List.not_lt.mp c)
  cases a
  cases b
  exact congrArg Str.mk (Array.toList_inj.mp e)
theorem head_nil {l : List Str} (h : l.Pairwise (fun a b : Str => (LT.lt (Array.toList (PySem.Str.cps a)) (Array.toList (PySem.Str.cps b))))) (hm : ("" : Str) ∈ l) : ∃ r, l = ("" : Str) :: r := by
  cases l with
  | nil => cases hm
  | cons a r =>
    rcases List.mem_cons.mp hm with e | hm
    · exact ⟨r, by rw [← e]⟩
    · exact absurd ((List.pairwise_cons.mp h).1 _ hm) (nil_le a)
theorem firstR_ch : ∀ {l : List (Str × Int)} {x : Str × Int}, ((x :: l).map (·.1)).Pairwise (fun a b : Str => (LT.lt (Array.toList (PySem.Str.cps a)) (Array.toList (PySem.Str.cps b)))) → Ch x.1 (firstR (x :: l))
  | [], x, _ => ⟨rfl, rfl⟩
  | y :: l, x, h => by
    have h2 := List.pairwise_cons.mp h
    have ih : Ch y.1 (firstR (y :: l)) := firstR_ch h2.2
    have h3 : (LT.lt (Array.toList (PySem.Str.cps x.1)) (Array.toList (PySem.Str.cps y.1))) := h2.1 _ (List.mem_cons_self ..)
    exact Ch.cons h3 ih
def sp__law_ranges (K : PySem.W.Frag) : Sp := fun vs H Q _ => ∃ a n, vs = [.ref a] ∧ H a = some (.lst [.int n]) ∧
  ∀ H' q R m, Xk.But a H H' → H' a = some (.lst [.int m]) → RgAt H' q R → 1 ≤ R.length → R.length ≤ 8 → Ch "" (firstR (R.map (·.2))) → (∀ e ∈ R, Ok e.2.1) → Q (.ref q) H'
theorem ok__law_ranges (T : Txt K mg) : FnOk P w K mg base CX0 3 T.f__law_ranges T.d__law_ranges ["box"] (sp__law_ranges K) := by
  refine T.F__law_ranges.ok sc__law_ranges (fun vs H Q E h => ?_) (fun cdv A outer s H vs Q E hr h => ?_)
  · obtain ⟨a, n, rfl, _⟩ := h
    rfl
  obtain ⟨a, n, rfl, ha, q⟩ := h
  refine ⟨_, (pss_cons (ps_set (i := 1) sc__law_ranges.nd rfl (Or.inl rfl) (pe_lst (pa_cons (pe_str) pa_nil)))
      (pss_cons (ps_for PassesOwn.never rfl (pi_range1 (by rfl) T.m_range (pa_cons (pe_call (ok__law_take T) (hr.mono (by decide)) (by rfl) T.g__law_take T.F__law_take.kp T.b__law_take .nil pass0 (pa_cons (pv 0) (pa_cons (pe_int) pa_nil))) pa_nil)) (pg_name (i := 2) sc__law_ranges.nd rfl (Or.inl rfl)) (pss_cons (ps_set (i := 3) sc__law_ranges.nd rfl (Or.inl rfl) (pe_call (ok__law_key T) (hr.mono (by decide)) (by rfl) T.g__law_key T.F__law_key.kp T.b__law_key .nil pass0 (pa_cons (pv 0) (pa_cons (pe_ix ix_str (pe_str) (pe_call (ok__law_take T) (hr.mono (by decide)) (by rfl) T.g__law_take T.F__law_take.kp T.b__law_take .nil pass0 (pa_cons (pv 0) (pa_cons (pe_int) pa_nil))) (fun _ _ => rfl)) pa_nil))))
      (pss_one (ps_if (pt_cmpR (Xk.k_nin (K := K) (by rfl)) (pv 3) (pv 1) (by rfl)) (pss_one (ps_expr (pe_bm PySem.F.plainAttrs_list PySem.F.slot_list_append PySem.F.type_list_append mt_append (pv 1) (pa_cons (pv 3) pa_nil)))) pss_nil))))
      (pss_one (ps_ret (pe_callTy (Xk.k_tuple (K := K) (by rfl)) (by rfl) T.m_tuple (by decide +kernel) (pa_cons (pe_lc (own := [("start", 4)]) (g := gName 4) (tt := tYes) rfl sc__law_ranges.nd  (pi_list (pe_callB (Xk.k_sortedS (K := K) (by rfl)) (by rfl) T.m_sorted (by decide +kernel) (pa_cons (pv 1) pa_nil))) (blkOk_by (N := N__law_ranges) (sc := defScope s__law_ranges) (own := [("start", 4)]) (by decide +kernel)) (fun _ _ _ _ _ => pg_name (i := 4) sc__law_ranges.nd rfl (Or.inl rfl)) (fun _ _ _ _ _ => pts_nil) (fun _ _ _ _ _ => (pe_tup (pa_cons (pv 4) (pa_cons (pe_op op_add (pe_int) (pe_call (ok__law_take T) (hr.mono (by decide)) (by rfl) T.g__law_take T.F__law_take.kp T.b__law_take .nil pass0 (pa_cons (pv 0) (pa_cons (pe_int) pa_nil)))) pa_nil))))) pa_nil)))))), ?_⟩
  wtm_at "x0"
  wtm_at "xs"
  intro p H1 hp s1 h1
  have ha1 := s1 _ _ ha
  have npa : p ≠ a := (Xk.ne_new hp ha).symm
  wtm_at "xs"
  refine draw ha1 ⟨by decide, by decide⟩ fun j0 m0 H0 hj0 b0 ha0 => ?_
  have b00 := Xk.but_trans (Xk.but_same s1) b0
  have h10 := b0 _ _ npa h1
  clear b0 s1 h1 ha1
  refine Xk.x_range (fun i σ' H' => ∃ (y2 y3 : Option V) (zs : List Str) (m : Int), σ' = [some (.ref a), some (.ref p), y2, y3, none] ∧ Xk.But a H H' ∧ H' a = some (.lst [.int m]) ∧ H' p = some (.lst (zs.map V.str)) ∧ zs.Nodup ∧ ("" : Str) ∈ zs ∧ (∀ z ∈ zs, Ok z) ∧ zs.length ≤ i + 1)
    ⟨by omega, by omega⟩ ⟨_, _, [("" : Str)], m0, rfl, b00, ha0, h10, List.pairwise_singleton _ _, List.mem_singleton.mpr rfl, fun z hz => ?_, Nat.le_refl _⟩ ?_ ?_
  · rw [List.mem_singleton.mp hz]
    exact ⟨Nat.zero_le _, rfl⟩
  · rintro i σ' H' hi ⟨y2, y3, zs, m, rfl, b1, ha1, h2, nd, hn, hok, hlen⟩
    wtm_at "xs"
    refine draw ha1 ⟨by decide, by decide⟩ fun j2 m2 H2 hj2 b2 ha2 => ?_
    obtain ⟨c2, hc2⟩ := Xk.lt_at (xs := ("bfmqv37" : Str).cps.toList) (j := j2) (by show j2 < 7; omega)
    refine Xk.x_ixS (by decide) (Xk.at_nat rfl hc2) ?_
    wtm_at "xs"
    refine ⟨a, m2, _, rfl, ha2, Nat.le_refl _, sign_ok (by decide) hc2, fun H3 m3 s3 b3 ha3 hs3 => ?_⟩
    wtm_at "xs"
    have b13 := Xk.but_trans b1 (Xk.but_trans b2 b3)
    have h23 := b3 _ _ npa (b2 _ _ npa h2)
    refine Xk.x_niL (Xk.sq_of h23) rfl (flat_strs zs) ?_
    rw [in_strs]
    wtm_at "xs"
    refine Xk.x_itn (fun h => ?_) (fun h => ?_)
    · have hz : (zs.map V.str).length < 100000 := by rw [List.length_map]; omega
      wtm_at "xs"
      refine ⟨_, _, zs ++ [s3], m3, rfl, Xk.but_new b13 hp, (upd_ne npa.symm).trans ha3, by rw [upd_same, List.map_append]; rfl, List.nodup_append.mpr ⟨nd, List.pairwise_singleton _ _, fun x hx y hy e => ?_⟩, List.mem_append_left _ hn, fun z hz => ?_, by rw [List.length_append]; exact Nat.succ_le_succ hlen⟩
      · rw [List.mem_singleton.mp hy] at e
        exact h (e ▸ hx)
      · rcases List.mem_append.mp hz with hz | hz
        · exact hok z hz
        · rw [List.mem_singleton.mp hz]
          exact hs3
    · wtm_at "xs"
      exact ⟨_, _, zs, m3, rfl, b13, ha3, h23, nd, hn, hok, by omega⟩
  · rintro σ' H' ⟨y2, y3, zs, m, rfl, b1, ha1, h2, nd, hn, hok, hlen⟩
    wtm_at "xs"
    refine Xk.x_sortS (Xk.sq_of h2) (by omega) fun sp H2 ys py ys2 hsp s2 g2 => ?_
    have ha2 := s2 _ _ ha1
    have nda : sp ≠ a := (Xk.ne_new hsp ha1).symm
    have ndy : ys.Nodup := py.nodup_iff.mpr nd
    have hyl : ys.length ≤ 8 := by
      rw [py.length_eq]
      omega
    have hyp := strict ys2 ndy
    have hys : ("" : Str) ∈ ys := py.mem_iff.mpr hn
    have b2 := Xk.but_trans b1 (Xk.but_same (p := a) s2)
    refine Xk.x_lcL (xs := ys.map V.str) (fun Dl i H' => ∃ (R : List (Addr × Str × Int)) (m : Int), Xk.But a H2 H' ∧ H' a = some (.lst [.int m]) ∧ H' Dl = some (.lst (R.map fun e => V.ref e.1)) ∧ (∀ e ∈ R, H' e.1 = some (.tup [.str e.2.1, .int e.2.2])) ∧ R.map (·.2.1) = ys.take i) (Xk.sq_of g2) ?_ ?_ ?_ ?_
    · intro Dl hD
      exact ⟨[], m, Xk.but_new (Xk.But.refl _ _) hD, (upd_ne (Xk.ne_new hD ha2)).trans ha2, upd_same, fun e z => (by cases z), rfl⟩
    · rintro Dl i H' hD ⟨R, m, b3, _⟩
      exact Xk.sq_of (b3 _ _ nda g2)
    · rintro Dl hD i x H' hi ⟨R, m, b3, ha3, g3, g4, g5⟩
      obtain ⟨e, he, rfl⟩ := Xk.of_map_at hi
      wtm_at "xs"
      refine ⟨rfl, ?_⟩
      wtm_at "xs"
      refine draw ha3 ⟨by decide, by decide⟩ fun j4 m4 H4 hj4 b4 ha4 => ?_
      wtm_at "xs"
      intro tp H5 htp s5 h5
      have nDa : Dl ≠ a := (Xk.ne_new hD ha2).symm
      have g35 := s5 _ _ (b4 _ _ nDa g3)
      have hR : R.length ≤ ys.length := by
        have z := congrArg List.length g5
        simp only [List.length_map, List.length_take] at z
        omega
      refine ⟨_, g35, Xk.size_lt (by rw [List.length_map]; omega), R ++ [(tp, e, 1 + (j4 : Int))], m4, Xk.but_new (Xk.but_trans b3 (Xk.but_trans b4 (Xk.but_same s5))) hD, (upd_ne nDa.symm).trans (s5 _ _ ha4), by rw [upd_same, List.map_append]; rfl, fun z hz => ?_, ?_⟩
      · rcases List.mem_append.mp hz with hz | hz
        · exact keep_tup (s5 _ _ (but_tup b4 ha3 (g4 z hz))) g35
        · rw [List.mem_singleton.mp hz]
          exact keep_tup h5 g35
      · rw [List.map_append, g5, List.take_add_one, he]
        rfl
    · rintro Dl H3 hD ⟨R, m, b3, ha3, g3, g4, g5⟩
      rw [List.length_map, List.take_length] at g5
      wtm_at "xs"
      intro tq H4 htq s4 h4
      have hR : R.length = ys.length := by
        have z := congrArg List.length g5
        rw [List.length_map] at z
        exact z
      have hch : Ch "" (firstR (R.map (·.2))) := by
        have e : (R.map (·.2)).map (·.1) = ys := by rw [List.map_map, ← g5]; rfl
        obtain ⟨r, hr⟩ := head_nil hyp hys
        rw [← e] at hyp hr
        cases eR : R.map (·.2) with
        | nil =>
          rw [eR] at hr
          cases hr
        | cons x l =>
          rw [eR] at hr hyp
          have h9 := firstR_ch hyp
          have h8 : x.1 = "" := (List.cons.inj hr).1
          rw [h8] at h9
          exact h9
      refine q H4 tq R m (Xk.but_trans b2 (Xk.but_trans b3 (Xk.but_same s4))) (s4 _ _ ha3) ⟨h4, fun e he => s4 _ _ (g4 e he)⟩ ?_ (by omega) hch fun e he => ?_
      · have h9 := List.length_pos_of_mem hys
        omega
      · refine hok _ (py.mem_iff.mp ?_)
        rw [← g5]
        exact List.mem_map.mpr ⟨e, he, rfl⟩
--CUT--
def cellK (k : Str) (l : List Br) : Int := match (l.filter (hasK k))[0]? with
  | some r => r.2.2.1
  | none => 0
theorem cellK_of {k : Str} {l : List Br} {r : Br} (h : (l.filter (hasK k))[0]? = some r) : cellK k l = r.2.2.1 := by
  unfold cellK
  rw [h]
def sp_places_of (K : PySem.W.Frag) : Sp := fun vs H Q _ => ∃ (p b : Addr) (L : List (Addr × Br)) (ks : List Str), vs = [.ref p, .ref b] ∧ RowsAt H p L ∧ L.length ≤ 50 ∧ H b = some (.lst (ks.map V.str)) ∧ ks.length ≤ 50 ∧ (∀ k ∈ ks, ∃ r, ((L.map (·.2)).filter (hasK k))[0]? = some r) ∧
  ∀ H' q (T : List (Addr × Str × Int)), Same H H' → RgAt H' q T → T.map (·.2) = ks.map (fun k => (k, cellK k (L.map (·.2)))) → Q (.ref q) H'
theorem ok_places_of (T : Txt K mg) : FnOk P w K mg base CX0 3 T.f_places_of T.d_places_of ["beliefs", "names"] (sp_places_of K) := by
  refine T.F_places_of.ok sc_places_of (fun vs H Q E h => ?_) (fun cdv A outer s H vs Q E hr h => ?_)
  · obtain ⟨p, b, L, ks, rfl, _⟩ := h
    rfl
  obtain ⟨p, b, L, ks, rfl, hL, hl, hb, hk, hc, q⟩ := h
  refine ⟨_, (pss_one (ps_ret (pe_callTy (Xk.k_tuple (K := K) (by rfl)) (by rfl) T.m_tuple (by decide +kernel) (pa_cons (pe_lc (own := [("key", 2)]) (g := gName 2) (tt := tYes) rfl sc_places_of.nd  (pi_list (pv 1)) (blkOk_by (N := N_places_of) (sc := defScope s_places_of) (own := [("key", 2)]) (by decide +kernel)) (fun _ _ _ _ _ => pg_name (i := 2) sc_places_of.nd rfl (Or.inl rfl)) (fun _ _ _ _ _ => pts_nil) (fun _ _ _ _ _ => (pe_tup (pa_cons (pv 2) (pa_cons (pe_call (ok_cell_of T) (hr.mono (by decide)) (by rfl) T.g_cell_of T.F_cell_of.kp T.b_cell_of .nil pass0 (pa_cons (pv 0) (pa_cons (pv 2) pa_nil))) pa_nil))))) pa_nil)))), ?_⟩
  wtm_at "x0"
  wtm_at "xs"
  refine Xk.x_lcL (xs := ks.map V.str) (fun Dl i H' => Same H H' ∧ ∃ T : List (Addr × Str × Int), H' Dl = some (.lst (T.map fun e => V.ref e.1)) ∧ (∀ e ∈ T, H' e.1 = some (.tup [.str e.2.1, .int e.2.2])) ∧ T.map (·.2) = (ks.take i).map (fun k => (k, cellK k (L.map (·.2))))) (Xk.sq_of hb) ?_ ?_ ?_ ?_
  · intro Dl hD
    exact ⟨Xk.same_fr hD, [], upd_same, fun e z => (by cases z), rfl⟩
  · rintro Dl i H' hD ⟨s2, _⟩
    exact Xk.sq_of (s2 _ _ hb)
  · rintro Dl hD i x H' hi ⟨s2, T, t1, t2, t3⟩
    obtain ⟨k, he, rfl⟩ := Xk.of_map_at hi
    obtain ⟨r, hr⟩ := hc k (List.mem_of_getElem? he)
    wtm_at "xs"
    refine ⟨rfl, ?_⟩
    wtm_at "xs"
    refine ⟨p, L, k, rfl, hL.same s2, hl, r, hr, fun H3 s3 => ?_⟩
    wtm_at "xs"
    intro tp H4 htp s4 h4
    have s34 := s3.trans s4
    have hT : T.length ≤ ks.length := by
      have z := congrArg List.length t3
      simp only [List.length_map, List.length_take] at z
      omega
    have t14 := s34 _ _ t1
    refine ⟨_, t14, Xk.size_lt (by rw [List.length_map]; omega), Xk.same_mut (s2.trans s34) hD, T ++ [(tp, k, r.2.2.1)], by rw [upd_same, List.map_append]; rfl, fun z hz => ?_, ?_⟩
    · rcases List.mem_append.mp hz with hz | hz
      · exact keep_tup (s34 _ _ (t2 z hz)) t14
      · rw [List.mem_singleton.mp hz]
        exact keep_tup h4 t14
    · rw [List.map_append, t3, List.take_add_one, he, List.map_append]
      show _ ++ [(k, r.2.2.1)] = _ ++ [(k, cellK k (L.map (·.2)))]
      rw [cellK_of hr]
  · rintro Dl H3 hD ⟨s3, T, t1, t2, t3⟩
    rw [List.length_map, List.take_length] at t3
    wtm_at "xs"
    intro tq H4 htq s4 h4
    exact q H4 tq T (s3.trans s4) ⟨h4, fun e he => s4 _ _ (t2 e he)⟩ t3
--CUT--
def od : Option Str → PyData
  | none => .none
  | some s => .str s
def Br.d (r : Br) : PyData := .tuple [.str r.1, od r.2.1, .int r.2.2.1, .int r.2.2.2]
theorem pk_s {H : Hp} {n : Nat} {s : Str} (h : Ok s) : Xk.Pk K H n (.str s) (.str s) := Xk.pk_str (Xk.lay_str h.2)
theorem pk_ov {H : Hp} {n : Nat} {e : Option Str} (h : ∀ t, e = some t → Ok t) : Xk.Pk K H n (ov e) (od e) := by
  cases e with
  | none => exact Xk.pk_non
  | some s => exact pk_s (h s rfl)
theorem pk_rows {H : Hp} : ∀ {L : List (Addr × Br)}, (∀ e ∈ L, H e.1 = some (.tup (Br.v e.2))) → (∀ r ∈ L.map (·.2), Br.ok r) → Xk.PkAll K H 1 (L.map fun e => V.ref e.1) ((L.map (·.2)).map Br.d)
  | [], _, _ => Xk.pk_nil
  | e :: L, h, ho => by
    have h1 := ho e.2 (List.mem_cons_self ..)
    refine Xk.pk_cons (Xk.pk_tup (n := 0) (Xk.st_of (h e (List.mem_cons_self ..))) ?_) (pk_rows (fun x hx => h x (List.mem_cons_of_mem _ hx)) fun r hr => ho r (List.mem_cons_of_mem _ hr))
    exact Xk.pk_cons (pk_s h1.1) (Xk.pk_cons (pk_ov h1.2) (Xk.pk_cons Xk.pk_int (Xk.pk_cons Xk.pk_int Xk.pk_nil)))
theorem pk_pairs {H : Hp} : ∀ {T : List (Addr × Str × Int)}, (∀ e ∈ T, H e.1 = some (.tup [.str e.2.1, .int e.2.2])) → (∀ x ∈ T.map (·.2), Ok x.1) → Xk.PkAll K H 1 (T.map fun e => V.ref e.1) ((T.map (·.2)).map fun x => PyData.tuple [.str x.1, .int x.2])
  | [], _, _ => Xk.pk_nil
  | e :: T, h, ho => by
    refine Xk.pk_cons (Xk.pk_tup (n := 0) (Xk.st_of (h e (List.mem_cons_self ..))) ?_) (pk_pairs (fun x hx => h x (List.mem_cons_of_mem _ hx)) fun r hr => ho r (List.mem_cons_of_mem _ hr))
    exact Xk.pk_cons (pk_s (ho e.2 (List.mem_cons_self ..))) (Xk.pk_cons Xk.pk_int Xk.pk_nil)
theorem x_neRows {H : Hp} {Q : VK} {p r : Addr} {L M : List (Addr × Br)} (hL : RowsAt H p L) (hM : RowsAt H r M) (e : L.map (·.2) = M.map (·.2)) (ok : ∀ x ∈ L.map (·.2), Br.ok x) (q : Q (.bl false) H) : rNeD K (.ref p) (.ref r) H Q := by
  have a1 := pk_rows (K := K) hL.tup ok
  have a2 := pk_rows (K := K) hM.tup (by rw [← e]; exact ok)
  rw [← e] at a2
  exact Xk.x_nePkL (Xk.sq_of hL.lst) (Xk.sq_of hM.lst) a1 a2 q
theorem ok_cut {b : Option Str} {l : List Br} (h : ∀ r ∈ l, Br.ok r) (hb : ∀ t, b = some t → Ok t) : ∀ r ∈ cutL b l, Br.ok r := by
  cases b with
  | none => exact h
  | some b =>
    intro r hr
    obtain ⟨r0, h0, h1⟩ := List.mem_flatMap.mp hr
    have h2 := h r0 h0
    have h3 := hb b rfl
    unfold cutR at h1
    split at h1
    · rcases List.mem_cons.mp h1 with rfl | h1
      · exact ⟨h2.1, fun t e => by cases e; exact h3⟩
      · rw [List.mem_singleton.mp h1]
        exact ⟨h3, h2.2⟩
    · rw [List.mem_singleton.mp h1]
      exact h2
theorem behind_eq (hi r : Br) : (behind hi r).1 = r.1 ∧ (behind hi r).2.1 = r.2.1 := by
  unfold behind
  split <;> exact ⟨rfl, rfl⟩
/-- what rows are behind a hint -/
theorem learn_ok {hi : Br} {l : List Br} (hc : Ch "" l) (ok : ∀ r ∈ l, Br.ok r) (hh : hi.ok) :
    Ch "" ((cutL hi.2.1 (cutL (some hi.1) l)).map (behind hi)) ∧ (∀ r ∈ (cutL hi.2.1 (cutL (some hi.1) l)).map (behind hi), Br.ok r) ∧ ((cutL hi.2.1 (cutL (some hi.1) l)).map (behind hi)).length ≤ l.length + 2 := by
  have c1 := cutL_ok (some hi.1) hc
  have c2 := cutL_ok hi.2.1 c1.1
  have o1 := ok_cut (b := some hi.1) ok fun t e => by cases e; exact hh.1
  have o2 := ok_cut (b := hi.2.1) o1 hh.2
  refine ⟨c2.1.map (behind_eq hi), fun r hr => ?_, ?_⟩
  · obtain ⟨r0, h0, rfl⟩ := List.mem_map.mp hr
    have h1 := behind_eq hi r0
    have h2 := o2 r0 h0
    exact ⟨by rw [h1.1]; exact h2.1, fun t e => by rw [h1.2] at e; exact h2.2 t e⟩
  · have h1 := c1.2
    have h2 := c2.2
    rw [List.length_map]
    omega
theorem cell_ex {l : List Br} (hc : Ch "" l) (k : Str) : ∃ r, (l.filter (hasK k))[0]? = some r := by
  obtain ⟨r, hr, h⟩ := hc.cover (nil_le k)
  have hm : r ∈ l.filter (hasK k) := List.mem_filter.mpr ⟨hr, h⟩
  exact Xk.lt_at (List.length_pos_of_mem hm)
theorem firstR_ok {l : List (Str × Int)} (h : ∀ x ∈ l, Ok x.1) : ∀ r ∈ firstR l, Br.ok r := by
  intro r hr
  obtain ⟨i, hi⟩ := List.getElem?_of_mem hr
  rw [firstR_at] at hi
  obtain ⟨x, hx, rfl⟩ := Option.map_eq_some_iff.mp hi
  refine ⟨h x (List.mem_of_getElem? hx), fun t e => ?_⟩
  obtain ⟨y, hy, rfl⟩ := Option.map_eq_some_iff.mp e
  exact h y (List.mem_of_getElem? hy)
--CUT--
def sp_law (K : PySem.W.Frag) : Sp := fun vs H Q _ => ∃ (a : Addr) (ns : List Int), vs = [.ref a] ∧ SqL K H a (ns.map V.int) ∧ ns.length ≤ 63 ∧ ∀ H', Q (.bl true) H'
theorem ok_law (T : Txt K mg) : FnOk P w K mg base CX0 4 T.f_law T.d_law ["script"] (sp_law K) := by
  refine T.F_law.ok sc_law (fun vs H Q E h => ?_) (fun cdv A outer s H vs Q E hr h => ?_)
  · obtain ⟨a, ns, rfl, _⟩ := h
    rfl
  obtain ⟨a, ns, rfl, hS, hl, q⟩ := h
  refine ⟨_, (pss_cons (ps_set (i := 1) sc_law.nd rfl (Or.inr rfl) (pe_lst (pa_cons (pe_call (ok__law_number T) (hr.mono (by decide)) (by rfl) T.g__law_number T.F__law_number.kp T.b__law_number .nil pass0 (pa_cons (pv 0) (pa_cons (pe_int) pa_nil))) pa_nil)))
      (pss_cons (ps_set (i := 2) sc_law.nd rfl (Or.inl rfl) (pe_call (ok__law_ranges T) (hr.mono (by decide)) (by rfl) T.g__law_ranges T.F__law_ranges.kp T.b__law_ranges .nil pass0 (pa_cons (pv 1) pa_nil)))
      (pss_cons (ps_set (i := 3) sc_law.nd rfl (Or.inl rfl) (pe_call (ok_first_beliefs T) (hr.mono (by decide)) (by rfl) T.g_first_beliefs T.F_first_beliefs.kp T.b_first_beliefs .nil pass0 (pa_cons (pv 2) pa_nil)))
      (pss_cons (ps_set (i := 4) sc_law.nd rfl (Or.inr rfl) (pe_call (ok__law_first T) (hr.mono (by decide)) (by rfl) T.g__law_first T.F__law_first.kp T.b__law_first .nil pass0 (pa_cons (pv 2) pa_nil)))
      (Evl.pss_cut (ps_if (PW.pt (pw_or (pt_not (pt_val (pe_callB (Xk.k_isi (K := K) (by rfl)) (by rfl) T.m_isinstance (by decide +kernel) (pa_cons (pv 3) (pa_cons (pe_bltn (v := .ty "list") (u := .type "list") (by rfl) T.m_list (by decide +kernel) Xk.rel_ty) pa_nil))))) (pw_or1 (pt_cmpR (Xk.k_neD (K := K) hr.units (by rfl)) (pv 3) (pv 4) (nomark _))))) (pss_one (ps_ret (pe_bl))) pss_nil)
      (pss_cons (ps_for PassesOwn.never rfl (pi_range1 (by rfl) T.m_range (pa_cons (pe_call (ok__law_take T) (hr.mono (by decide)) (by rfl) T.g__law_take T.F__law_take.kp T.b__law_take .nil pass0 (pa_cons (pv 1) (pa_cons (pe_int) pa_nil))) pa_nil)) (pg_name (i := 5) sc_law.nd rfl (Or.inl rfl)) (pss_cons (ps_set (i := 1) sc_law.nd rfl (Or.inr rfl) (pe_lst (pa_cons (pe_call (ok__law_number T) (hr.mono (by decide)) (by rfl) T.g__law_number T.F__law_number.kp T.b__law_number .nil pass0 (pa_cons (pv 0) (pa_cons (pe_op op_add (pe_int) (pv 5)) pa_nil))) pa_nil)))
      (pss_cons (ps_set (i := 6) sc_law.nd rfl (Or.inl rfl) (pe_call (ok__law_hint T) (hr.mono (by decide)) (by rfl) T.g__law_hint T.F__law_hint.kp T.b__law_hint .nil pass0 (pa_cons (pv 1) (pa_cons (pv 4) pa_nil))))
      (pss_cons (ps_set (i := 7) sc_law.nd rfl (Or.inl rfl) (pe_callTy (Xk.k_list (K := K) (by rfl)) (by rfl) T.m_list (by decide +kernel) (pa_cons (pv 3) pa_nil)))
      (pss_cons (ps_set (i := 8) sc_law.nd rfl (Or.inl rfl) (pe_call (ok_learned T) (hr.mono (by decide)) (by rfl) T.g_learned T.F_learned.kp T.b_learned .nil pass0 (pa_cons (pv 7) (pa_cons (pv 6) pa_nil))))
      (Evl.pss_cut (ps_if (PW.pt (pw_or (pt_cmpR (Xk.k_neD (K := K) hr.units (by rfl)) (pv 7) (pv 3) (nomark _)) (pw_or1 (pt_not (pt_val (pe_callB (Xk.k_isi (K := K) (by rfl)) (by rfl) T.m_isinstance (by decide +kernel) (pa_cons (pv 8) (pa_cons (pe_bltn (v := .ty "list") (u := .type "list") (by rfl) T.m_list (by decide +kernel) Xk.rel_ty) pa_nil)))))))) (pss_one (ps_ret (pe_bl))) pss_nil)
      (pss_cons (ps_expr (pe_bm PySem.F.plainAttrs_list PySem.F.slot_list_append PySem.F.type_list_append mt_append (pv 8) (pa_cons (pe_int) pa_nil)))
      (pss_cons (ps_set (i := 3) sc_law.nd rfl (Or.inl rfl) (pe_call (ok_learned T) (hr.mono (by decide)) (by rfl) T.g_learned T.F_learned.kp T.b_learned .nil pass0 (pa_cons (pv 7) (pa_cons (pv 6) pa_nil))))
      (pss_cons (ps_set (i := 4) sc_law.nd rfl (Or.inr rfl) (pe_call (ok__law_learned T) (hr.mono (by decide)) (by rfl) T.g__law_learned T.F__law_learned.kp T.b__law_learned .nil pass0 (pa_cons (pv 4) (pa_cons (pv 6) pa_nil))))
      (pss_one (ps_if (pt_cmpR (Xk.k_neD (K := K) hr.units (by rfl)) (pv 3) (pv 4) (nomark _)) (pss_one (ps_ret (pe_bl))) pss_nil)))))))))))
      (pss_cons (ps_set (i := 1) sc_law.nd rfl (Or.inr rfl) (pe_lst (pa_cons (pe_call (ok__law_number T) (hr.mono (by decide)) (by rfl) T.g__law_number T.F__law_number.kp T.b__law_number .nil pass0 (pa_cons (pv 0) (pa_cons (pe_int) pa_nil))) pa_nil)))
      (pss_cons (ps_setLc (i := 9) (own := [("k", 5)]) (g := gName 5) (tt := tYes) rfl sc_law.nd rfl rfl (sw_true rfl rfl rfl (by decide +kernel)) (pi_range1 (by rfl) T.m_range (pa_cons (pe_int) pa_nil)) (blkOk_by (N := N_law) (sc := defScope s_law) (own := [("k", 5)]) (by decide +kernel)) (fun _ _ _ _ _ => pg_name (i := 5) sc_law.nd rfl (Or.inl rfl)) (fun _ _ _ _ _ => pts_nil) (fun _ _ _ _ _ => (pe_call (ok__law_key T) (hr.mono (by decide)) (by rfl) T.g__law_key T.F__law_key.kp T.b__law_key .nil pass0 (pa_cons (pv 1) (pa_cons (pe_ix ix_str (pe_str) (pv 5) (fun _ _ => rfl)) pa_nil)))))
      (pss_cons (ps_for PassesOwn.never rfl (pi_list (pv 9)) (pg_name (i := 10) sc_law.nd rfl (Or.inl rfl)) (pss_one (ps_if (pt_cmpR op_ne (pe_call (ok_cell_of T) (hr.mono (by decide)) (by rfl) T.g_cell_of T.F_cell_of.kp T.b_cell_of .nil pass0 (pa_cons (pv 3) (pa_cons (pv 10) pa_nil))) (pe_call (ok__law_cell T) (hr.mono (by decide)) (by rfl) T.g__law_cell T.F__law_cell.kp T.b__law_cell .nil pass0 (pa_cons (pv 4) (pa_cons (pv 10) pa_nil))) (nomark _)) (pss_one (ps_ret (pe_bl))) pss_nil)))
      (pss_cons (ps_set (i := 11) sc_law.nd rfl (Or.inl rfl) (pe_call (ok_places_of T) (hr.mono (by decide)) (by rfl) T.g_places_of T.F_places_of.kp T.b_places_of .nil pass0 (pa_cons (pv 3) (pa_cons (pv 9) pa_nil))))
      (pss_one (ps_ret ((pe_and (pe_callB (Xk.k_isi (K := K) (by rfl)) (by rfl) T.m_isinstance (by decide +kernel) (pa_cons (pv 11) (pa_cons (pe_bltn (v := .ty "tuple") (u := .type "tuple") (by rfl) T.m_tuple (by decide +kernel) Xk.rel_ty) pa_nil))) (pe_one (pe_cmpR (Xk.k_eqD (K := K) hr.units (by rfl)) (pv 11) (pe_callTy (Xk.k_tuple (K := K) (by rfl)) (by rfl) T.m_tuple (by decide +kernel) (pa_cons (pe_lc (own := [("key", 10)]) (g := gName 10) (tt := tYes) rfl sc_law.nd  (pi_list (pv 9)) (blkOk_by (N := N_law) (sc := defScope s_law) (own := [("key", 10)]) (by decide +kernel)) (fun _ _ _ _ _ => pg_name (i := 10) sc_law.nd rfl (Or.inl rfl)) (fun _ _ _ _ _ => pts_nil) (fun _ _ _ _ _ => (pe_tup (pa_cons (pv 10) (pa_cons (pe_call (ok__law_cell T) (hr.mono (by decide)) (by rfl) T.g__law_cell T.F__law_cell.kp T.b__law_cell .nil pass0 (pa_cons (pv 4) (pa_cons (pv 10) pa_nil))) pa_nil))))) pa_nil)) (nomark _))))))))))))))))), ?_⟩
  wtm_at "x0"
  wtm_at "xs"
  refine ⟨a, 0, ns, rfl, hS, hl, by decide, by decide, fun n0 hn0 => ?_⟩
  wtm_at "xs"
  intro bx H1 hbx s1 hb1
  wtm_at "xs"
  refine ⟨bx, n0, rfl, hb1, fun H2 rq R m2 b2 hb2 hR hl1 hl2 hch hrok => ?_⟩
  have s02 := Xk.same_but b2 hbx s1
  wtm_at "xs"
  refine ⟨rq, R, rfl, hR, hl1, by omega, fun H3 bp L s3 hbp hL eL => ?_⟩
  wtm_at "xs"
  refine ⟨rq, R, rfl, hR.same s3, hl1, by omega, fun H4 rp M s4 hrp hM eM => ?_⟩
  have hL4 := hL.same s4
  have hlst4 := hL4.lst
  have eLM : L.map (·.2) = M.map (·.2) := eL.trans eM.symm
  have hok : ∀ x ∈ L.map (·.2), Br.ok x := by
    rw [eL]
    refine firstR_ok fun x hx => ?_
    obtain ⟨e, he, rfl⟩ := List.mem_map.mp hx
    exact hrok e he
  have hcL : Ch "" (L.map (·.2)) := by
    rw [eL]
    exact hch
  have hlen : L.length ≤ 8 := by
    have z := congrArg List.length eL
    rw [List.length_map, firstR_len, List.length_map] at z
    omega
  wtm_at "xs"
  refine Xk.x_nocut ?_
  wtm_at "xs"
  refine x_neRows hL4 hM eLM hok ?_
  wtm_at "xs"
  have hb4 := (s3.trans s4) _ _ hb2
  refine draw hb4 ⟨by decide, by decide⟩ fun j5 m5 H5 hj5 b5 hb5 => ?_
  have s05 := Xk.same_but b5 hbx (s02.trans (s3.trans s4))
  have hL5 := hL4.but b5 hb4 (Xk.ne_new hbp hb2).symm
  have hM5 := hM.but b5 hb4 (Xk.ne_new hrp (s3 _ _ hb2)).symm
  clear s3 s4 b5 hb5 hb4 hL4 hlst4 hM hbp hrp hL b2 hb2 s02 hb1 s1
  wtm_at "xs"
  refine Xk.x_range (fun i σ' H' => ∃ (y1 y5 y6 y7 y8 : Option V) (bp rp : Addr) (L M : List (Addr × Br)), σ' = [some (.ref a), y1, some (.ref rq), some (.ref bp), some (.ref rp), y5, y6, y7, y8, none, none, none] ∧ Same H H' ∧ RowsAt H' bp L ∧ RowsAt H' rp M ∧ L.map (·.2) = M.map (·.2) ∧ Ch "" (L.map (·.2)) ∧ (∀ x ∈ L.map (·.2), Br.ok x) ∧ L.length ≤ 8 + 2 * i)
    ⟨by omega, by omega⟩ ⟨_, _, _, _, _, bp, rp, L, M, rfl, s05, hL5, hM5, eLM, hcL, hok, by omega⟩ ?_ ?_
  · clear hL5 hM5 s05 eLM eL eM hok hcL hlen
    rintro i σ' H0 hi ⟨y1, y5, y6, y7, y8, bp, rp, L, M, rfl, s0, hL, hM, eLM, hcL, hok, hlen⟩
    have hlM : M.length = L.length := by
      have z := congrArg List.length eLM
      rw [List.length_map, List.length_map] at z
      exact z.symm
    have hL1 : 1 ≤ L.length := by
      obtain ⟨r, tl, e, _⟩ := hcL.hd
      have z := congrArg List.length e
      rw [List.length_map, List.length_cons] at z
      omega
    have hokM : ∀ e ∈ M, e.2.ok := fun e he => hok _ (by rw [eLM]; exact List.mem_map.mpr ⟨e, he, rfl⟩)
    wtm_at "xs"
    refine ⟨a, _, ns, rfl, Xk.sq_same hS s0, hl, by omega, by omega, fun n1 hn1 => ?_⟩
    wtm_at "xs"
    intro bx H1 hbx s1 hb1
    have hM1 := hM.same s1
    wtm_at "xs"
    refine ⟨bx, rp, n1, M, rfl, hb1, hM1, Xk.ne_new hbx hM.lst, by omega, by omega, hokM, fun H2 hq hi m2 b2 hb2 hh hhok => ?_⟩
    have s02 := Xk.same_but b2 hbx s1
    have hL2 := hL.same s02
    have hl2 := hL2.lst
    wtm_at "xs"
    intro gp H3 hgp s3 hg3
    have hG3 : RowsAt H3 gp L := ⟨hg3, (hL2.same s3).tup⟩
    have hh3 := s3 _ _ hh
    wtm_at "xs"
    refine ⟨gp, hq, L, hi, rfl, hG3, hh3, by omega, hcL, fun H4 ap A s4 hap hA eA => ?_⟩
    have hap1 := hA.lst
    have s34 := s3.trans s4
    wtm_at "xs"
    refine Xk.x_nocut ?_
    wtm_at "xs"
    refine x_neRows (hG3.same s4) (hL2.same s34) rfl hok ?_
    wtm_at "xs"
    have hAl : A.length ≤ L.length + 2 := by
      have z := (learn_ok hcL hok hhok).2.2
      rw [← eA, List.length_map, List.length_map] at z
      exact z
    have hAl2 : (A.map fun e => V.ref e.1).length < 100000 := by rw [List.length_map]; omega
    wtm_at "xs"
    have s35 : Same H3 (upd H4 ap (.lst ((A.map fun e => V.ref e.1) ++ [.int 0]))) := Xk.same_mut s4 hap
    refine ⟨gp, hq, L, hi, rfl, hG3.same s35, s35 _ _ hh3, by omega, hcL, fun H5 bp2 L2 s5 hbp2 hL2' eL2 => ?_⟩
    wtm_at "xs"
    have s36 := s35.trans s5
    have hM6 := hM.same (s02.trans (s3.trans s36))
    have hcM : Ch "" (M.map (·.2)) := by
      rw [← eLM]
      exact hcL
    refine ⟨rp, hq, M, hi, rfl, hM6, s36 _ _ hh3, by omega, hcM, fun H6 rp2 M2 s6 hrp2 hM2' eM2 => ?_⟩
    have eLM2 : L2.map (·.2) = M2.map (·.2) := by rw [eL2, eM2, eLM]
    have hlo := learn_ok hcL hok hhok
    rw [← eL2] at hlo
    wtm_at "xs"
    refine x_neRows (hL2'.same s6) hM2' eLM2 hlo.2.1 ?_
    wtm_at "xs"
    refine ⟨_, _, _, _, _, bp2, rp2, L2, M2, rfl, s0.trans (s02.trans (s3.trans (s36.trans s6))), hL2'.same s6, hM2', eLM2, hlo.1, hlo.2.1, ?_⟩
    have z := hlo.2.2
    rw [List.length_map, List.length_map] at z
    omega
  · clear hL5 hM5 s05 eLM eL eM hok hcL hlen
    rintro σ' H0 ⟨y1, y5, y6, y7, y8, bp, rp, L, M, rfl, s0, hL, hM, eLM, hcL, hok, hlen⟩
    have hlM : M.length = L.length := by
      have z := congrArg List.length eLM
      rw [List.length_map, List.length_map] at z
      exact z.symm
    wtm_at "xs"
    refine ⟨a, _, ns, rfl, Xk.sq_same hS s0, hl, by omega, by omega, fun n1 hn1 => ?_⟩
    wtm_at "xs"
    intro bx H1 hbx s1 hb1
    wtm_at "xs"
    refine Xk.x_lcR (m := 5) (fun Dl i H' => ∃ (ks : List Str) (m : Int), Xk.But bx H1 H' ∧ H' bx = some (.lst [.int m]) ∧ H' Dl = some (.lst (ks.map V.str)) ∧ (∀ k ∈ ks, Ok k) ∧ ks.length = i) ⟨by decide, by decide⟩ ?_ ?_ ?_
    · intro Dl hD
      exact ⟨[], n1, Xk.but_new (Xk.But.refl _ _) hD, (upd_ne (Xk.ne_new hD hb1)).trans hb1, upd_same, fun e z => (by cases z), rfl⟩
    · rintro Dl hD i H' hi ⟨ks, m, b1, hb, hk, hko, hkl⟩
      wtm_at "xs"
      refine ⟨rfl, ?_⟩
      wtm_at "xs"
      obtain ⟨c2, hc2⟩ := Xk.lt_at (xs := ("agnz09kt" : Str).cps.toList) (j := i) (by show i < 8; omega)
      refine Xk.x_ixS (by decide) (Xk.at_nat rfl hc2) ?_
      wtm_at "xs"
      refine ⟨bx, m, _, rfl, hb, Nat.le_refl _, sign_ok (by decide) hc2, fun H3 m3 s3 b3 hb3 hs3 => ?_⟩
      have nD : Dl ≠ bx := (Xk.ne_new hD hb1).symm
      refine ⟨_, b3 _ _ nD hk, Xk.size_lt (by rw [List.length_map]; omega), ks ++ [s3], m3, Xk.but_new (Xk.but_trans b1 b3) hD, (upd_ne nD.symm).trans hb3, by rw [upd_same, List.map_append]; rfl, fun z hz => ?_, by rw [List.length_append, hkl]; rfl⟩
      rcases List.mem_append.mp hz with hz | hz
      · exact hko z hz
      · rw [List.mem_singleton.mp hz]
        exact hs3
    · rintro kp H2 hkp ⟨ks, m, b1, hb, hk, hko, hkl⟩
      have hkl5 : ks.length ≤ 50 := by
        rw [hkl]
        decide
      have s02 := Xk.same_but b1 hbx s1
      have hL2 := hL.same s02
      have hM2 := hM.same s02
      clear hL hM s1 hb1 b1 hb hkp hbx
      wtm_at "xs"
      refine Xk.x_forL (xs := ks.map V.str) (fun i σ' H' => ∃ y : Option V, σ' = [some (.ref a), some (.ref bx), some (.ref rq), some (.ref bp), some (.ref rp), y5, y6, y7, y8, some (.ref kp), y, none] ∧ Same H2 H') (Xk.sq_of hk)
        ⟨_, rfl, Same.refl _⟩ ?_ ?_ ?_
      · rintro i σ' H' hi ⟨y, rfl, s3⟩
        exact Xk.sq_of (s3 _ _ hk)
      · rintro i x σ' H' hi ⟨y, rfl, s3⟩
        obtain ⟨k, he, rfl⟩ := Xk.of_map_at hi
        obtain ⟨r, hr⟩ := cell_ex hcL k
        wtm_at "xs"
        refine ⟨bp, L, k, rfl, hL2.same s3, by omega, r, hr, fun H4 s4 => ?_⟩
        wtm_at "xs"
        refine ⟨rp, M, k, rfl, hM2.same (s3.trans s4), by omega, r, by rw [← eLM]; exact hr, fun H5 s5 => ?_⟩
        wtm_at "xs"
        exact ⟨_, rfl, s3.trans (s4.trans s5)⟩
      · rintro σ' H3 ⟨y, rfl, s3⟩
        have hk3 := s3 _ _ hk
        wtm_at "xs"
        refine ⟨bp, kp, L, ks, rfl, hL2.same s3, by omega, hk3, hkl5, fun k _ => cell_ex hcL k, fun H4 tq T s4 hT eT => ?_⟩
        have hT1 := hT.tup
        wtm_at "xs"
        refine Xk.x_lcL (xs := ks.map V.str) (fun Dl i H' => Same H4 H' ∧ ∃ U : List (Addr × Str × Int), H' Dl = some (.lst (U.map fun e => V.ref e.1)) ∧ (∀ e ∈ U, H' e.1 = some (.tup [.str e.2.1, .int e.2.2])) ∧ U.map (·.2) = (ks.take i).map (fun k => (k, cellK k (L.map (·.2))))) (Xk.sq_of (s4 _ _ hk3)) ?_ ?_ ?_ ?_
        · intro Dl hD
          exact ⟨Xk.same_fr hD, [], upd_same, fun e z => (by cases z), rfl⟩
        · rintro Dl i H' hD ⟨s5, _⟩
          exact Xk.sq_of ((s4.trans s5) _ _ hk3)
        · rintro Dl hD i x H' hi ⟨s5, U, t1, t2, t3⟩
          obtain ⟨k, he, rfl⟩ := Xk.of_map_at hi
          obtain ⟨r, hr⟩ := cell_ex hcL k
          wtm_at "xs"
          refine ⟨rfl, ?_⟩
          wtm_at "xs"
          refine ⟨rp, M, k, rfl, hM2.same (s3.trans (s4.trans s5)), by omega, r, by rw [← eLM]; exact hr, fun H6 s6 => ?_⟩
          wtm_at "xs"
          intro tp H7 htp s7 h7
          have s67 := s6.trans s7
          have hU : U.length ≤ ks.length := by
            have z := congrArg List.length t3
            simp only [List.length_map, List.length_take] at z
            omega
          have t14 := s67 _ _ t1
          refine ⟨_, t14, Xk.size_lt (by rw [List.length_map]; omega), Xk.same_mut (s5.trans s67) hD, U ++ [(tp, k, r.2.2.1)], by rw [upd_same, List.map_append]; rfl, fun z hz => ?_, ?_⟩
          · rcases List.mem_append.mp hz with hz | hz
            · exact keep_tup (s67 _ _ (t2 z hz)) t14
            · rw [List.mem_singleton.mp hz]
              exact keep_tup h7 t14
          · rw [List.map_append, t3, List.take_add_one, he, List.map_append]
            show _ ++ [(k, r.2.2.1)] = _ ++ [(k, cellK k (L.map (·.2)))]
            rw [cellK_of hr]
        · rintro Dl H5 hD ⟨s5, U, t1, t2, t3⟩
          rw [List.length_map, List.take_length] at t3
          wtm_at "xs"
          intro uq H6 huq s6 h6
          have hT6 := hT.same (s5.trans s6)
          have oT : ∀ x ∈ T.map (·.2), Ok x.1 := by
            rw [eT]
            intro x hx
            obtain ⟨k, hk, rfl⟩ := List.mem_map.mp hx
            exact hko k hk
          have p1 := pk_pairs (K := K) hT6.it oT
          have p2 := pk_pairs (K := K) (H := H6) (T := U) (fun e he => s6 _ _ (t2 e he)) (by rw [t3, ← eT]; exact oT)
          rw [t3, ← eT] at p2
          refine Xk.x_eqPk (Xk.pk_tup (Xk.st_of hT6.tup) p1) (Xk.pk_tup (Xk.st_of h6) p2) ?_
          exact q _
end
theorem all_mk {l : PySem.W.OpenLaw} {w : World} {K : PySem.W.Frag} {h : Heap} {mg : Str → Option Value} {fa f_key_in f_is_within f_with_ends f_first_beliefs f_cell_of f_learned f_places_of f__cut f__row_behind f__law_number f__law_take f__law_key f__law_ranges f__law_first f__law_cut f__law_learned f__law_hint f__law_cell f_law : Addr} (X : K.In h) (G : h.Ns mainGlobals mg) (hfa : mg "law" = some (.ref fa))
    {od_key_in an_key_in od_is_within an_is_within od_with_ends an_with_ends od_first_beliefs an_first_beliefs od_cell_of an_cell_of od_learned an_learned od_places_of an_places_of od__cut an__cut od__row_behind an__row_behind od__law_number an__law_number od__law_take an__law_take od__law_key an__law_key od__law_ranges an__law_ranges od__law_first an__law_first od__law_cut an__law_cut od__law_learned an__law_learned od__law_hint an__law_hint od__law_cell an__law_cell od_law an_law : Option Addr} {sl_key_in sl_is_within sl_with_ends sl_first_beliefs sl_cell_of sl_learned sl_places_of sl__cut sl__row_behind sl__law_number sl__law_take sl__law_key sl__law_ranges sl__law_first sl__law_cut sl__law_learned sl__law_hint sl__law_cell sl_law : Array (Option Value)} {oc_key_in kV_key_in dc_key_in pm_key_in cd_key_in ct_key_in oc_is_within kV_is_within dc_is_within pm_is_within cd_is_within ct_is_within oc_with_ends kV_with_ends dc_with_ends pm_with_ends cd_with_ends ct_with_ends oc_first_beliefs kV_first_beliefs dc_first_beliefs pm_first_beliefs cd_first_beliefs ct_first_beliefs oc_cell_of kV_cell_of dc_cell_of pm_cell_of cd_cell_of ct_cell_of oc_learned kV_learned dc_learned pm_learned cd_learned ct_learned oc_places_of kV_places_of dc_places_of pm_places_of cd_places_of ct_places_of oc__cut kV__cut dc__cut pm__cut cd__cut ct__cut oc__row_behind kV__row_behind dc__row_behind pm__row_behind cd__row_behind ct__row_behind oc__law_number kV__law_number dc__law_number pm__law_number cd__law_number ct__law_number oc__law_take kV__law_take dc__law_take pm__law_take cd__law_take ct__law_take oc__law_key kV__law_key dc__law_key pm__law_key cd__law_key ct__law_key oc__law_ranges kV__law_ranges dc__law_ranges pm__law_ranges cd__law_ranges ct__law_ranges oc__law_first kV__law_first dc__law_first pm__law_first cd__law_first ct__law_first oc__law_cut kV__law_cut dc__law_cut pm__law_cut cd__law_cut ct__law_cut oc__law_learned kV__law_learned dc__law_learned pm__law_learned cd__law_learned ct__law_learned oc__law_hint kV__law_hint dc__law_hint pm__law_hint cd__law_hint ct__law_hint oc__law_cell kV__law_cell dc__law_cell pm__law_cell cd__law_cell ct__law_cell oc_law kV_law dc_law pm_law cd_law ct_law : Value}
    (a_key_in : PySem.W.nsIn K mainGlobals "key_in" = some (some (.ref f_key_in)))
    (l_key_in : K.lookup f_key_in = some ⟨oc_key_in, od_key_in, .func (PySem.W.fnOf "key_in" "key_in" (defArgs s_key_in) (defBody s_key_in) (defScope s_key_in) .none kV_key_in dc_key_in pm_key_in an_key_in cd_key_in ct_key_in), sl_key_in⟩)
    (c_key_in : PySem.W.codeIn K cd_key_in "key_in" = true)
    (k_key_in : PySem.W.keepIn K (.ref f_key_in) = true)
    (a_is_within : PySem.W.nsIn K mainGlobals "is_within" = some (some (.ref f_is_within)))
    (l_is_within : K.lookup f_is_within = some ⟨oc_is_within, od_is_within, .func (PySem.W.fnOf "is_within" "is_within" (defArgs s_is_within) (defBody s_is_within) (defScope s_is_within) .none kV_is_within dc_is_within pm_is_within an_is_within cd_is_within ct_is_within), sl_is_within⟩)
    (c_is_within : PySem.W.codeIn K cd_is_within "is_within" = true)
    (k_is_within : PySem.W.keepIn K (.ref f_is_within) = true)
    (a_with_ends : PySem.W.nsIn K mainGlobals "with_ends" = some (some (.ref f_with_ends)))
    (l_with_ends : K.lookup f_with_ends = some ⟨oc_with_ends, od_with_ends, .func (PySem.W.fnOf "with_ends" "with_ends" (defArgs s_with_ends) (defBody s_with_ends) (defScope s_with_ends) .none kV_with_ends dc_with_ends pm_with_ends an_with_ends cd_with_ends ct_with_ends), sl_with_ends⟩)
    (c_with_ends : PySem.W.codeIn K cd_with_ends "with_ends" = true)
    (k_with_ends : PySem.W.keepIn K (.ref f_with_ends) = true)
    (a_first_beliefs : PySem.W.nsIn K mainGlobals "first_beliefs" = some (some (.ref f_first_beliefs)))
    (l_first_beliefs : K.lookup f_first_beliefs = some ⟨oc_first_beliefs, od_first_beliefs, .func (PySem.W.fnOf "first_beliefs" "first_beliefs" (defArgs s_first_beliefs) (defBody s_first_beliefs) (defScope s_first_beliefs) .none kV_first_beliefs dc_first_beliefs pm_first_beliefs an_first_beliefs cd_first_beliefs ct_first_beliefs), sl_first_beliefs⟩)
    (c_first_beliefs : PySem.W.codeIn K cd_first_beliefs "first_beliefs" = true)
    (k_first_beliefs : PySem.W.keepIn K (.ref f_first_beliefs) = true)
    (a_cell_of : PySem.W.nsIn K mainGlobals "cell_of" = some (some (.ref f_cell_of)))
    (l_cell_of : K.lookup f_cell_of = some ⟨oc_cell_of, od_cell_of, .func (PySem.W.fnOf "cell_of" "cell_of" (defArgs s_cell_of) (defBody s_cell_of) (defScope s_cell_of) .none kV_cell_of dc_cell_of pm_cell_of an_cell_of cd_cell_of ct_cell_of), sl_cell_of⟩)
    (c_cell_of : PySem.W.codeIn K cd_cell_of "cell_of" = true)
    (k_cell_of : PySem.W.keepIn K (.ref f_cell_of) = true)
    (a_learned : PySem.W.nsIn K mainGlobals "learned" = some (some (.ref f_learned)))
    (l_learned : K.lookup f_learned = some ⟨oc_learned, od_learned, .func (PySem.W.fnOf "learned" "learned" (defArgs s_learned) (defBody s_learned) (defScope s_learned) .none kV_learned dc_learned pm_learned an_learned cd_learned ct_learned), sl_learned⟩)
    (c_learned : PySem.W.codeIn K cd_learned "learned" = true)
    (k_learned : PySem.W.keepIn K (.ref f_learned) = true)
    (a_places_of : PySem.W.nsIn K mainGlobals "places_of" = some (some (.ref f_places_of)))
    (l_places_of : K.lookup f_places_of = some ⟨oc_places_of, od_places_of, .func (PySem.W.fnOf "places_of" "places_of" (defArgs s_places_of) (defBody s_places_of) (defScope s_places_of) .none kV_places_of dc_places_of pm_places_of an_places_of cd_places_of ct_places_of), sl_places_of⟩)
    (c_places_of : PySem.W.codeIn K cd_places_of "places_of" = true)
    (k_places_of : PySem.W.keepIn K (.ref f_places_of) = true)
    (a__cut : PySem.W.nsIn K mainGlobals "_cut" = some (some (.ref f__cut)))
    (l__cut : K.lookup f__cut = some ⟨oc__cut, od__cut, .func (PySem.W.fnOf "_cut" "_cut" (defArgs s__cut) (defBody s__cut) (defScope s__cut) .none kV__cut dc__cut pm__cut an__cut cd__cut ct__cut), sl__cut⟩)
    (c__cut : PySem.W.codeIn K cd__cut "_cut" = true)
    (k__cut : PySem.W.keepIn K (.ref f__cut) = true)
    (a__row_behind : PySem.W.nsIn K mainGlobals "_row_behind" = some (some (.ref f__row_behind)))
    (l__row_behind : K.lookup f__row_behind = some ⟨oc__row_behind, od__row_behind, .func (PySem.W.fnOf "_row_behind" "_row_behind" (defArgs s__row_behind) (defBody s__row_behind) (defScope s__row_behind) .none kV__row_behind dc__row_behind pm__row_behind an__row_behind cd__row_behind ct__row_behind), sl__row_behind⟩)
    (c__row_behind : PySem.W.codeIn K cd__row_behind "_row_behind" = true)
    (k__row_behind : PySem.W.keepIn K (.ref f__row_behind) = true)
    (a__law_number : PySem.W.nsIn K mainGlobals "_law_number" = some (some (.ref f__law_number)))
    (l__law_number : K.lookup f__law_number = some ⟨oc__law_number, od__law_number, .func (PySem.W.fnOf "_law_number" "_law_number" (defArgs s__law_number) (defBody s__law_number) (defScope s__law_number) .none kV__law_number dc__law_number pm__law_number an__law_number cd__law_number ct__law_number), sl__law_number⟩)
    (c__law_number : PySem.W.codeIn K cd__law_number "_law_number" = true)
    (k__law_number : PySem.W.keepIn K (.ref f__law_number) = true)
    (a__law_take : PySem.W.nsIn K mainGlobals "_law_take" = some (some (.ref f__law_take)))
    (l__law_take : K.lookup f__law_take = some ⟨oc__law_take, od__law_take, .func (PySem.W.fnOf "_law_take" "_law_take" (defArgs s__law_take) (defBody s__law_take) (defScope s__law_take) .none kV__law_take dc__law_take pm__law_take an__law_take cd__law_take ct__law_take), sl__law_take⟩)
    (c__law_take : PySem.W.codeIn K cd__law_take "_law_take" = true)
    (k__law_take : PySem.W.keepIn K (.ref f__law_take) = true)
    (a__law_key : PySem.W.nsIn K mainGlobals "_law_key" = some (some (.ref f__law_key)))
    (l__law_key : K.lookup f__law_key = some ⟨oc__law_key, od__law_key, .func (PySem.W.fnOf "_law_key" "_law_key" (defArgs s__law_key) (defBody s__law_key) (defScope s__law_key) .none kV__law_key dc__law_key pm__law_key an__law_key cd__law_key ct__law_key), sl__law_key⟩)
    (c__law_key : PySem.W.codeIn K cd__law_key "_law_key" = true)
    (k__law_key : PySem.W.keepIn K (.ref f__law_key) = true)
    (a__law_ranges : PySem.W.nsIn K mainGlobals "_law_ranges" = some (some (.ref f__law_ranges)))
    (l__law_ranges : K.lookup f__law_ranges = some ⟨oc__law_ranges, od__law_ranges, .func (PySem.W.fnOf "_law_ranges" "_law_ranges" (defArgs s__law_ranges) (defBody s__law_ranges) (defScope s__law_ranges) .none kV__law_ranges dc__law_ranges pm__law_ranges an__law_ranges cd__law_ranges ct__law_ranges), sl__law_ranges⟩)
    (c__law_ranges : PySem.W.codeIn K cd__law_ranges "_law_ranges" = true)
    (k__law_ranges : PySem.W.keepIn K (.ref f__law_ranges) = true)
    (a__law_first : PySem.W.nsIn K mainGlobals "_law_first" = some (some (.ref f__law_first)))
    (l__law_first : K.lookup f__law_first = some ⟨oc__law_first, od__law_first, .func (PySem.W.fnOf "_law_first" "_law_first" (defArgs s__law_first) (defBody s__law_first) (defScope s__law_first) .none kV__law_first dc__law_first pm__law_first an__law_first cd__law_first ct__law_first), sl__law_first⟩)
    (c__law_first : PySem.W.codeIn K cd__law_first "_law_first" = true)
    (k__law_first : PySem.W.keepIn K (.ref f__law_first) = true)
    (a__law_cut : PySem.W.nsIn K mainGlobals "_law_cut" = some (some (.ref f__law_cut)))
    (l__law_cut : K.lookup f__law_cut = some ⟨oc__law_cut, od__law_cut, .func (PySem.W.fnOf "_law_cut" "_law_cut" (defArgs s__law_cut) (defBody s__law_cut) (defScope s__law_cut) .none kV__law_cut dc__law_cut pm__law_cut an__law_cut cd__law_cut ct__law_cut), sl__law_cut⟩)
    (c__law_cut : PySem.W.codeIn K cd__law_cut "_law_cut" = true)
    (k__law_cut : PySem.W.keepIn K (.ref f__law_cut) = true)
    (a__law_learned : PySem.W.nsIn K mainGlobals "_law_learned" = some (some (.ref f__law_learned)))
    (l__law_learned : K.lookup f__law_learned = some ⟨oc__law_learned, od__law_learned, .func (PySem.W.fnOf "_law_learned" "_law_learned" (defArgs s__law_learned) (defBody s__law_learned) (defScope s__law_learned) .none kV__law_learned dc__law_learned pm__law_learned an__law_learned cd__law_learned ct__law_learned), sl__law_learned⟩)
    (c__law_learned : PySem.W.codeIn K cd__law_learned "_law_learned" = true)
    (k__law_learned : PySem.W.keepIn K (.ref f__law_learned) = true)
    (a__law_hint : PySem.W.nsIn K mainGlobals "_law_hint" = some (some (.ref f__law_hint)))
    (l__law_hint : K.lookup f__law_hint = some ⟨oc__law_hint, od__law_hint, .func (PySem.W.fnOf "_law_hint" "_law_hint" (defArgs s__law_hint) (defBody s__law_hint) (defScope s__law_hint) .none kV__law_hint dc__law_hint pm__law_hint an__law_hint cd__law_hint ct__law_hint), sl__law_hint⟩)
    (c__law_hint : PySem.W.codeIn K cd__law_hint "_law_hint" = true)
    (k__law_hint : PySem.W.keepIn K (.ref f__law_hint) = true)
    (a__law_cell : PySem.W.nsIn K mainGlobals "_law_cell" = some (some (.ref f__law_cell)))
    (l__law_cell : K.lookup f__law_cell = some ⟨oc__law_cell, od__law_cell, .func (PySem.W.fnOf "_law_cell" "_law_cell" (defArgs s__law_cell) (defBody s__law_cell) (defScope s__law_cell) .none kV__law_cell dc__law_cell pm__law_cell an__law_cell cd__law_cell ct__law_cell), sl__law_cell⟩)
    (c__law_cell : PySem.W.codeIn K cd__law_cell "_law_cell" = true)
    (k__law_cell : PySem.W.keepIn K (.ref f__law_cell) = true)
    (a_law : PySem.W.nsIn K mainGlobals "law" = some (some (.ref f_law)))
    (l_law : K.lookup f_law = some ⟨oc_law, od_law, .func (PySem.W.fnOf "law" "law" (defArgs s_law) (defBody s_law) (defScope s_law) .none kV_law dc_law pm_law an_law cd_law ct_law), sl_law⟩)
    (c_law : PySem.W.codeIn K cd_law "law" = true)
    (k_law : PySem.W.keepIn K (.ref f_law) = true)
    (z_int : PySem.W.nsIn K mainGlobals "int" = some none)
    (z_isinstance : PySem.W.nsIn K mainGlobals "isinstance" = some none)
    (z_len : PySem.W.nsIn K mainGlobals "len" = some none)
    (z_list : PySem.W.nsIn K mainGlobals "list" = some none)
    (z_range : PySem.W.nsIn K mainGlobals "range" = some none)
    (z_sorted : PySem.W.nsIn K mainGlobals "sorted" = some none)
    (z_tuple : PySem.W.nsIn K mainGlobals "tuple" = some none)
    (z_zip : PySem.W.nsIn K mainGlobals "zip" = some none)
    : ∃ fd : FuncData, (∀ (s : Shared) (v : Value), BindsTo s fd ⟨[v], []⟩ [("script", v)]) ∧ ∀ base : Heap, K.In base → base.Ns mainGlobals mg → FnOk l.prog w K mg base CX0 4 fa fd ["script"] (sp_law K) := by
  have e := hfa.symm.trans (PySem.W.mg_of X G a_law)
  cases e
  have F_key_in := fun_mk (st := s_key_in) l_key_in c_key_in k_key_in
  have b_key_in := F_key_in.binds (ps := ["key", "start", "end"]) fun _ _ _ _ _ _ us hl => match us, hl with | [_, _, _], _ => rfl
  have F_is_within := fun_mk (st := s_is_within) l_is_within c_is_within k_is_within
  have b_is_within := F_is_within.binds (ps := ["start", "end", "low", "high"]) fun _ _ _ _ _ _ us hl => match us, hl with | [_, _, _, _], _ => rfl
  have F_with_ends := fun_mk (st := s_with_ends) l_with_ends c_with_ends k_with_ends
  have b_with_ends := F_with_ends.binds (ps := ["ranges"]) fun _ _ _ _ _ _ us hl => match us, hl with | [_], _ => rfl
  have F_first_beliefs := fun_mk (st := s_first_beliefs) l_first_beliefs c_first_beliefs k_first_beliefs
  have b_first_beliefs := F_first_beliefs.binds (ps := ["ranges"]) fun _ _ _ _ _ _ us hl => match us, hl with | [_], _ => rfl
  have F_cell_of := fun_mk (st := s_cell_of) l_cell_of c_cell_of k_cell_of
  have b_cell_of := F_cell_of.binds (ps := ["beliefs", "key"]) fun _ _ _ _ _ _ us hl => match us, hl with | [_, _], _ => rfl
  have F_learned := fun_mk (st := s_learned) l_learned c_learned k_learned
  have b_learned := F_learned.binds (ps := ["beliefs", "hint"]) fun _ _ _ _ _ _ us hl => match us, hl with | [_, _], _ => rfl
  have F_places_of := fun_mk (st := s_places_of) l_places_of c_places_of k_places_of
  have b_places_of := F_places_of.binds (ps := ["beliefs", "names"]) fun _ _ _ _ _ _ us hl => match us, hl with | [_, _], _ => rfl
  have F__cut := fun_mk (st := s__cut) l__cut c__cut k__cut
  have b__cut := F__cut.binds (ps := ["beliefs", "bound"]) fun _ _ _ _ _ _ us hl => match us, hl with | [_, _], _ => rfl
  have F__row_behind := fun_mk (st := s__row_behind) l__row_behind c__row_behind k__row_behind
  have b__row_behind := F__row_behind.binds (ps := ["row", "hint"]) fun _ _ _ _ _ _ us hl => match us, hl with | [_, _], _ => rfl
  have F__law_number := fun_mk (st := s__law_number) l__law_number c__law_number k__law_number
  have b__law_number := F__law_number.binds (ps := ["script", "k"]) fun _ _ _ _ _ _ us hl => match us, hl with | [_, _], _ => rfl
  have F__law_take := fun_mk (st := s__law_take) l__law_take c__law_take k__law_take
  have b__law_take := F__law_take.binds (ps := ["box", "size"]) fun _ _ _ _ _ _ us hl => match us, hl with | [_, _], _ => rfl
  have F__law_key := fun_mk (st := s__law_key) l__law_key c__law_key k__law_key
  have b__law_key := F__law_key.binds (ps := ["box", "sign"]) fun _ _ _ _ _ _ us hl => match us, hl with | [_, _], _ => rfl
  have F__law_ranges := fun_mk (st := s__law_ranges) l__law_ranges c__law_ranges k__law_ranges
  have b__law_ranges := F__law_ranges.binds (ps := ["box"]) fun _ _ _ _ _ _ us hl => match us, hl with | [_], _ => rfl
  have F__law_first := fun_mk (st := s__law_first) l__law_first c__law_first k__law_first
  have b__law_first := F__law_first.binds (ps := ["ranges"]) fun _ _ _ _ _ _ us hl => match us, hl with | [_], _ => rfl
  have F__law_cut := fun_mk (st := s__law_cut) l__law_cut c__law_cut k__law_cut
  have b__law_cut := F__law_cut.binds (ps := ["rows", "key"]) fun _ _ _ _ _ _ us hl => match us, hl with | [_, _], _ => rfl
  have F__law_learned := fun_mk (st := s__law_learned) l__law_learned c__law_learned k__law_learned
  have b__law_learned := F__law_learned.binds (ps := ["rows", "hint"]) fun _ _ _ _ _ _ us hl => match us, hl with | [_, _], _ => rfl
  have F__law_hint := fun_mk (st := s__law_hint) l__law_hint c__law_hint k__law_hint
  have b__law_hint := F__law_hint.binds (ps := ["box", "rows"]) fun _ _ _ _ _ _ us hl => match us, hl with | [_, _], _ => rfl
  have F__law_cell := fun_mk (st := s__law_cell) l__law_cell c__law_cell k__law_cell
  have b__law_cell := F__law_cell.binds (ps := ["rows", "key"]) fun _ _ _ _ _ _ us hl => match us, hl with | [_, _], _ => rfl
  have F_law := fun_mk (st := s_law) l_law c_law k_law
  have b_law := F_law.binds (ps := ["script"]) fun _ _ _ _ _ _ us hl => match us, hl with | [_], _ => rfl
  let T : Txt K mg := ⟨f_key_in, _, F_key_in, b_key_in, PySem.W.mg_of X G a_key_in, f_is_within, _, F_is_within, b_is_within, PySem.W.mg_of X G a_is_within, f_with_ends, _, F_with_ends, b_with_ends, PySem.W.mg_of X G a_with_ends, f_first_beliefs, _, F_first_beliefs, b_first_beliefs, PySem.W.mg_of X G a_first_beliefs, f_cell_of, _, F_cell_of, b_cell_of, PySem.W.mg_of X G a_cell_of, f_learned, _, F_learned, b_learned, PySem.W.mg_of X G a_learned, f_places_of, _, F_places_of, b_places_of, PySem.W.mg_of X G a_places_of, f__cut, _, F__cut, b__cut, PySem.W.mg_of X G a__cut, f__row_behind, _, F__row_behind, b__row_behind, PySem.W.mg_of X G a__row_behind, f__law_number, _, F__law_number, b__law_number, PySem.W.mg_of X G a__law_number, f__law_take, _, F__law_take, b__law_take, PySem.W.mg_of X G a__law_take, f__law_key, _, F__law_key, b__law_key, PySem.W.mg_of X G a__law_key, f__law_ranges, _, F__law_ranges, b__law_ranges, PySem.W.mg_of X G a__law_ranges, f__law_first, _, F__law_first, b__law_first, PySem.W.mg_of X G a__law_first, f__law_cut, _, F__law_cut, b__law_cut, PySem.W.mg_of X G a__law_cut, f__law_learned, _, F__law_learned, b__law_learned, PySem.W.mg_of X G a__law_learned, f__law_hint, _, F__law_hint, b__law_hint, PySem.W.mg_of X G a__law_hint, f__law_cell, _, F__law_cell, b__law_cell, PySem.W.mg_of X G a__law_cell, fa, _, F_law, b_law, PySem.W.mg_of X G a_law, PySem.W.mg_none_of X G z_int, PySem.W.mg_none_of X G z_isinstance, PySem.W.mg_none_of X G z_len, PySem.W.mg_none_of X G z_list, PySem.W.mg_none_of X G z_range, PySem.W.mg_none_of X G z_sorted, PySem.W.mg_none_of X G z_tuple, PySem.W.mg_none_of X G z_zip⟩
  exact ⟨PySem.W.fnOf "law" "law" (defArgs s_law) (defBody s_law) (defScope s_law) .none kV_law dc_law pm_law an_law cd_law ct_law, fun s v => .of_eq rfl, fun base _ _ => ok_law T⟩
end K70
open PySem PySem.W PyProof.Rows
set_option maxRecDepth 100000 in
set_option maxHeartbeats 0 in
theorem PySem.Challenge.cw_crosskeep_k70_beliefs_learn_hints_holds : PySem.Challenge.rw_crosskeep_k70_beliefs_learn_hints.Holds := by
  w_on; o_law; k_head; (case hw => w_witness2)
  k_fill
  refine L2.walk_of (l := PySem.Challenge.rw_crosskeep_k70_beliefs_learn_hints) (n := 63) (k := 4) (x := "script") (CX := fun _ => L2.CX0) (sp := fun w => K70.sp_law _) rfl (by decide) rfl ⟨rfl, by decide, by decide⟩ (fun w h Y => PySem.W.kIn_of Y) ?F (fun _ _ a ns hl _ hS => ⟨a, ns, rfl, hS, hl, fun _ => rfl⟩) (fun _ _ _ _ _ h => h)
  case F =>
    intro w mg fa h KX G hmg
    refine' K70.all_mk KX G hmg ?a_key_in ?l_key_in ?c_key_in ?k_key_in ?a_is_within ?l_is_within ?c_is_within ?k_is_within ?a_with_ends ?l_with_ends ?c_with_ends ?k_with_ends ?a_first_beliefs ?l_first_beliefs ?c_first_beliefs ?k_first_beliefs ?a_cell_of ?l_cell_of ?c_cell_of ?k_cell_of ?a_learned ?l_learned ?c_learned ?k_learned ?a_places_of ?l_places_of ?c_places_of ?k_places_of ?a__cut ?l__cut ?c__cut ?k__cut ?a__row_behind ?l__row_behind ?c__row_behind ?k__row_behind ?a__law_number ?l__law_number ?c__law_number ?k__law_number ?a__law_take ?l__law_take ?c__law_take ?k__law_take ?a__law_key ?l__law_key ?c__law_key ?k__law_key ?a__law_ranges ?l__law_ranges ?c__law_ranges ?k__law_ranges ?a__law_first ?l__law_first ?c__law_first ?k__law_first ?a__law_cut ?l__law_cut ?c__law_cut ?k__law_cut ?a__law_learned ?l__law_learned ?c__law_learned ?k__law_learned ?a__law_hint ?l__law_hint ?c__law_hint ?k__law_hint ?a__law_cell ?l__law_cell ?c__law_cell ?k__law_cell ?a_law ?l_law ?c_law ?k_law ?z_int ?z_isinstance ?z_len ?z_list ?z_range ?z_sorted ?z_tuple ?z_zip
    (case a_key_in => k_is)
    (case l_key_in => k_is)
    (case c_key_in => k_is)
    (case k_key_in => k_is)
    (case a_is_within => k_is)
    (case l_is_within => k_is)
    (case c_is_within => k_is)
    (case k_is_within => k_is)
    (case a_with_ends => k_is)
    (case l_with_ends => k_is)
    (case c_with_ends => k_is)
    (case k_with_ends => k_is)
    (case a_first_beliefs => k_is)
    (case l_first_beliefs => k_is)
    (case c_first_beliefs => k_is)
    (case k_first_beliefs => k_is)
    (case a_cell_of => k_is)
    (case l_cell_of => k_is)
    (case c_cell_of => k_is)
    (case k_cell_of => k_is)
    (case a_learned => k_is)
    (case l_learned => k_is)
    (case c_learned => k_is)
    (case k_learned => k_is)
    (case a_places_of => k_is)
    (case l_places_of => k_is)
    (case c_places_of => k_is)
    (case k_places_of => k_is)
    (case a__cut => k_is)
    (case l__cut => k_is)
    (case c__cut => k_is)
    (case k__cut => k_is)
    (case a__row_behind => k_is)
    (case l__row_behind => k_is)
    (case c__row_behind => k_is)
    (case k__row_behind => k_is)
    (case a__law_number => k_is)
    (case l__law_number => k_is)
    (case c__law_number => k_is)
    (case k__law_number => k_is)
    (case a__law_take => k_is)
    (case l__law_take => k_is)
    (case c__law_take => k_is)
    (case k__law_take => k_is)
    (case a__law_key => k_is)
    (case l__law_key => k_is)
    (case c__law_key => k_is)
    (case k__law_key => k_is)
    (case a__law_ranges => k_is)
    (case l__law_ranges => k_is)
    (case c__law_ranges => k_is)
    (case k__law_ranges => k_is)
    (case a__law_first => k_is)
    (case l__law_first => k_is)
    (case c__law_first => k_is)
    (case k__law_first => k_is)
    (case a__law_cut => k_is)
    (case l__law_cut => k_is)
    (case c__law_cut => k_is)
    (case k__law_cut => k_is)
    (case a__law_learned => k_is)
    (case l__law_learned => k_is)
    (case c__law_learned => k_is)
    (case k__law_learned => k_is)
    (case a__law_hint => k_is)
    (case l__law_hint => k_is)
    (case c__law_hint => k_is)
    (case k__law_hint => k_is)
    (case a__law_cell => k_is)
    (case l__law_cell => k_is)
    (case c__law_cell => k_is)
    (case k__law_cell => k_is)
    (case a_law => k_is)
    (case l_law => k_is)
    (case c_law => k_is)
    (case k_law => k_is)
    (case z_int => k_is)
    (case z_isinstance => k_is)
    (case z_len => k_is)
    (case z_list => k_is)
    (case z_range => k_is)
    (case z_sorted => k_is)
    (case z_tuple => k_is)
    (case z_zip => k_is)
#print axioms PySem.Challenge.cw_crosskeep_k70_beliefs_learn_hints_holds

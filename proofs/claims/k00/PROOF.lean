import PyProof.Rows.All
import Wide.All
import OpenK.AllK
import Wide.FinOn
import HandS.ForMost
import HandS.TryOnly
import HandS.IsInst
import HandS.Evl
import HandS.Wide
import HandS.TupAny
import HandS.SortInts
import HandS.Style
import HandS.Strs
import HandS.SetFor
import HandS.Conv
import HandS.More
import HandS.Walk
import HandS.WideBits
import HandS.Property
import HandS.TupLe
import HandS.Defaults
import HandS.Deep
import HandS.RevRange
import PyProof.StrOps2
import HandS.TupMul
import HandS.DictComp
import KE.GoesMore
import KE.SortKeyHeap
import KE.DataCmp
import PySem.Challenge.RW_crosskeep_k00_keys_values_and_ranges
set_option Elab.async false
set_option linter.all false
set_option maxRecDepth 100000
set_option maxHeartbeats 4000000

/-! ## readings, one step at a time (a layer of our own over the hand layer) -/
namespace Xk
open PySem PySem.Spec PyProof.Rows L2

section
variable {K : PySem.W.Frag} {σ : L2.St} {H H0 H1 H2 : Hp} {Q : VK} {ta tb tc te : TE} {t u : TT} {D : Ends} {tz tu tw : TS} {g : TG} {x y z v : V} {i j : Int} {b : Bool}

/-! ### values -/
theorem rel_ref {a : Addr} : RelV (.ref a) (.ref a) := rfl
theorem rel_ty {T : String} : RelV (.ty T) (.type T) := rfl
theorem rel_int {tk : Tok} : RelV (.int i) (.int i tk) := ⟨tk, rfl⟩
theorem rel_str {s : Str} {tk : Tok} : RelV (.str s) (.str s tk) := ⟨tk, rfl⟩

/-! ### heaps -/
/-- nothing stands at p -/
structure Fr (p : Addr) (H : Hp) : Prop where
  is : H p = none
theorem same_fr {p : Addr} {o : HO} (h : Fr p H) : Same H (upd H p o) := fun c x e => by
  rw [upd_ne (ne_of_none e h.is)]
  exact e
theorem same_new {p : Addr} {o : HO} (h : H p = none) : Same H (upd H p o) := fun c x e => by
  rw [upd_ne (ne_of_none e h)]
  exact e
theorem same_mut {p : Addr} {o : HO} (e : Same H H1) (h : Fr p H) : Same H (upd H1 p o) := fun c x ha => by
  rw [upd_ne (ne_of_none ha h.is)]
  exact e c x ha
theorem same_at {a : Addr} {o : HO} (e : Same H H1) (h : H a = some o) : H1 a = some o := e a o h
theorem free_back {p : Addr} (h : Fr p H1) (e : Same H H1) : Fr p H := ⟨Same.free e h.is⟩
theorem ne_new {a p : Addr} {o : HO} (h' : Fr p H) (h : H a = some o) : a ≠ p := ne_of_none h h'.is
theorem sq_of {a : Addr} {xs : List V} (h : H a = some (.lst xs)) : SqL K H a xs := Or.inl (Or.inl h)
theorem st_of {a : Addr} {xs : List V} (h : H a = some (.tup xs)) : SqT K H a xs := Or.inl (Or.inl h)
theorem sq_same {a : Addr} {xs : List V} (h : SqL K H a xs) (e : Same H H1) : SqL K H1 a xs := e.seq h
theorem st_same {a : Addr} {xs : List V} (h : SqT K H a xs) (e : Same H H1) : SqT K H1 a xs := by
  rcases h with (h | ⟨o, h⟩) | h
  · exact .inl (.inl (e _ _ h))
  · exact .inl (.inr ⟨o, e _ _ h⟩)
  · exact .inr h
theorem size_ok {n : Nat} (h : n ≤ 100000) : n ≤ sizeLine := Nat.le_trans h (by decide)
theorem size_lt {n : Nat} (h : n < 100000) : n < sizeLine := Nat.lt_of_lt_of_le h (by decide)

/-- all that was tracked but at p is as it was -/
def But (p : Addr) (H H' : Hp) : Prop := ∀ b o, b ≠ p → H b = some o → H' b = some o
theorem But.refl (p : Addr) (H : Hp) : But p H H := fun _ _ _ h => h
theorem but_same {p : Addr} (e : Same H H1) : But p H H1 := fun b o _ h => e b o h
theorem but_trans {p : Addr} (e : But p H H1) (e' : But p H1 H2) : But p H H2 := fun b o n h => e' b o n (e b o n h)
theorem but_mut {p : Addr} {o : HO} (e : But p H H1) : But p H (upd H1 p o) := fun b u n h => by
  rw [upd_ne n]
  exact e b u n h
theorem but_new {p q : Addr} {o : HO} (e : But p H H1) (h : Fr q H) : But p H (upd H1 q o) := fun b u n g => by
  rw [upd_ne (ne_of_none g h.is)]
  exact e b u n g
theorem but_at {p a : Addr} {o : HO} (e : But p H H1) (n : a ≠ p) (h : H a = some o) : H1 a = some o := e a o n h
theorem none_but {p a : Addr} {o u : HO} (h : H p = some o) (e : But p H H1) (h1 : H1 p = some u) (ha : Fr a H1) : Fr a H := by
  refine ⟨?_⟩
  cases q : H a with
  | none => rfl
  | some v =>
    by_cases n : a = p
    · subst n
      rw [ha.is] at h1
      cases h1
    · have := e a v n q
      rw [ha.is] at this
      cases this
theorem fr_upd {p q : Addr} {o : HO} (h : Fr p (upd H q o)) : Fr p H := by
  refine ⟨?_⟩
  have h1 := h.is
  unfold upd at h1
  split at h1
  · cases h1
  · exact h1
theorem same_but {p : Addr} (e : But p H H1) (h : Fr p H0) (e0 : Same H0 H) : Same H0 H1 := fun b o g => e b o (ne_of_none g h.is) (e0 b o g)

/-! ### expressions -/
theorem x_var {n : Nat} (h : σ[n]? = some (some v)) (q : Q v H) : tVar n σ H Q := ⟨v, h, q⟩
theorem x_c (q : Q v H) : tC v σ H Q := q
theorem x_op {r : R2} (q : ta σ H fun x H1 => tb σ H1 fun y H2 => r x y H2 Q) : tOp r ta tb σ H Q := q
theorem x_un {r : V → Hp → VK → Prop} (q : ta σ H fun x H1 => r x H1 Q) : tUn r ta σ H Q := q
theorem x_I0 {f : Int → Int → V} (q : Q (f i j) H) : rI0 f (.int i) (.int j) H Q := ⟨i, j, rfl, rfl, q⟩
theorem x_I {C : Int → Int → Prop} {f : Int → Int → V} (hc : C i j) (q : Q (f i j) H) : rI C f (.int i) (.int j) H Q := ⟨i, j, rfl, rfl, hc, q⟩
theorem x_U {f : Int → V} (q : Q (f i) H) : rU f (.int i) H Q := ⟨i, rfl, q⟩
theorem x_eq (h : scal x y = true) (q : Q (.bl (decide (x = y))) H) : rEq x y H Q := ⟨h, q⟩
theorem x_ne (h : scal x y = true) (q : Q (.bl (!decide (x = y))) H) : rNe x y H Q := ⟨h, q⟩
theorem x_ixL {p : Addr} {xs : List V} (h : SqL K H p xs) (ha : atI xs i = some v) (q : Q v H) : rIxL K (.ref p) (.int i) H Q := ⟨p, xs, i, v, rfl, rfl, h, ha, q⟩
theorem x_ixT {p : Addr} {xs : List V} (h : SqT K H p xs) (ha : atI xs i = some v) (q : Q v H) : rIxT K (.ref p) (.int i) H Q := ⟨p, xs, i, v, rfl, rfl, h, ha, q⟩
theorem x_ixS {w : Str} {c : Nat} (h : w.length ≤ 100000) (ha : atI w.cps.toList i = some c) (q : Q (.str ⟨#[c]⟩) H) : rIxS (.str w) (.int i) H Q := ⟨w, i, c, rfl, rfl, size_ok h, ha, q⟩
theorem x_nil {R : List V → Hp → Prop} (q : R [] H) : tNil σ H R := q
theorem x_cons {tr : TA} {R : List V → Hp → Prop} (q : ta σ H fun x H1 => tr σ H1 fun xs H2 => R (x :: xs) H2) : tCons ta tr σ H R := q
def New (Q : VK) (o : HO) (n : Nat) (H : Hp) : Prop := n ≤ sizeLine ∧ ∀ p, H p = none → Q (.ref p) (upd H p o)
theorem x_lst {tr : TA} (q : tr σ H fun xs H1 => New Q (.lst xs) xs.length H1) : tLst tr σ H Q := q
theorem x_tup {tr : TA} (q : tr σ H fun xs H1 => New Q (.tup xs) xs.length H1) : tTup tr σ H Q := q
/-- what is new is told by what it holds; the heap gets a name -/
theorem x_new {n : Nat} {o : HO} (hl : n ≤ 100000) (k : ∀ p H2, Fr p H → Same H H2 → H2 p = some o → Q (.ref p) H2) : New Q o n H :=
  ⟨size_ok hl, fun p hp => k p _ ⟨hp⟩ (same_new hp) upd_same⟩
theorem x_new1 {o : HO} (k : ∀ p H2, Fr p H → Same H H2 → H2 p = some o → Q (.ref p) H2) : ∀ p, H p = none → Q (.ref p) (upd H p o) :=
  fun p hp => k p _ ⟨hp⟩ (same_new hp) upd_same
theorem x_cb {r : List V → Hp → VK → Prop} {tr : TA} (q : tr σ H fun vs H1 => r vs H1 Q) : tCB r tr σ H Q := q
theorem x_call {sp : Sp} {dvs : List V} {E : XK} {tr : TA} (q : tr σ H fun vs H1 => sp (vs ++ dvs) H1 Q E) : tCall sp dvs E tr σ H Q := q
theorem x_sl {r : V → Option Int → Option Int → Hp → VK → Prop} {tl th : TO} (q : te σ H fun x H1 => tl σ H1 fun l H2 => th σ H2 fun u H3 => r x l u H3 Q) : tSl r te tl th σ H Q := q
theorem x_nopart {R : Option Int → Hp → Prop} (q : R none H) : tNoPart σ H R := q
theorem x_part {R : Option Int → Hp → Prop} (q : te σ H fun x H1 => ∃ i, x = .int i ∧ R (some i) H1) : tPart te σ H R := q
theorem x_if (q : t σ H fun c H1 => if c = true then ta σ H1 Q else tb σ H1 Q) : tIf t ta tb σ H Q := q
theorem x_andV (q : ta σ H fun x H1 => ∃ c, x = .bl c ∧ if c = true then tb σ H1 Q else Q (.bl false) H1) : tAndV ta tb σ H Q := q
theorem x_orV (q : ta σ H fun x H1 => ∃ c, x = .bl c ∧ if c = true then Q (.bl true) H1 else tb σ H1 Q) : tOrV ta tb σ H Q := q
theorem x_notV (q : ta σ H fun x H1 => ∃ c, x = .bl c ∧ Q (.bl (!c)) H1) : tNotV ta σ H Q := q
theorem x_bl {R : Bool → Prop} (q : R b) : ∃ c, V.bl b = .bl c ∧ R c := ⟨b, rfl, q⟩
theorem x_isI {R : Int → Prop} (q : R i) : ∃ c, V.int i = .int c ∧ R c := ⟨i, rfl, q⟩

/-! ### built-ins by names -/
def nInt : List V → Hp → VK → Prop := fun xs H Q => (∃ i, xs = [.int i] ∧ Q (.int i) H) ∨ ∃ k, xs = [.bl k] ∧ Q (.int (if k then 1 else 0)) H
theorem call_nInt {X : Cx} : CallR X (.type "int") nInt := call_int1
theorem x_nInt (q : Q (.int i) H) : nInt [.int i] H Q := .inl ⟨i, rfl, q⟩
theorem x_nIntB (q : Q (.int (if b then 1 else 0)) H) : nInt [.bl b] H Q := .inr ⟨b, rfl, q⟩
def nLen (K : PySem.W.Frag) : List V → Hp → VK → Prop := fun xs H Q => ∃ p ys, xs = [.ref p] ∧ (SqL K H p ys ∨ SqT K H p ys) ∧ Q (.int ys.length) H
theorem call_nLen {X : Cx} : CallR X (.builtin "len") (nLen X.K) := call_len_seq
theorem x_lenL {p : Addr} {ys : List V} (h : SqL K H p ys) (q : Q (.int ys.length) H) : nLen K [.ref p] H Q := ⟨p, ys, rfl, .inl h, q⟩
theorem x_lenT {p : Addr} {ys : List V} (h : SqT K H p ys) (q : Q (.int ys.length) H) : nLen K [.ref p] H Q := ⟨p, ys, rfl, .inr h, q⟩
def nListOf (K : PySem.W.Frag) : List V → Hp → VK → Prop := fun xs H Q => ∃ p ys, xs = [.ref p] ∧ (SqL K H p ys ∨ SqT K H p ys) ∧ ∀ l, H l = none → Q (.ref l) (upd H l (.lst ys))
theorem call_nListOf {X : Cx} : CallR X (.type "list") (nListOf X.K) := call_list_of
theorem x_listL {p : Addr} {ys : List V} (h : SqL K H p ys) (k : ∀ l H2, Fr l H → Same H H2 → H2 l = some (.lst ys) → Q (.ref l) H2) : nListOf K [.ref p] H Q := ⟨p, ys, rfl, .inl h, x_new1 k⟩
theorem x_listT {p : Addr} {ys : List V} (h : SqT K H p ys) (k : ∀ l H2, Fr l H → Same H H2 → H2 l = some (.lst ys) → Q (.ref l) H2) : nListOf K [.ref p] H Q := ⟨p, ys, rfl, .inr h, x_new1 k⟩
def nTupleOf (K : PySem.W.Frag) : List V → Hp → VK → Prop := fun xs H Q => ∃ p ys, xs = [.ref p] ∧ ((SqL K H p ys ∧ ∀ l, H l = none → Q (.ref l) (upd H l (.tup ys))) ∨ (SqT K H p ys ∧ Q (.ref p) H))
theorem call_nTupleOf {X : Cx} : CallR X (.type "tuple") (nTupleOf X.K) := call_tuple_of
theorem x_tupleL {p : Addr} {ys : List V} (h : SqL K H p ys) (k : ∀ l H2, Fr l H → Same H H2 → H2 l = some (.tup ys) → Q (.ref l) H2) : nTupleOf K [.ref p] H Q := ⟨p, ys, rfl, .inl ⟨h, x_new1 k⟩⟩
theorem x_tupleT {p : Addr} {ys : List V} (h : SqT K H p ys) (q : Q (.ref p) H) : nTupleOf K [.ref p] H Q := ⟨p, ys, rfl, .inr ⟨h, q⟩⟩
theorem kit_T {a c : String} (h : kitB a c = some true) : kitB a c = some true := h
theorem kit_F {a c : String} (h : kitB a c = some false) : kitB a c = some false := h
theorem x_isi {c : String} {tt : String} {k : Bool} (ty : TyX K H x (.type tt)) (e : kitB tt c = some k) (q : Q (.bl k) H) : rIsi K [x, .ty c] H Q := ⟨x, .ty c, .type tt, .type c, k, rfl, .ty _, ty, kit_ty e, q⟩
theorem x_isiInt {c : String} {k : Bool} (e : kitB "int" c = some k) (q : Q (.bl k) H) : rIsi K [.int i, .ty c] H Q := x_isi (.base (.int i)) e q
theorem x_isiBl {c : String} {k b : Bool} (e : kitB "bool" c = some k) (q : Q (.bl k) H) : rIsi K [.bl b, .ty c] H Q := x_isi (.base (.bl b)) e q
theorem x_isiStr {c : String} {k : Bool} {s : Str} (e : kitB "str" c = some k) (q : Q (.bl k) H) : rIsi K [.str s, .ty c] H Q := x_isi (.base (.str s)) e q
theorem x_isiNon {c : String} {k : Bool} (e : kitB "NoneType" c = some k) (q : Q (.bl k) H) : rIsi K [.non, .ty c] H Q := x_isi (.base .non) e q
theorem x_isiLst {c : String} {k : Bool} {a : Addr} {xs : List V} (h : H a = some (.lst xs)) (e : kitB "list" c = some k) (q : Q (.bl k) H) : rIsi K [.ref a, .ty c] H Q := x_isi (.base (.lst h)) e q
theorem x_isiTup {c : String} {k : Bool} {a : Addr} {xs : List V} (h : H a = some (.tup xs)) (e : kitB "tuple" c = some k) (q : Q (.bl k) H) : rIsi K [.ref a, .ty c] H Q := x_isi (.base (.tup h)) e q

def nSorted (K : PySem.W.Frag) : List V → Hp → VK → Prop := fun vs H Q => ∃ (a : Addr) (ns : List Int), vs = [V.ref a] ∧ SqL K H a (ns.map V.int) ∧ ns.length < 64 ∧
  ∀ (ns' : List Int) (p : Addr), ns'.Perm ns → ns'.Pairwise (· ≤ ·) → H p = none → Q (.ref p) (upd H p (.lst (ns'.map V.int)))
theorem x_sorted {a : Addr} {ns : List Int} (h : SqL K H a (ns.map V.int)) (hl : ns.length < 64) (k : ∀ p H2 (ns' : List Int), ns'.Perm ns → ns'.Pairwise (· ≤ ·) → Fr p H → Same H H2 → H2 p = some (.lst (ns'.map V.int)) → Q (.ref p) H2) : rSorted K [.ref a] H Q :=
  ⟨a, ns, rfl, h, hl, fun ns' p h1 h2 h3 => k p _ ns' h1 h2 ⟨h3⟩ (same_new h3) upd_same⟩
/-- set(t), t a tuple of ints -/
def rSetOfI (K : PySem.W.Frag) (w : World) : List V → Hp → VK → Prop := fun vs H Q => ∃ (p : Addr) (ns : List Int), vs = [V.ref p] ∧ SqT K H p (ns.map V.int) ∧ ns.length ≤ 1000 ∧ ∀ a n, H a = none → n ≤ ns.length → Q (.ref a) (upd H a (SetO w a (fun j => decide (j ∈ ns)) n))
theorem cr_setOfI {X : Cx} (hc : X.calm = true) : CallR X (.type "set") (rSetOfI X.K X.w) := by
  intro pins s σ H xs us Q I r h
  obtain ⟨p0, ns, rfl, hq, hl, q⟩ := h
  cases r with
  | cons r rr =>
    cases rr
    cases r
    obtain ⟨its, rv, pt, hz⟩ := I.tuple hq
    have hi : IntsAre its.toArray.toList ns := ints_of_vals rv
    have hd := I.ok.hd hc
    refine call_set_tupI ns hd (show s.heap.IsTuple p0 its.toArray from pt) hi (by unfold scanBound; omega) fun h' tk c R1 hcn k => ?_
    exact ⟨.ref _, upd H s.heap.objs.size (SetO X.w s.heap.objs.size (fun j => decide (j ∈ ns)) c), I.laid (t' := tk) k (Nat.le_refl _) (setO_new R1), rfl, q _ _ (I.hok.fresh (Nat.le_refl _)) hcn⟩
theorem x_setOfI {w : World} {p : Addr} {ns : List Int} (h : SqT K H p (ns.map V.int)) (hl : ns.length ≤ 1000) (k : ∀ a H2 n, Fr a H → Same H H2 → H2 a = some (SetO w a (fun j => decide (j ∈ ns)) n) → n ≤ ns.length → Q (.ref a) H2) : rSetOfI K w [.ref p] H Q :=
  ⟨p, ns, rfl, h, hl, fun a n h1 h2 => k a _ n ⟨h1⟩ (same_new h1) upd_same h2⟩
theorem x_sortedSet {w : World} {a : Addr} {S : Int → Bool} {n : Nat} (h : H a = some (SetO w a S n)) (hl : n < 64) (k : ∀ p H2 (ns : List Int), ns.Pairwise (· < ·) → (∀ k : Int, k ∈ ns ↔ S k = true) → ns.length = n → Fr p H → Same H H2 → H2 p = some (.lst (ns.map V.int)) → Q (.ref p) H2) : rSortedSet w [.ref a] H Q :=
  ⟨a, S, n, rfl, h, hl, fun ns p h1 h2 h3 h4 => k p _ ns h1 h2 h3 ⟨h4⟩ (same_new h4) upd_same⟩
theorem x_all {a : Addr} {bs : List Bool} (h : SqL K H a (bs.map V.bl)) (q : Q (.bl (bs.all id)) H) : rAll K [.ref a] H Q := ⟨a, bs, rfl, h, q⟩
theorem x_any {a : Addr} {bs : List Bool} (h : SqL K H a (bs.map V.bl)) (q : Q (.bl (bs.any id)) H) : rAny K [.ref a] H Q := ⟨a, bs, rfl, h, q⟩
theorem x_sum {a : Addr} {ns : List Int} (h : SqL K H a (ns.map V.int)) (q : Q (.int ns.sum) H) : rSum K [.ref a] H Q := ⟨a, ns, rfl, h, q⟩
theorem x_inL {p : Addr} {xs : List V} (h : SqL K H p xs) (hx : flatV x = true) (ha : xs.all flatV = true) (q : Q (.bl (inV x xs)) H) : rIn K false x (.ref p) H Q := ⟨p, xs, rfl, .inl h, hx, ha, q⟩
theorem x_inT {p : Addr} {xs : List V} (h : SqT K H p xs) (hx : flatV x = true) (ha : xs.all flatV = true) (q : Q (.bl (inV x xs)) H) : rIn K false x (.ref p) H Q := ⟨p, xs, rfl, .inr h, hx, ha, q⟩
theorem x_niL {p : Addr} {xs : List V} (h : SqL K H p xs) (hx : flatV x = true) (ha : xs.all flatV = true) (q : Q (.bl (!inV x xs)) H) : rIn K true x (.ref p) H Q := ⟨p, xs, rfl, .inl h, hx, ha, q⟩
theorem x_niT {p : Addr} {xs : List V} (h : SqT K H p xs) (hx : flatV x = true) (ha : xs.all flatV = true) (q : Q (.bl (!inV x xs)) H) : rIn K true x (.ref p) H Q := ⟨p, xs, rfl, .inr h, hx, ha, q⟩
theorem flat_ints : ∀ ns : List Int, (ns.map V.int).all flatV = true
  | [] => rfl
  | n :: r => by
    rw [List.map_cons, List.all_cons, flat_ints r]
    rfl
theorem in_ints (i : Int) : ∀ ns : List Int, inV (.int i) (ns.map V.int) = decide (i ∈ ns)
  | [] => by simp [inV]
  | n :: r => by
    have h := in_ints i r
    unfold inV at h ⊢
    rw [List.map_cons, List.any_cons, h]
    by_cases e : n = i
    · subst e
      simp [eqV]
    · have e' : ¬ i = n := fun z => e z.symm
      simp [eqV, e, e']

def nIsN : R2 := fun x y H Q => y = .non ∧ Q (.bl (decide (x = .non))) H
def nNotN : R2 := fun x y H Q => y = .non ∧ Q (.bl (!decide (x = .non))) H
theorem op_nIsN {X : Cx} : OpR X (compareOp .Is) nIsN := op_isN
theorem op_nNotN {X : Cx} : OpR X (compareOp .IsNot) nNotN := op_notN
theorem x_nIsN (q : Q (.bl (decide (x = .non))) H) : nIsN x .non H Q := ⟨rfl, q⟩
theorem x_nNotN (q : Q (.bl (!decide (x = .non))) H) : nNotN x .non H Q := ⟨rfl, q⟩
def nAndM : R2 := fun x y H Q => ∃ (i : Int) (k : Nat), x = .int i ∧ y = .int (2 ^ k - 1) ∧ Q (.int (i % 2 ^ k)) H
theorem op_nAndM {X : Cx} : OpR X (binaryOp .BitAnd) nAndM := op_andM
theorem x_and255 (q : Q (.int (i % 256)) H) : nAndM (.int i) (.int 255) H Q := ⟨i, 8, rfl, rfl, q⟩

/-! ### the same rules, K told: within a comprehension's block too -/
section
variable {X : Cx} {w : World}
theorem k_in (e : X.K = K) : OpR X (compareOp .In) (rIn K false) := e ▸ op_in_seq
theorem k_enum {e : Expr} {ta : TA} {p pos tpos : Pos} {elts : List Expr} {kk : Nat} (hk : X.K = K) (hg : Gl X "enumerate") (hm : X.mg "enumerate" = none) (ha : PA X [e] ta) (hs : starEach [e] X.env = [(false, eval e X.env)] := by rfl) :
    PI X (.Tuple elts kk tpos) (.Call (.Name "enumerate" p) [e] [] pos) (iEnum K ta) := hk ▸ pi_enum hg hm ha hs
theorem k_gtup {es : List Expr} {k : Nat} {pos : Pos} {gs : TGs} {n : Nat} (hk : X.K = K) (hc : X.calm = true) (h : PGs X es gs)
    (hn : (assignEach es X.env).length = n := by rfl) (hst : (assignEach es X.env).findIdx? (·.1) = none := by rfl) : PG X (.Tuple es k pos) (gTup K n gs) := hk ▸ pg_tup hc h hn hst
theorem k_nin (e : X.K = K) : OpR X (compareOp .NotIn) (rIn K true) := e ▸ op_notIn_seq
theorem k_ixL (e : X.K = K) : IxR X (rIxL K) := e ▸ ix_list
theorem k_ixT (e : X.K = K) : IxR X (rIxT K) := e ▸ ix_tup
theorem k_slL (e : X.K = K) : SlR X (rSlL K) := e ▸ sl_list
theorem k_len (e : X.K = K) : CallR X (.builtin "len") (nLen K) := e ▸ call_nLen
theorem k_list (e : X.K = K) : CallR X (.type "list") (nListOf K) := e ▸ call_nListOf
theorem k_tuple (e : X.K = K) : CallR X (.type "tuple") (nTupleOf K) := e ▸ call_nTupleOf
theorem k_isi (e : X.K = K) : CallR X (.builtin "isinstance") (rIsi K) := e ▸ call_isi
theorem k_all (hc : X.calm = true) (e : X.K = K) : CallR X (.builtin "all") (rAll K) := e ▸ cr_all hc
theorem k_any (hc : X.calm = true) (e : X.K = K) : CallR X (.builtin "any") (rAny K) := e ▸ cr_any hc
theorem k_sum (hc : X.calm = true) (e : X.K = K) : CallR X (.builtin "sum") (rSum K) := e ▸ cr_sum hc
theorem k_sorted (e : X.K = K) : CallR X (.builtin "sorted") (rSorted K) := e ▸ cr_sorted
theorem k_sortedS (e : X.K = K) : CallR X (.builtin "sorted") (rSortedS K) := e ▸ cr_sortedS
theorem k_sortedSet (hc : X.calm = true) (e : X.w = w) : CallR X (.builtin "sorted") (rSortedSet w) := e ▸ cr_sortedSet hc
theorem k_setOfI (hc : X.calm = true) (e : X.K = K) (e' : X.w = w) : CallR X (.type "set") (rSetOfI K w) := e ▸ e' ▸ cr_setOfI hc
theorem k_eqD (hu : X.A.units + 64 < cLine) (e : X.K = K) : OpR X (compareOp .Eq) (rEqD K) := e ▸ op_eqD hu
theorem k_neD (hu : X.A.units + 64 < cLine) (e : X.K = K) : OpR X (compareOp .NotEq) (rNeD K) := e ▸ op_neD hu
end

/-! ### tests -/
theorem x_test {R : Bool → Hp → Prop} (q : te σ H fun x H1 => ∃ k, x = .bl k ∧ R k H1) : tTest te σ H R := q
theorem x_B {R : Bool → Hp → Prop} (q : te σ H fun x H1 => ∃ k, x = .bl k ∧ R k H1) : tB te σ H R := q
theorem x_and {R : Bool → Hp → Prop} (q : t σ H fun c H1 => if c = true then u σ H1 R else R false H1) : tAnd t u σ H R := q
theorem x_or {R : Bool → Hp → Prop} (q : t σ H fun c H1 => if c = true then R true H1 else u σ H1 R) : tOr t u σ H R := q
theorem x_not {R : Bool → Hp → Prop} (q : t σ H fun c H1 => R (!c) H1) : tNot t σ H R := q
theorem x_yes {R : Bool → Hp → Prop} (q : R true H) : tYes σ H R := q
theorem x_chain {r r' : R2} (q : ta σ H fun x H1 => tb σ H1 fun y H2 => r x y H2 fun z H3 => ∃ k, z = .bl k ∧ (if k = true then tc σ H3 fun w' H4 => r' y w' H4 Q else Q (.bl false) H3)) : tChain r r' ta tb tc σ H Q := q
theorem x_itd {p A B : Prop} [Decidable p] (h1 : p → A) (h2 : ¬p → B) : if decide p = true then A else B := by
  by_cases h : p
  · rw [if_pos (decide_eq_true h)]
    exact h1 h
  · rw [if_neg (by rw [decide_eq_false h]; decide)]
    exact h2 h
theorem x_itn {p A B : Prop} [Decidable p] (h1 : ¬p → A) (h2 : p → B) : if (!decide p) = true then A else B := by
  by_cases h : p
  · rw [decide_eq_true h, if_neg (by decide)]
    exact h2 h
  · rw [decide_eq_false h, if_pos (by decide)]
    exact h1 h
theorem x_itb {A B : Prop} (h1 : b = true → A) (h2 : b = false → B) : if b = true then A else B := by
  cases b with
  | true => rw [if_pos rfl]; exact h1 rfl
  | false => rw [if_neg (by decide)]; exact h2 rfl
theorem x_itnb {A B : Prop} (h1 : b = false → A) (h2 : b = true → B) : if (!b) = true then A else B := by
  cases b with
  | true => exact h2 rfl
  | false => exact h1 rfl

theorem x_nT {A B : Prop} (h : B) : if (!true) = true then A else B := h
theorem x_nF {A B : Prop} (h : A) : if (!false) = true then A else B := h
theorem x_dY {p A B : Prop} [Decidable p] (hp : p) (h : A) : if decide p = true then A else B := x_itd (fun _ => h) fun z => absurd hp z
theorem x_dN {p A B : Prop} [Decidable p] (hp : ¬p) (h : B) : if decide p = true then A else B := x_itd (fun z => absurd z hp) fun _ => h
theorem x_ndY {p A B : Prop} [Decidable p] (hp : p) (h : B) : if (!decide p) = true then A else B := x_itn (fun z => absurd hp z) fun _ => h
theorem x_ndN {p A B : Prop} [Decidable p] (hp : ¬p) (h : A) : if (!decide p) = true then A else B := x_itn (fun _ => h) fun z => absurd z hp

/-! ### statements -/
theorem x_seq (q : tu { D with nx := tz D } σ H) : tSeq tu tz D σ H := q
theorem x_sasg {n : Nat} (q : te σ H fun v H1 => tz D (σ.set n (some v)) H1) : tSeq (tAsg te (gName n)) tz D σ H := q
theorem x_asg {n : Nat} (q : te σ H fun v H1 => D.nx (σ.set n (some v)) H1) : tAsg te (gName n) D σ H := q
theorem x_sasgG (q : te σ H fun v H1 => g v σ H1 (tz D)) : tSeq (tAsg te g) tz D σ H := q
theorem x_asgG (q : te σ H fun v H1 => g v σ H1 D.nx) : tAsg te g D σ H := q
theorem x_ret (q : te σ H D.rt) : tRet te D σ H := q
theorem x_retN (q : D.rt .non H) : tRetN D σ H := q
theorem x_next (q : D.nx σ H) : tNext D σ H := q
theorem x_brk (q : D.bk σ H) : tBreak D σ H := q
theorem x_ct (q : D.ct σ H) : tCont D σ H := q
theorem x_sif (q : t σ H fun b H1 => if b = true then tu { D with nx := tz D } σ H1 else tw { D with nx := tz D } σ H1) : tSeq (tIfS t tu tw) tz D σ H := q
theorem x_ifS (q : t σ H fun b H1 => if b = true then tu D σ H1 else tw D σ H1) : tIfS t tu tw D σ H := q
theorem x_sdrop (q : te σ H fun _ H1 => tz D σ H1) : tSeq (tDrop te) tz D σ H := q
theorem x_drop (q : te σ H fun _ H1 => D.nx σ H1) : tDrop te D σ H := q
theorem x_saug {n : Nat} {ti : TIp} (h : σ[n]? = some (some x)) (q : te σ H fun y H1 => ti x y H1 fun z H2 => tz D (σ.set n (some z)) H2) : tSeq (tAug n te ti) tz D σ H := ⟨x, h, q⟩
theorem x_aug {n : Nat} {ti : TIp} (h : σ[n]? = some (some x)) (q : te σ H fun y H1 => ti x y H1 fun z H2 => D.nx (σ.set n (some z)) H2) : tAug n te ti D σ H := ⟨x, h, q⟩
theorem x_ipI {f : Int → Int → Int} (q : Q (.int (f i j)) H) : ipI f (.int i) (.int j) H Q := ⟨i, j, rfl, rfl, q⟩
/-- an if, then the rest: what follows is shown once -/
theorem x_cut (M : L2.St → Hp → Prop) (h : tu { D with nx := M } σ H) (k : ∀ σ' H', M σ' H' → tz D σ' H') : Evl.tCut tu tz D σ H := ⟨M, h, k⟩
theorem x_nocut (h : tu { D with nx := tz D } σ H) : Evl.tCut tu tz D σ H := ⟨_, h, fun _ _ q => q⟩

theorem x_nocutW (h : tSeq (tWhile t tu) tz D σ H) : Evl.tCut (tWhile t tu) tz D σ H := ⟨_, h, fun _ _ q => q⟩

/-! ### targets -/
theorem x_gName {n : Nat} {R : L2.St → Hp → Prop} (q : R (σ.set n (some v)) H) : gName n v σ H R := q
theorem x_gTup {n : Nat} {gs : TGs} {R : L2.St → Hp → Prop} {a : Addr} {xs : List V} (h : SqT K H a xs) (hn : xs.length = n) (q : gs xs σ H R) : gTup K n gs (.ref a) σ H R := ⟨a, xs, rfl, h, hn, q⟩
theorem x_gLst {n : Nat} {gs : TGs} {R : L2.St → Hp → Prop} {a : Addr} {xs : List V} (h : SqL K H a xs) (hn : xs.length = n) (q : gs xs σ H R) : gLst K n gs (.ref a) σ H R := ⟨a, xs, rfl, h, hn, q⟩
theorem x_gCons {gs : TGs} {R : L2.St → Hp → Prop} {vs : List V} (q : g v σ H fun σ' H' => gs vs σ' H' R) : gCons g gs (v :: vs) σ H R := ⟨v, vs, rfl, q⟩
theorem x_gNil {R : L2.St → Hp → Prop} (q : R σ H) : gNil [] σ H R := ⟨rfl, q⟩
theorem x_gSub {to ti : TE} {ts : TSet} {R : L2.St → Hp → Prop} (q : to σ H fun o H1 => ti σ H1 fun i H2 => ts o i v H2 fun H3 => R σ H3) : gSub to ti ts v σ H R := q
theorem ixN_nat {n j : Nat} (hj : j < n) : ixN n (j : Int) = some j := by
  unfold ixN
  rw [if_pos (by omega), if_pos (by omega)]
  simp
theorem ixN_of {n j : Nat} {k : Int} (e : k = (j : Int)) (hj : j < n) : ixN n k = some j := by
  rw [e]
  exact ixN_nat hj
theorem at_nat {α : Type} {xs : List α} {k : Int} {j : Nat} {v : α} (e : k = (j : Int)) (h : xs[j]? = some v) : atI xs k = some v := by
  rw [e]
  exact atI_nat h
theorem at_neg {α : Type} {xs : List α} {k : Int} {j : Nat} {v : α} (hk : k < 0) (e : k + (xs.length : Int) = (j : Int)) (h : xs[j]? = some v) : atI xs k = some v := by
  unfold atI ixN
  rw [if_neg (by omega), if_pos (by omega)]
  have e2 : (k + (xs.length : Int)).toNat = j := by omega
  rw [e2]
  exact h
theorem x_setL {p : Addr} {xs : List V} {k : Int} {j : Nat} {R : Hp → Prop} (h : H p = some (.lst xs)) (hj : ixN xs.length k = some j) (q : R (upd H p (.lst (xs.set j v)))) : rSetL (.ref p) (.int k) v H R := ⟨p, xs, k, j, rfl, rfl, h, hj, q⟩
/-- xs.append(e) -/
theorem x_bm {T : String} {r : V → List V → Hp → VK → Prop} {tr : TA} (q : te σ H fun x H1 => tyV K T x H1 ∧ tr σ H1 fun xs H2 => r x xs H2 Q) : tBM K T r te tr σ H Q := q
theorem x_bm0 {T : String} {r : V → List V → Hp → VK → Prop} (q : te σ H fun x H1 => tyV K T x H1 ∧ r x [] H1 Q) : tBM0 K T r te σ H Q := q
theorem x_tyL {a : Addr} {xs : List V} {P : Prop} (h : SqL K H a xs) (q : P) : tyV K "list" (.ref a) H ∧ P := ⟨.inl ⟨rfl, xs, h⟩, q⟩
theorem x_app {l : Addr} {xs : List V} (h : H l = some (.lst xs)) (hz : xs.length < 100000) (q : Q .non (upd H l (.lst (xs ++ [v])))) : rAppend (.ref l) [v] H Q := ⟨l, xs, v, rfl, rfl, h, size_lt hz, q⟩
theorem x_cat {a c : Addr} {xs ys : List V} (h : H a = some (.lst xs)) (h' : H c = some (.lst ys)) (hz : xs.length + ys.length ≤ 100000) (k : ∀ p H2, Fr p H → Same H H2 → H2 p = some (.lst (xs ++ ys)) → Q (.ref p) H2) : rCat (.ref a) (.ref c) H Q :=
  ⟨a, c, xs, ys, rfl, rfl, h, h', size_ok hz, x_new1 k⟩
theorem x_slL {a : Addr} {xs : List V} {lo hi : Option Int} (h : SqL K H a xs) (k : ∀ p H2, Fr p H → Same H H2 → H2 p = some (.lst (cutV xs lo hi)) → Q (.ref p) H2) : rSlL K (.ref a) lo hi H Q := ⟨a, xs, rfl, h, x_new1 k⟩

/-! ### loops -/
theorem x_forR {n : Nat} (q : te σ H fun x H1 => ∃ m : Int, x = .int m ∧ 0 ≤ m ∧ m ≤ 100000 ∧ ∃ Pv : Nat → L2.St → Hp → Prop, Pv 0 σ H1 ∧
      (∀ (i : Nat) σ' H', (i : Int) < m → Pv i σ' H' → tu { D with nx := Pv (i + 1), ct := Pv (i + 1), bk := D.nx } (σ'.set n (some (.int (i : Int)))) H') ∧ (∀ σ' H', Pv m.toNat σ' H' → D.nx σ' H'))
    (mono : ∀ Q Q' : VK, (∀ v H1, Q v H1 → Q' v H1) → te σ H Q → te σ H Q') : tFor (iRng1 (tCons te tNil)) (gName n) tu D σ H := by
  refine mono _ _ (fun v H1 h => ?_) q
  obtain ⟨m, rfl, h0, h1, Pv, p0, ps, pd⟩ := h
  refine ⟨m, rfl, by omega, by omega, for_range (lo := 0) (n := m.toNat) Pv p0 (fun i σ' H' hi p => ?_) pd⟩
  have e0 : (0 : Int) + (i : Int) = (i : Int) := Int.zero_add _
  show tu { D with nx := Pv (i + 1), ct := Pv (i + 1), bk := D.nx } (σ'.set n (some (.int ((0 : Int) + (i : Int))))) H'
  rw [e0]
  exact ps i σ' H' (by omega) p
def RRange (n : Nat) (m : Int) (tu : TS) (D : Ends) (σ : L2.St) (H : Hp) : Prop := ∃ Pv : Nat → L2.St → Hp → Prop, Pv 0 σ H ∧
      (∀ (i : Nat) σ' H', (i : Int) < m → Pv i σ' H' → tu { D with nx := Pv (i + 1), ct := Pv (i + 1), bk := D.nx } (σ'.set n (some (.int (i : Int)))) H') ∧ (∀ σ' H', Pv m.toNat σ' H' → D.nx σ' H')
def rRange (n : Nat) (tu : TS) (D : Ends) (σ : L2.St) : List V → Hp → Prop := fun vs H => ∃ j : Int, vs = [.int j] ∧ -(2 ^ 62) ≤ j ∧ j < 2 ^ 62 ∧ ∃ W : Nat → Nat → L2.St → Hp → Prop, (∃ m, W 0 m σ H) ∧ ∀ i m σ H, W i m σ H →
  ((Itr 0 j.toNat).stop i H ∧ D.nx σ H) ∨ ((Itr 0 j.toNat).go i H ∧ ∃ N : L2.St → Hp → Prop, (∀ σ' H', N σ' H' → ∃ m', m' < m ∧ W (i + 1) m' σ' H') ∧ ∀ x H', (Itr 0 j.toNat).yld i H x H' → gName n x σ H' fun σ2 H2 => tu { D with nx := N, ct := N, bk := D.nx } σ2 H2)
theorem x_forR1 {n : Nat} {tr : TA} (q : tr σ H (rRange n tu D σ)) : tFor (iRng1 tr) (gName n) tu D σ H := q
theorem x_range {n : Nat} {m : Int} (Pv : Nat → L2.St → Hp → Prop) (hm : 0 ≤ m ∧ m ≤ 100000) (p0 : Pv 0 σ H)
    (ps : ∀ (i : Nat) σ' H', (i : Int) < m → Pv i σ' H' → tu { D with nx := Pv (i + 1), ct := Pv (i + 1), bk := D.nx } (σ'.set n (some (.int (i : Int)))) H') (pd : ∀ σ' H', Pv m.toNat σ' H' → D.nx σ' H') : rRange n tu D σ [.int m] H := by
  refine ⟨m, rfl, by omega, by omega, for_range (lo := 0) (n := m.toNat) Pv p0 (fun i σ' H' hi p => ?_) pd⟩
  have e0 : (0 : Int) + (i : Int) = (i : Int) := Int.zero_add _
  show tu { D with nx := Pv (i + 1), ct := Pv (i + 1), bk := D.nx } (σ'.set n (some (.int ((0 : Int) + (i : Int))))) H'
  rw [e0]
  exact ps i σ' H' (by omega) p
def rForL (K : PySem.W.Frag) (g : TG) (tu : TS) (D : Ends) (σ : L2.St) : VK := fun x H => ∃ a, x = .ref a ∧ (∃ xs, SqL K H a xs) ∧ ∃ W : Nat → Nat → L2.St → Hp → Prop, (∃ m, W 0 m σ H) ∧ ∀ i m σ H, W i m σ H →
  ((Itl K a).stop i H ∧ D.nx σ H) ∨ ((Itl K a).go i H ∧ ∃ N : L2.St → Hp → Prop, (∀ σ' H', N σ' H' → ∃ m', m' < m ∧ W (i + 1) m' σ' H') ∧ ∀ x H', (Itl K a).yld i H x H' → g x σ H' fun σ2 H2 => tu { D with nx := N, ct := N, bk := D.nx } σ2 H2)
theorem x_forL1 (q : te σ H (rForL K g tu D σ)) : tFor (iList K te) g tu D σ H := q
theorem x_forL {a : Addr} {xs : List V} (Pv : Nat → L2.St → Hp → Prop) (hx : SqL K H a xs) (p0 : Pv 0 σ H) (hl : ∀ i σ' H', i ≤ xs.length → Pv i σ' H' → SqL K H' a xs)
    (ps : ∀ i x σ' H', xs[i]? = some x → Pv i σ' H' → g x σ' H' fun σ2 H2 => tu { D with nx := Pv (i + 1), ct := Pv (i + 1), bk := D.nx } σ2 H2) (pd : ∀ σ' H', Pv xs.length σ' H' → D.nx σ' H') : rForL K g tu D σ (.ref a) H :=
  ⟨a, rfl, ⟨xs, hx⟩, for_list Pv p0 hl ps pd⟩
def rForT (K : PySem.W.Frag) (g : TG) (tu : TS) (D : Ends) (σ : L2.St) : VK := fun x H => ∃ a, x = .ref a ∧ (∃ xs, SqT K H a xs) ∧ ∃ W : Nat → Nat → L2.St → Hp → Prop, (∃ m, W 0 m σ H) ∧ ∀ i m σ H, W i m σ H →
  ((Itt K a).stop i H ∧ D.nx σ H) ∨ ((Itt K a).go i H ∧ ∃ N : L2.St → Hp → Prop, (∀ σ' H', N σ' H' → ∃ m', m' < m ∧ W (i + 1) m' σ' H') ∧ ∀ x H', (Itt K a).yld i H x H' → g x σ H' fun σ2 H2 => tu { D with nx := N, ct := N, bk := D.nx } σ2 H2)
theorem x_forT1 (q : te σ H (rForT K g tu D σ)) : tFor (iTup K te) g tu D σ H := q
theorem x_forT {a : Addr} {xs : List V} (Pv : Nat → L2.St → Hp → Prop) (hx : SqT K H a xs) (p0 : Pv 0 σ H) (hl : ∀ i σ' H', i ≤ xs.length → Pv i σ' H' → SqT K H' a xs)
    (ps : ∀ i x σ' H', xs[i]? = some x → Pv i σ' H' → g x σ' H' fun σ2 H2 => tu { D with nx := Pv (i + 1), ct := Pv (i + 1), bk := D.nx } σ2 H2) (pd : ∀ σ' H', Pv xs.length σ' H' → D.nx σ' H') : rForT K g tu D σ (.ref a) H :=
  ⟨a, rfl, ⟨xs, hx⟩, for_tup Pv p0 hl ps pd⟩
/-- while: W by a number that falls -/
def Falls (W : Nat → L2.St → Hp → Prop) (m : Nat) : L2.St → Hp → Prop := fun σ' H' => ∃ m', m' < m ∧ W m' σ' H'
theorem x_while (W : Nat → L2.St → Hp → Prop) (m0 : Nat) (h0 : W m0 σ H) (hs : ∀ m σ' H', W m σ' H' → t σ' H' fun b H1 => if b = true then tu { D with nx := Falls W m, ct := Falls W m, bk := D.nx } σ' H1 else D.nx σ' H1)
    (mono : ∀ (σ' : L2.St) (H' : Hp) (R R' : Bool → Hp → Prop), (∀ y H4, R y H4 → R' y H4) → t σ' H' R → t σ' H' R') : tWhile t tu D σ H :=
  ⟨W, ⟨m0, h0⟩, fun m σ' H' hw => mono _ _ _ _ (fun b H1 q => by
    cases b with
    | true =>
      rw [if_pos rfl] at q ⊢
      exact ⟨Falls W m, fun _ _ h => h, q⟩
    | false =>
      rw [if_neg (by decide)] at q ⊢
      exact q) (hs m σ' H' hw)⟩
def WTurn (W : Nat → L2.St → Hp → Prop) (m : Nat) (tu : TS) (D : Ends) (σ : L2.St) : Bool → Hp → Prop := fun b H1 => if b = true then ∃ N : L2.St → Hp → Prop, (∀ σ' H', N σ' H' → ∃ m', m' < m ∧ W m' σ' H') ∧ tu { D with nx := N, ct := N, bk := D.nx } σ H1 else D.nx σ H1
theorem x_while1 (W : Nat → L2.St → Hp → Prop) (m0 : Nat) (h0 : W m0 σ H) (hs : ∀ m σ' H', W m σ' H' → t σ' H' (WTurn W m tu D σ')) : tWhile t tu D σ H := ⟨W, ⟨m0, h0⟩, hs⟩
theorem x_wT {W : Nat → L2.St → Hp → Prop} {m : Nat} (q : tu { D with nx := Falls W m, ct := Falls W m, bk := D.nx } σ H) : WTurn W m tu D σ true H := by
  unfold WTurn
  rw [if_pos rfl]
  exact ⟨Falls W m, fun _ _ h => h, q⟩
theorem x_wF {W : Nat → L2.St → Hp → Prop} {m : Nat} (q : D.nx σ H) : WTurn W m tu D σ false H := by
  unfold WTurn
  rw [if_neg (by decide)]
  exact q
theorem x_wd {W : Nat → L2.St → Hp → Prop} {m : Nat} {p : Prop} [Decidable p] (h1 : p → WTurn W m tu D σ true H) (h2 : ¬p → WTurn W m tu D σ false H) : WTurn W m tu D σ (decide p) H := by
  by_cases h : p
  · rw [decide_eq_true h]
    exact h1 h
  · rw [decide_eq_false h]
    exact h2 h
theorem x_wn {W : Nat → L2.St → Hp → Prop} {m : Nat} {p : Prop} [Decidable p] (h1 : ¬p → WTurn W m tu D σ true H) (h2 : p → WTurn W m tu D σ false H) : WTurn W m tu D σ (!decide p) H := by
  by_cases h : p
  · rw [decide_eq_true h]
    exact h2 h
  · rw [decide_eq_false h]
    exact h1 h

/-! ### comprehensions -/
def RLc (J : It) (g : TG) (tt : TT) (te : TE) (vs : List Nat) (σ : L2.St) (Q : VK) : Hp → Prop := fun H1 => ∀ D, H1 D = none → ∃ W : Nat → Nat → Hp → Prop, (∃ m, W 0 m (upd H1 D (.lst []))) ∧ ∀ i m H, W i m H →
  (J.stop i H ∧ Q (.ref D) H) ∨ (J.go i H ∧ ∃ Nx : Hp → Prop, (∀ H', Nx H' → ∃ m', m' < m ∧ W (i + 1) m' H') ∧ ∀ x H', J.yld i H x H' → g x (wipe σ vs) H' fun σ2 H2 => wipe σ2 vs = wipe σ vs ∧ tt σ2 H2 fun b H3 =>
    if b = true then te σ2 H3 fun y H4 => ∃ acc, H4 D = some (.lst acc) ∧ acc.length < sizeLine ∧ Nx (upd H4 D (.lst (acc ++ [y]))) else Nx H3)
def rLcL (K : PySem.W.Frag) (g : TG) (tt : TT) (te : TE) (vs : List Nat) (σ : L2.St) (Q : VK) : VK := fun x H1 => ∃ a, x = .ref a ∧ (∃ xs, SqL K H1 a xs) ∧ RLc (Itl K a) g tt te vs σ Q H1
def rLcT (K : PySem.W.Frag) (g : TG) (tt : TT) (te : TE) (vs : List Nat) (σ : L2.St) (Q : VK) : VK := fun x H1 => ∃ a, x = .ref a ∧ (∃ xs, SqT K H1 a xs) ∧ RLc (Itt K a) g tt te vs σ Q H1
def rLcR (g : TG) (tt : TT) (te : TE) (vs : List Nat) (σ : L2.St) (Q : VK) : List V → Hp → Prop := fun xs H1 => ∃ j : Int, xs = [.int j] ∧ -(2 ^ 62) ≤ j ∧ j < 2 ^ 62 ∧ RLc (Itr 0 j.toNat) g tt te vs σ Q H1
theorem x_lcL1 {tx : TE} {vs : List Nat} (q : tx σ H (rLcL K g t te vs σ Q)) : tLc (iList K tx) g t te vs σ H Q := q
theorem x_lcT1 {tx : TE} {vs : List Nat} (q : tx σ H (rLcT K g t te vs σ Q)) : tLc (iTup K tx) g t te vs σ H Q := q
theorem x_lcR1 {tr : TA} {vs : List Nat} (q : tr σ H (rLcR g t te vs σ Q)) : tLc (iRng1 tr) g t te vs σ H Q := q
/-- a list comprehension: Pv of the new list's place, the turn and the heap -/
theorem x_lcL {a : Addr} {xs : List V} {vs : List Nat} (Pv : Addr → Nat → Hp → Prop) (hx : SqL K H a xs) (h0 : ∀ Dl, Fr Dl H → Pv Dl 0 (upd H Dl (.lst []))) (hl : ∀ Dl i H', Fr Dl H → Pv Dl i H' → SqL K H' a xs)
    (hs : ∀ Dl, Fr Dl H → ∀ i x H', xs[i]? = some x → Pv Dl i H' → g x (wipe σ vs) H' fun σ2 H2 => wipe σ2 vs = wipe σ vs ∧ t σ2 H2 fun b H3 =>
      if b = true then te σ2 H3 fun y H4 => ∃ acc, H4 Dl = some (.lst acc) ∧ acc.length < sizeLine ∧ Pv Dl (i + 1) (upd H4 Dl (.lst (acc ++ [y]))) else Pv Dl (i + 1) H3)
    (hd : ∀ Dl H', Fr Dl H → Pv Dl xs.length H' → Q (.ref Dl) H') : rLcL K g t te vs σ Q (.ref a) H := ⟨a, rfl, ⟨xs, hx⟩, fun Dl hD =>
  lc_list (xs := xs) (Pv Dl) (h0 Dl ⟨hD⟩) (fun i H' _ p => hl Dl i H' ⟨hD⟩ p) (fun i x H' hi p => hs Dl ⟨hD⟩ i x H' hi p) (fun H' p => hd Dl H' ⟨hD⟩ p)⟩
theorem x_lcT {a : Addr} {xs : List V} {vs : List Nat} (Pv : Addr → Nat → Hp → Prop) (hx : SqT K H a xs) (h0 : ∀ Dl, Fr Dl H → Pv Dl 0 (upd H Dl (.lst []))) (hl : ∀ Dl i H', Fr Dl H → Pv Dl i H' → SqT K H' a xs)
    (hs : ∀ Dl, Fr Dl H → ∀ i x H', xs[i]? = some x → Pv Dl i H' → g x (wipe σ vs) H' fun σ2 H2 => wipe σ2 vs = wipe σ vs ∧ t σ2 H2 fun b H3 =>
      if b = true then te σ2 H3 fun y H4 => ∃ acc, H4 Dl = some (.lst acc) ∧ acc.length < sizeLine ∧ Pv Dl (i + 1) (upd H4 Dl (.lst (acc ++ [y]))) else Pv Dl (i + 1) H3)
    (hd : ∀ Dl H', Fr Dl H → Pv Dl xs.length H' → Q (.ref Dl) H') : rLcT K g t te vs σ Q (.ref a) H := ⟨a, rfl, ⟨xs, hx⟩, fun Dl hD =>
  lc_tup (xs := xs) (Pv Dl) (h0 Dl ⟨hD⟩) (fun i H' _ p => hl Dl i H' ⟨hD⟩ p) (fun i x H' hi p => hs Dl ⟨hD⟩ i x H' hi p) (fun H' p => hd Dl H' ⟨hD⟩ p)⟩
theorem x_lcR {m : Int} {vs : List Nat} (Pv : Addr → Nat → Hp → Prop) (hm : 0 ≤ m ∧ m ≤ 100000) (h0 : ∀ Dl, Fr Dl H → Pv Dl 0 (upd H Dl (.lst [])))
    (hs : ∀ Dl, Fr Dl H → ∀ (i : Nat) H', (i : Int) < m → Pv Dl i H' → g (.int (i : Int)) (wipe σ vs) H' fun σ2 H2 => wipe σ2 vs = wipe σ vs ∧ t σ2 H2 fun b H3 =>
      if b = true then te σ2 H3 fun y H4 => ∃ acc, H4 Dl = some (.lst acc) ∧ acc.length < sizeLine ∧ Pv Dl (i + 1) (upd H4 Dl (.lst (acc ++ [y]))) else Pv Dl (i + 1) H3)
    (hd : ∀ Dl H', Fr Dl H → Pv Dl m.toNat H' → Q (.ref Dl) H') : rLcR g t te vs σ Q [.int m] H := ⟨m, rfl, by omega, by omega, fun Dl hD =>
  lc_range (lo := 0) (n := m.toNat) (Pv Dl) (h0 Dl ⟨hD⟩) (fun i H' hi p => by
    have e0 : (0 : Int) + (i : Int) = (i : Int) := Int.zero_add _
    rw [e0]
    exact hs Dl ⟨hD⟩ i H' (by omega) p) (fun H' p => hd Dl H' ⟨hD⟩ p)⟩
def rLcE (K : PySem.W.Frag) (g : TG) (tt : TT) (te : TE) (vs : List Nat) (σ : L2.St) (Q : VK) : List V → Hp → Prop := fun vs' H1 => ∃ a xs, vs' = [.ref a] ∧ SqL K H1 a xs ∧ RLc (Ite K a) g tt te vs σ Q H1
theorem x_lcE1 {tr : TA} {vs : List Nat} (q : tr σ H (rLcE K g t te vs σ Q)) : tLc (iEnum K tr) g t te vs σ H Q := q
theorem x_lcE {a : Addr} {xs : List V} {vs : List Nat} (Pv : Addr → Nat → Hp → Prop) (hx : SqL K H a xs) (h0 : ∀ Dl, Fr Dl H → Pv Dl 0 (upd H Dl (.lst []))) (hl : ∀ Dl i H', Fr Dl H → Pv Dl i H' → SqL K H' a xs)
    (hs : ∀ Dl, Fr Dl H → ∀ i x H1 T H', xs[i]? = some x → Pv Dl i H1 → Fr T H1 → Same H1 H' → H' T = some (.tup [.int (i : Nat), x]) → g (.ref T) (wipe σ vs) H' fun σ2 H2 => wipe σ2 vs = wipe σ vs ∧ t σ2 H2 fun b H3 =>
      if b = true then te σ2 H3 fun y H4 => ∃ acc, H4 Dl = some (.lst acc) ∧ acc.length < sizeLine ∧ Pv Dl (i + 1) (upd H4 Dl (.lst (acc ++ [y]))) else Pv Dl (i + 1) H3)
    (hd : ∀ Dl H', Fr Dl H → Pv Dl xs.length H' → Q (.ref Dl) H') : rLcE K g t te vs σ Q [.ref a] H := ⟨a, xs, rfl, hx, fun Dl hD =>
  lc_it walk_enum (Pv Dl) (h0 Dl ⟨hD⟩) (fun i H' _ p => hl Dl i H' ⟨hD⟩ p) (fun i x H1 H' hi p y => by
    obtain ⟨T, u, v, rfl, hT, rfl, e1, e2⟩ := y
    cases Option.some.inj e1
    exact hs Dl ⟨hD⟩ i v H1 T _ e2 p ⟨hT⟩ (same_new hT) upd_same) (fun H' p => hd Dl H' ⟨hD⟩ p)⟩
/-- the end of a turn: what is kept goes into the list -/
def Keep (Dl : Addr) (N : Hp → Prop) : VK := fun y H => ∃ acc, H Dl = some (.lst acc) ∧ acc.length < sizeLine ∧ N (upd H Dl (.lst (acc ++ [y])))
theorem x_keep {Dl : Addr} {N : Hp → Prop} {acc : List V} (h : H Dl = some (.lst acc)) (hz : acc.length < 100000) (q : N (upd H Dl (.lst (acc ++ [y])))) : ∃ acc, H Dl = some (.lst acc) ∧ acc.length < sizeLine ∧ N (upd H Dl (.lst (acc ++ [y]))) := ⟨acc, h, size_lt hz, q⟩
theorem x_wiped {A : Prop} {a b : L2.St} (h : a = b) (q : A) : a = b ∧ A := ⟨h, q⟩
end

/-! ### lists -/
theorem map_at {α β : Type} {f : α → β} {xs : List α} {j : Nat} {x : α} (h : xs[j]? = some x) : (xs.map f)[j]? = some (f x) := by
  rw [List.getElem?_map, h]
  rfl
theorem of_map_at {α β : Type} {f : α → β} {xs : List α} {j : Nat} {y : β} (h : (xs.map f)[j]? = some y) : ∃ x, xs[j]? = some x ∧ y = f x := by
  rw [List.getElem?_map] at h
  obtain ⟨x, hx, rfl⟩ := Option.map_eq_some_iff.mp h
  exact ⟨x, hx, rfl⟩
theorem at_lt {α : Type} {xs : List α} {j : Nat} {x : α} (h : xs[j]? = some x) : j < xs.length := (List.getElem?_eq_some_iff.mp h).1
theorem lt_at {α : Type} {xs : List α} {j : Nat} (h : j < xs.length) : ∃ x, xs[j]? = some x := ⟨xs[j], List.getElem?_eq_getElem h⟩
theorem drop_at {α : Type} {xs : List α} {j : Nat} {x : α} (h : xs[j]? = some x) : xs.drop j = x :: xs.drop (j + 1) := by
  obtain ⟨h1, h2⟩ := List.getElem?_eq_some_iff.mp h
  rw [List.drop_eq_getElem_cons h1, h2]
theorem snoc_map {α β : Type} {f : α → β} {xs : List α} {x : α} : xs.map f ++ [f x] = (xs ++ [x]).map f := by
  rw [List.map_append]
  rfl
theorem mem_snoc {α : Type} {P : α → Prop} {xs : List α} {x : α} (h : ∀ y ∈ xs, P y) (hx : P x) : ∀ y ∈ xs ++ [x], P y := fun y hy => by
  rcases List.mem_append.mp hy with hy | hy
  · exact h y hy
  · rw [List.mem_singleton.mp hy]
    exact hx

def upto (a b : Int) : List Int := (List.range (b - a).toNat).map fun i => a + (i : Nat)
theorem rgV_ints (a b : Int) : rgV a b = (upto a b).map V.int := by
  unfold rgV upto
  rw [List.map_map]
  rfl
theorem upto_len (a b : Int) : (upto a b).length = (b - a).toNat := by
  unfold upto
  rw [List.length_map, List.length_range]
def nRg (Q : VK) : Int → Int → Hp → Prop := fun a b H1 => RgOk a b ∧ ∀ q, H1 q = none → Q (.ref q) (upd H1 q (.lst (rgV a b)))
theorem x_lstRg {σ : L2.St} {H : Hp} {Q : VK} {te : L2.St → Hp → (Int → Int → Hp → Prop) → Prop} (q : te σ H (nRg Q)) : tLstRg te σ H Q := q
theorem x_rg1 {σ : L2.St} {H : Hp} {ta : TE} {R : Int → Int → Hp → Prop} (q : ta σ H fun x H1 => ∃ n, x = .int n ∧ R 0 n H1) : tRg1 ta σ H R := q
theorem x_nRg {H : Hp} {Q : VK} {a b : Int} (h : 0 ≤ a ∧ a ≤ 100000 ∧ 0 ≤ b ∧ b ≤ 100000) (k : ∀ p H2, Fr p H → Same H H2 → H2 p = some (.lst ((upto a b).map V.int)) → Q (.ref p) H2) : nRg Q a b H :=
  ⟨RgOk.of_le (by omega) (by omega) (by omega) (by omega), fun p hp => k p _ ⟨hp⟩ (same_new hp) (by rw [upd_same, rgV_ints])⟩
theorem upto_at {a b : Int} {j : Nat} (h : (j : Int) < b - a) : (upto a b)[j]? = some (a + j) := by
  unfold upto
  rw [List.getElem?_map, List.getElem?_range (by omega)]
  rfl

/-! ### lists of lists of ints -/
/-- at a stands a list of lists of ints: L their places and what they hold -/
def LL (H : Hp) (a : Addr) (L : List (Addr × List Int)) : Prop := H a = some (.lst (L.map fun e => V.ref e.1)) ∧ ∀ e ∈ L, H e.1 = some (.lst (e.2.map V.int))
theorem ll_same {H H' : Hp} {a : Addr} {L : List (Addr × List Int)} (e : Same H H') (h : LL H a L) : LL H' a L := ⟨e _ _ h.1, fun p hp => e _ _ (h.2 p hp)⟩
theorem ll_nil {H : Hp} {a : Addr} (h : H a = some (.lst [])) : LL H a [] := ⟨h, fun _ z => absurd z List.not_mem_nil⟩
theorem ll_snoc {H H' : Hp} {a p : Addr} {ns : List Int} {L : List (Addr × List Int)} (h : LL H a L) (h1 : H' a = some (.lst ((L.map fun e => V.ref e.1) ++ [V.ref p]))) (h2 : H' p = some (.lst (ns.map V.int))) (k : ∀ e ∈ L, H' e.1 = H e.1) : LL H' a (L ++ [(p, ns)]) := by
  refine ⟨?_, fun e he => ?_⟩
  · rw [h1, List.map_append]
    rfl
  · rcases List.mem_append.mp he with he | he
    · rw [k e he]
      exact h.2 e he
    · rw [List.mem_singleton.mp he]
      exact h2

/-! ### data -/
def dInts (ns : List Int) : List PyData := ns.map PyData.int
theorem dp_ints {K : PySem.W.Frag} {H : Hp} : ∀ ns : List Int, DpAll K H (ns.map V.int) (dInts ns)
  | [] => .nil
  | n :: r => .cons (.int n) (dp_ints r)
theorem canLay_ints : ∀ ns : List Int, PyData.canLayAll0 (dInts ns) = true
  | [] => by simp [dInts, PyData.canLayAll0]
  | n :: r => by
    have h := canLay_ints r
    unfold dInts at h ⊢
    rw [List.map_cons]
    simp only [PyData.canLayAll0, PyData.canLay0, h, Bool.and_self]
theorem eqv_ints : ∀ ns ms : List Int, PyData.eqvAll (dInts ns) (dInts ms) = decide (ns = ms)
  | [], [] => by simp [dInts, PyData.eqvAll]
  | [], m :: r => by simp [dInts, PyData.eqvAll]
  | n :: r, [] => by simp [dInts, PyData.eqvAll]
  | n :: r, m :: q => by
    have h := eqv_ints r q
    unfold dInts at h ⊢
    rw [List.map_cons, List.map_cons, PyData.eqvAll, h, PyData.eqv]
    by_cases h1 : n = m <;> by_cases h2 : r = q <;> simp [h1, h2]
theorem canLayAll_map {α : Type} {f : α → PyData} : ∀ (xs : List α), (∀ x ∈ xs, (f x).canLay0 = true) → PyData.canLayAll0 (xs.map f) = true
  | [], _ => by simp [PyData.canLayAll0]
  | x :: r, h => by
    have h1 := h x List.mem_cons_self
    have h2 := canLayAll_map r fun y hy => h y (List.mem_cons_of_mem _ hy)
    rw [List.map_cons]
    simp only [PyData.canLayAll0, h1, h2, Bool.and_self]
theorem depthAll_map {α : Type} {f : α → PyData} {n : Nat} : ∀ (xs : List α), (∀ x ∈ xs, (f x).depth ≤ n) → PyData.depthAll (xs.map f) ≤ n
  | [], _ => by simp [PyData.depthAll]
  | x :: r, h => by
    have h1 := h x List.mem_cons_self
    have h2 := depthAll_map r fun y hy => h y (List.mem_cons_of_mem _ hy)
    rw [List.map_cons, PyData.depthAll]
    omega
theorem depth_ints : ∀ ns : List Int, PyData.depthAll (dInts ns) = 0
  | [] => by simp [dInts, PyData.depthAll]
  | n :: r => by
    have h := depth_ints r
    unfold dInts at h ⊢
    rw [List.map_cons, PyData.depthAll, h, PyData.depth]
    rfl
theorem shaped_lints (ns : List Int) : SeqAt.shaped (.list (dInts ns)) = true := by
  unfold SeqAt.shaped
  rw [PyData.canLay0, canLay_ints, PyData.depth, depth_ints]
  rfl
theorem shaped_tints (ns : List Int) : SeqAt.shaped (.tuple (dInts ns)) = true := by
  unfold SeqAt.shaped
  rw [PyData.canLay0, canLay_ints, PyData.depth, depth_ints]
  rfl
theorem eqv_lints (ns ms : List Int) : PyData.eqv (.list (dInts ns)) (.list (dInts ms)) = decide (ns = ms) := by
  rw [PyData.eqv]
  exact eqv_ints ns ms
theorem eqv_tints (ns ms : List Int) : PyData.eqv (.tuple (dInts ns)) (.tuple (dInts ms)) = decide (ns = ms) := by
  rw [PyData.eqv]
  exact eqv_ints ns ms
theorem shaped_of {d : PyData} (h1 : d.canLay0 = true) (h2 : d.depth ≤ 64) : SeqAt.shaped d = true := by
  unfold SeqAt.shaped
  rw [h1, decide_eq_true h2]
  rfl
theorem canLay_lints (ns : List Int) : PyData.canLay0 (.list (dInts ns)) = true := by
  rw [PyData.canLay0, canLay_ints]
theorem depth_lints (ns : List Int) : PyData.depth (.list (dInts ns)) = 1 := by
  rw [PyData.depth, depth_ints]
/-- lists of lists of ints as data -/
def dLists (ps : List (List Int)) : List PyData := ps.map fun p => .list (dInts p)
theorem canLay_lists (ps : List (List Int)) : PyData.canLayAll0 (dLists ps) = true := canLayAll_map ps fun p _ => canLay_lints p
theorem depth_lists (ps : List (List Int)) : PyData.depthAll (dLists ps) ≤ 1 := depthAll_map ps fun p _ => Nat.le_of_eq (depth_lints p)
theorem dp_list {K : PySem.W.Frag} {H : Hp} : ∀ (L : List (Addr × List Int)), (∀ e ∈ L, H e.1 = some (.lst (e.2.map V.int))) → DpAll K H (L.map fun e => V.ref e.1) (dLists (L.map (·.2)))
  | [], _ => .nil
  | e :: r, h => .cons (.lst (sq_of (h e List.mem_cons_self)) (dp_ints _)) (dp_list r fun x hx => h x (List.mem_cons_of_mem _ hx))
theorem dp_LL {K : PySem.W.Frag} {H : Hp} {a : Addr} {L : List (Addr × List Int)} (h : LL H a L) : Dp K H (.ref a) (.list (dLists (L.map (·.2)))) := .lst (sq_of h.1) (dp_list L h.2)
mutual
theorem dp_same {K : PySem.W.Frag} {H H' : Hp} (e : Same H H') : ∀ (d : PyData) (v : V), Dp K H v d → Dp K H' v d
  | .none, _, h => by cases h; exact .non
  | .bool b, _, h => by cases h; exact .bl b
  | .int i, _, h => by cases h; exact .int i
  | .str x, _, h => by cases h; exact .str x
  | .list ds, _, h => by
    cases h with
    | lst hs ha => exact .lst (sq_same hs e) (dpAll_same e ds _ ha)
  | .tuple ds, _, h => by
    cases h with
    | tup hs ha => exact .tup (st_same hs e) (dpAll_same e ds _ ha)
  | .dict _, _, h => by cases h
theorem dpAll_same {K : PySem.W.Frag} {H H' : Hp} (e : Same H H') : ∀ (ds : List PyData) (vs : List V), DpAll K H vs ds → DpAll K H' vs ds
  | [], _, h => by cases h; exact .nil
  | d :: ds, _, h => by
    cases h with
    | cons h1 h2 => exact .cons (dp_same e d _ h1) (dpAll_same e ds _ h2)
end
/-- equal data -/
theorem x_neSame {K : PySem.W.Frag} {H : Hp} {Q : VK} {x y : V} {d : PyData} (h : Dp K H x d) (h' : Dp K H y d) (c : d.canLay0 = true) (n : d.depth ≤ 64) (q : Q (.bl false) H) : rNeD K x y H Q :=
  ⟨d, d, h, h', shaped_of c n, shaped_of c n, by rw [SeqAt.eqv_refl d c]; exact q⟩
theorem x_eqSame {K : PySem.W.Frag} {H : Hp} {Q : VK} {x y : V} {d : PyData} (h : Dp K H x d) (h' : Dp K H y d) (c : d.canLay0 = true) (n : d.depth ≤ 64) (q : Q (.bl true) H) : rEqD K x y H Q :=
  ⟨d, d, h, h', shaped_of c n, shaped_of c n, by rw [SeqAt.eqv_refl d c]; exact q⟩
section
variable {K : PySem.W.Frag} {H : Hp} {Q : VK} {a c : Addr} {ns ms : List Int}
theorem x_neInts (h : SqL K H a (ns.map V.int)) (h' : SqL K H c (ms.map V.int)) (q : Q (.bl (!decide (ns = ms))) H) : rNeD K (.ref a) (.ref c) H Q :=
  ⟨.list (dInts ns), .list (dInts ms), .lst h (dp_ints ns), .lst h' (dp_ints ms), shaped_lints ns, shaped_lints ms, by rw [eqv_lints]; exact q⟩
theorem x_eqInts (h : SqL K H a (ns.map V.int)) (h' : SqL K H c (ms.map V.int)) (q : Q (.bl (decide (ns = ms))) H) : rEqD K (.ref a) (.ref c) H Q :=
  ⟨.list (dInts ns), .list (dInts ms), .lst h (dp_ints ns), .lst h' (dp_ints ms), shaped_lints ns, shaped_lints ms, by rw [eqv_lints]; exact q⟩
theorem x_neTInts (h : SqT K H a (ns.map V.int)) (h' : SqT K H c (ms.map V.int)) (q : Q (.bl (!decide (ns = ms))) H) : rNeD K (.ref a) (.ref c) H Q :=
  ⟨.tuple (dInts ns), .tuple (dInts ms), .tup h (dp_ints ns), .tup h' (dp_ints ms), shaped_tints ns, shaped_tints ms, by rw [eqv_tints]; exact q⟩
theorem x_eqTInts (h : SqT K H a (ns.map V.int)) (h' : SqT K H c (ms.map V.int)) (q : Q (.bl (decide (ns = ms))) H) : rEqD K (.ref a) (.ref c) H Q :=
  ⟨.tuple (dInts ns), .tuple (dInts ms), .tup h (dp_ints ns), .tup h' (dp_ints ms), shaped_tints ns, shaped_tints ms, by rw [eqv_tints]; exact q⟩
end
end Xk
/-! ## slices stored and deleted, properties, own objects -/
namespace Xk
open PySem PySem.Spec PyProof.Rows L2
section
variable {X : Cx} {o : Expr} {lo hi : Option Expr} {to : TE} {tl th : TO} {pos p2 tpos : Pos}
/-- o[lo:hi] = another list -/
def gSubSl (to : TE) (tl th : TO) : TG := fun v σ H R => to σ H fun x H1 => tl σ H1 fun l H2 => th σ H2 fun u H3 => ∃ (a b : Addr) (xs ys : List V) (i j : Int), x = .ref a ∧ v = .ref b ∧ l = some i ∧ u = some j ∧
  H3 a = some (.lst xs) ∧ H3 b = some (.lst ys) ∧ a ≠ b ∧ 0 ≤ i ∧ i ≤ j ∧ j ≤ xs.length ∧ xs.length + ys.length ≤ sizeLine ∧ R σ (upd H3 a (.lst (xs.take i.toNat ++ ys ++ xs.drop j.toNat)))
theorem pg_subSl (ho : PE X o to) (hl : PO X lo tl) (hu : PO X hi th)
    (ha : ∀ v, assign (.Subscript o (.Slice lo hi none p2) pos) X.env v = (do
      let ov ← holding [v] (eval o X.env)
      let iv ← holding [v, ov] (eval (.Slice lo hi none p2) X.env)
      standAt pos
      holding [v, ov, iv] (setItem ov iv v)
      release [iv, v, ov] []) := by intro _; rfl) : PG X (.Subscript o (.Slice lo hi none p2) pos) (gSubSl to tl th) := by
  refine ⟨fun pins s σ H v u Q I r h => ?_⟩
  rw [ha]
  refine wpAny_bind (wpAny_holding (thn (ho.run pins s σ H _ I h) fun ov s1 ⟨x, H1, I1, r1, q1⟩ => ?_))
  refine wpAny_bind (wpAny_holding ?_)
  refine wpAny_Slice (thn (hl.run pins s1 σ H1 _ I1 q1) fun vl s2 ⟨l, H2, I2, pl, q2⟩ => thn (hu.run pins s2 σ H2 _ I2 q2) fun vu s3 ⟨w, H3, I3, pu, q3⟩ => ?_)
  rw [evalPart_none]
  refine wpAny_pure ?_
  have I4 : Inv X pins σ H3 { s3 with heap := s3.heap.push { cls := .type "slice", data := .fields #[vl, vu, .none] } } := I3.kept (t' := s3.toks) fun b ob q => Heap.get?_push_of_some _ q
  obtain ⟨a, b, xs, ys, i, j, rfl, rfl, rfl, rfl, hA, hB, hne, h0, hij, hj, hz, q⟩ := q3
  cases r1
  cases r
  cases pl with
  | int _ ti =>
  cases pu with
  | int _ tj =>
  refine wpAny_bind (wpAny_standAt (wpAny_bind (wpAny_holding ?_)))
  exact set_slice I4 hA hB hne (Heap.IsSliceOf.new ..) ⟨_, rfl⟩ ⟨_, rfl⟩ h0 hij hj hz fun s' I5 => wpAny_release ⟨σ, _, I5, q⟩

theorem sel_take (f : Nat → Bool) (i n : Nat) (h : ∀ k : Nat, f k = (decide ((i : Int) ≤ (k : Int)) && decide ((k : Int) < (n : Int)) && (((k : Int) - (i : Int)) % 1 == 0))) :
    ∀ (xs : List Value) (m : Nat), m + xs.length ≤ n → (xs.zipIdx m).filterMap (fun (x, k) => if f k then none else some x) = xs.take (i - m)
  | [], m, hm => by simp
  | x :: r, m, hm => by
    rw [List.length_cons] at hm
    have ih := sel_take f i n h r (m + 1) (by omega)
    rw [List.zipIdx_cons, List.filterMap_cons]
    have hf : f m = decide (i ≤ m) := by
      rw [h m]
      by_cases h1 : i ≤ m
      · have h2 : (i : Int) ≤ (m : Int) := by omega
        have h3 : (m : Int) < (n : Int) := by omega
        have h4 : ((m : Int) - (i : Int)) % 1 = 0 := by omega
        rw [h4, decide_eq_true h1, decide_eq_true h2, decide_eq_true h3]
        rfl
      · have h2 : ¬ (i : Int) ≤ (m : Int) := by omega
        rw [decide_eq_false h1, decide_eq_false h2]
        rfl
    by_cases h1 : i ≤ m
    · have e : f m = true := by rw [hf, decide_eq_true h1]
      simp only [e, if_true]
      rw [ih, show i - (m + 1) = 0 by omega, show i - m = 0 by omega]
      rfl
    · have e : f m = false := by rw [hf, decide_eq_false h1]
      simp only [e]
      show x :: _ = _
      rw [ih, show i - m = (i - (m + 1)) + 1 by omega]
      rfl
theorem bounds_from {i n : Nat} (hi : i ≤ n) : sliceBounds (some (i : Int)) none none n = ((i : Int), (n : Int), 1) := by
  simp only [sliceBounds, Option.getD_none]
  have h1 : ¬ ((i : Int) < 0) := by omega
  simp only [h1, if_false, show (1 : Int) > 0 by decide, if_true]
  congr 1
  omega
section
variable {prog : Program} {w : World} {A : Around} {E : Value → Shared → Prop} {s : Shared}
open PySem.P PySem.F in
theorem delItem_tail {l sl : Addr} {items : Array Value} {n : Nat} {vl : Value} {i : Nat} {Q : Unit → Shared → Prop}
    (e : s.heap.get? l = some { cls := .type "list", data := .seq items n }) (hs : s.heap.IsSliceOf sl vl .none .none) (pl : IsPart vl (some (i : Int))) (hi : i ≤ items.size) (hsz : items.size ≤ sizeLine)
    (h : ∀ f : Array Value → Array Value, f items = (items.toList.take i).toArray → Q () { s with heap := s.heap.update l (Obj.mapSeq f) }) :
    wpAny (model prog w) A (delItem (.ref l) (.ref sl)) Q E s := by
  have hl : s.heap.IsList l items := PySem.IsL.isList e
  obtain ⟨os, hos, hcs, hds⟩ := id hs
  have hTs : s.TypeIs (.ref sl) "slice" := ⟨os, hos, hcs⟩
  have hstep : ¬ ((rawPart none == rawInt 0) = true) := Bool.false_ne_true
  unfold delItem
  refine wpAny_holding ?_
  refine wpAny_bind (wpAny_sequenceKey hl.typeIs (by decide) ?_)
  refine wpAny_bind (wpAny_callSpecial?_slot (name := Str.ofString "__delitem__") hl.typeIs PySem.F.slot_list_delitem
    (wpAny_call_entry PySem.F.slot_list_delitem hl.typeIs PySem.F.entry_list_delitem ?_ (PySem.F.args_list_delitem_2 _ _)))
  show wpAny _ _ (Builtin.List.listSubscript? (.ref sl) >>= _) _ _ s
  refine wpAny_bind ?_
  unfold Builtin.List.listSubscript?
  refine wpAny_bind (wpAny_specialOf hTs slice_no_index ?_)
  simp only [Option.isNone_none, if_true]
  refine wpAny_pure ?_
  show wpAny _ _ (typeOf (.ref sl) >>= _) _ _ s
  refine wpAny_bind (wpAny_typeOf hTs ?_)
  first
    | rw [if_neg (by decide)]
    | refine PySem.W.KFB.if_not (by decide) ?_
  rw [listSliceParts_eq]
  refine wpAny_bind (wpAny_bind (wpAny_field hos hds (x := .none) rfl (wpAny_bind (wpAny_listPart .none ?_))))
  rw [if_neg hstep]
  refine wpAny_bind (wpAny_field hos hds (x := vl) rfl (wpAny_bind (wpAny_listPart pl ?_)))
  refine wpAny_bind (wpAny_field hos hds (x := .none) rfl (wpAny_bind (wpAny_listPart .none (wpAny_pure ?_))))
  refine wpAny_bind (m := Builtin.List.listItems (.ref l)) ?_
  unfold Builtin.List.listItems
  refine wpAny_bind (wpAny_seqItems e rfl (wpAny_pure ?_))
  refine wpAny_bind (wpAny_of_eq ((sliceIndices_raw (some (i : Int)) none none items.size (by simp)).trans (congrArg (pure : Int × Int × Int → Sem (Int × Int × Int)) (bounds_from hi))) ?_)
  refine wpAny_bind (wpAny_rule ?_)
  show wpAny _ _ (updateSeq l _ >>= _) _ _ s
  have hf := sel_take _ i items.size (fun k => rfl) items.toList 0 (by simp)
  refine wpAny_bind (wpAny_updateSeq (hz := hsz) (_hz' := ?_) e rfl ?_)
  refine wpAny_bind (wpAny_letGo ?_)
  · exact wpAny_pure ⟨.none, rfl, wpAny_pure (h _ (congrArg List.toArray hf))⟩
  · refine Nat.le_trans (Nat.le_of_eq (congrArg Array.size (congrArg List.toArray hf))) ?_
    rw [List.size_toArray, List.length_take, Array.length_toList]
    omega
end
variable {pins : List (Addr × Obj)}
theorem del_tail {s : Shared} {σ : L2.St} {H : Hp} {l sl : Addr} {xs : List V} {i : Nat} {vl : Value} {Q : Unit → Shared → Prop} (I : Inv X pins σ H s) (hH : H l = some (.lst xs))
    (hs : s.heap.IsSliceOf sl vl .none .none) (pl : IsPart vl (some (i : Int))) (hi : i ≤ xs.length) (h : ∀ s', Inv X pins σ (upd H l (.lst (xs.take i))) s' → Q () s') :
    wpAny (model X.prog X.w) X.A (delItem (.ref l) (.ref sl)) Q X.xe s := by
  obtain ⟨z, its, n, r, hl, e⟩ := I.lstM hH
  refine delItem_tail e hs pl (by rw [List.size_toArray]; omega) (by rw [List.size_toArray]; omega) fun f hf => h _ ?_
  refine I.lset (its' := its.take i) (t' := s.toks) hH e ?_ (r.take i) ?_
  · rw [hf]
  · rw [List.length_take]
    omega
/-- del o[i:] -/
def tDelT (to : TE) (tl : TO) : TS := fun D σ H => to σ H fun x H1 => tl σ H1 fun u H2 => ∃ (l : Addr) (xs : List V) (i : Nat), x = .ref l ∧ u = some (i : Int) ∧ H2 l = some (.lst xs) ∧ i ≤ xs.length ∧ D.nx σ (upd H2 l (.lst (xs.take i)))
theorem ps_delT (ho : PE X o to) (hl : PO X lo tl) : PS X (.Delete [.Subscript o (.Slice lo none none p2) tpos] pos) (tDelT to tl) := by
  refine ⟨fun pins s σ H D I h => ?_⟩
  refine wpAny_Delete (wpAny_deleteEach_cons (wpAny_delete_Subscript (thn (ho.run pins s σ H _ I h) fun u s1 ⟨x, H1, I1, rx, q1⟩ => ?_)))
  refine wpAny_Slice (thn (hl.run pins s1 σ H1 _ I1 q1) fun vl s2 ⟨w, H2, I2, pl, q2⟩ => ?_)
  rw [evalPart_none]
  refine wpAny_pure (wpAny_pure ?_)
  have I4 : Inv X pins σ H2 { s2 with heap := s2.heap.push { cls := .type "slice", data := .fields #[vl, .none, .none] } } := I2.kept (t' := s2.toks) fun b ob q => Heap.get?_push_of_some _ q
  obtain ⟨l, xs, i, rfl, rfl, hA, hi, q⟩ := q2
  cases rx
  exact del_tail I4 hA (Heap.IsSliceOf.new ..) pl hi fun s3 I3 => wpAny_deleteEach_nil ⟨σ, _, I3, q⟩
end
section
variable {K : PySem.W.Frag} {σ σ2 : L2.St} {H H1 H2 : Hp} {Q : VK} {ta tv te te1 : TE} {D : Ends} {tz : TS} {g g1 : TG} {t tt1 : TT} {x v : V}
theorem k_pil {X : Cx} {tg l : Expr} {tl : TE} (e : X.K = K) (h : PE X l tl) : PI X tg l (iList K tl) := e ▸ pi_list h
/-- the inner for of a comprehension -/
def RIn (J : It) (g1 : TG) (tt1 : TT) (te : TE) (vs1 : List Nat) (σ2 : L2.St) (Dl : Addr) (N : Hp → Prop) : Hp → Prop := fun H4 => ∃ W1 : Nat → Nat → Hp → Prop, (∃ m, W1 0 m H4) ∧ ∀ j k H, W1 j k H →
  (J.stop j H ∧ N H) ∨ (J.go j H ∧ ∃ Nx1 : Hp → Prop, (∀ H', Nx1 H' → ∃ k', k' < k ∧ W1 (j + 1) k' H') ∧ ∀ x H', J.yld j H x H' → g1 x (wipe σ2 vs1) H' fun σ3 H5 => wipe σ3 vs1 = wipe σ2 vs1 ∧ tt1 σ3 H5 fun b H6 =>
    if b = true then te σ3 H6 fun y H7 => ∃ acc, H7 Dl = some (.lst acc) ∧ acc.length < sizeLine ∧ Nx1 (upd H7 Dl (.lst (acc ++ [y]))) else Nx1 H6)
def rInL (K : PySem.W.Frag) (g1 : TG) (tt1 : TT) (te : TE) (vs1 : List Nat) (σ2 : L2.St) (Dl : Addr) (N : Hp → Prop) : VK := fun x H4 => ∃ a, x = .ref a ∧ (∃ xs, SqL K H4 a xs) ∧ RIn (Itl K a) g1 tt1 te vs1 σ2 Dl N H4
theorem x_infL {a Dl : Addr} {xs : List V} {vs1 : List Nat} {N : Hp → Prop} (Pv : Nat → Hp → Prop) (hx : SqL K H a xs) (p0 : Pv 0 H) (hl : ∀ i H', Pv i H' → SqL K H' a xs)
    (hs : ∀ i x H', xs[i]? = some x → Pv i H' → g1 x (wipe σ2 vs1) H' fun σ3 H5 => wipe σ3 vs1 = wipe σ2 vs1 ∧ tt1 σ3 H5 fun b H6 => if b = true then te σ3 H6 (fun y H7 => ∃ acc, H7 Dl = some (.lst acc) ∧ acc.length < sizeLine ∧ Pv (i + 1) (upd H7 Dl (.lst (acc ++ [y])))) else Pv (i + 1) H6)
    (hd : ∀ H', Pv xs.length H' → N H') : rInL K g1 tt1 te vs1 σ2 Dl N (.ref a) H := by
  refine ⟨a, rfl, ⟨xs, hx⟩, fun i m H => m = xs.length - i ∧ i ≤ xs.length ∧ Pv i H, ⟨xs.length, by simp, Nat.zero_le _, p0⟩, ?_⟩
  rintro i m H' ⟨rfl, hi, p⟩
  have q := hl i H' p
  by_cases hlt : i < xs.length
  · refine .inr ⟨⟨xs, xs[i], q, by simp [hlt]⟩, Pv (i + 1), fun H' p' => ⟨xs.length - (i + 1), by omega, rfl, hlt, p'⟩, fun x H2 y => ?_⟩
    obtain ⟨e, y⟩ := y
    subst e
    exact hs i x _ (y xs q) p
  · have e : i = xs.length := by omega
    subst e
    exact .inl ⟨⟨xs, q, Nat.le_refl _⟩, hd H' p⟩
/-- the outer for -/
def rLc2L (K : PySem.W.Frag) (g : TG) (te1 : TE) (g1 : TG) (tt1 : TT) (te : TE) (vs vs1 : List Nat) (σ : L2.St) (Q : VK) : VK := fun x H1 => ∃ a, x = .ref a ∧ (∃ xs, SqL K H1 a xs) ∧ ∀ D, H1 D = none → ∃ W : Nat → Nat → Hp → Prop, (∃ m, W 0 m (upd H1 D (.lst []))) ∧ ∀ i m H, W i m H →
  ((Itl K a).stop i H ∧ Q (.ref D) H) ∨ ((Itl K a).go i H ∧ ∃ Nx : Hp → Prop, (∀ H', Nx H' → ∃ m', m' < m ∧ W (i + 1) m' H') ∧ ∀ x H', (Itl K a).yld i H x H' → g x (wipe σ vs) H' fun σ2 H2 => wipe σ2 vs = wipe σ vs ∧
    te1 σ2 H2 (rInL K g1 tt1 te vs1 σ2 D Nx))
theorem x_lc2 {tx : TE} {vs vs1 : List Nat} (q : tx σ H (rLc2L K g te1 g1 tt1 te vs vs1 σ Q)) : tLc2 (iList K tx) g tYes (iList K te1) g1 tt1 te vs vs1 σ H Q := q
theorem x_lc2L {a : Addr} {xs : List V} {vs vs1 : List Nat} (Pv : Addr → Nat → Hp → Prop) (hx : SqL K H a xs) (h0 : ∀ Dl, Fr Dl H → Pv Dl 0 (upd H Dl (.lst []))) (hl : ∀ Dl i H', Fr Dl H → Pv Dl i H' → SqL K H' a xs)
    (hs : ∀ Dl, Fr Dl H → ∀ i x H', xs[i]? = some x → Pv Dl i H' → g x (wipe σ vs) H' fun σ2 H2 => wipe σ2 vs = wipe σ vs ∧ te1 σ2 H2 (rInL K g1 tt1 te vs1 σ2 Dl (Pv Dl (i + 1))))
    (hd : ∀ Dl H', Fr Dl H → Pv Dl xs.length H' → Q (.ref Dl) H') : rLc2L K g te1 g1 tt1 te vs vs1 σ Q (.ref a) H := by
  refine ⟨a, rfl, ⟨xs, hx⟩, fun Dl hD => ⟨fun i m H => m = xs.length - i ∧ i ≤ xs.length ∧ Pv Dl i H, ⟨xs.length, by simp, Nat.zero_le _, h0 Dl ⟨hD⟩⟩, ?_⟩⟩
  rintro i m H' ⟨rfl, hi, p⟩
  have q := hl Dl i H' ⟨hD⟩ p
  by_cases hlt : i < xs.length
  · refine .inr ⟨⟨xs, xs[i], q, by simp [hlt]⟩, Pv Dl (i + 1), fun H' p' => ⟨xs.length - (i + 1), by omega, rfl, hlt, p'⟩, fun x H2 y => ?_⟩
    obtain ⟨e, y⟩ := y
    subst e
    exact hs Dl ⟨hD⟩ i x _ (y xs q) p
  · have e : i = xs.length := by omega
    subst e
    exact .inl ⟨⟨xs, q, Nat.le_refl _⟩, hd Dl H' ⟨hD⟩ p⟩
/-- attributes -/
theorem x_fld {a C dx : Addr} {fs : List (Str × V)} {f : Str} (h : H a = some (.ins C dx fs)) (c : Cls K C) (n : NoAttr K C f) (l : fs.lookup f = some v) (q : Q v H) : (∃ a' C dx fs v, V.ref a = .ref a' ∧ H a' = some (.ins C dx fs) ∧ Cls K C ∧ NoAttr K C f ∧ fs.lookup f = some v ∧ Q v H) :=
  ⟨a, C, dx, fs, v, rfl, h, c, n, l, q⟩
/-- what is read from an instance -/
def rFld (K : PySem.W.Frag) (f : Str) (Q : VK) : VK := fun x H1 => ∃ a C dx fs v, x = .ref a ∧ H1 a = some (.ins C dx fs) ∧ Cls K C ∧ NoAttr K C f ∧ fs.lookup f = some v ∧ Q v H1
theorem x_fld1 {f : Str} (q : ta σ H (rFld K f Q)) : tFld K ta f σ H Q := q
theorem x_rFld {a C dx : Addr} {fs : List (Str × V)} {f : Str} (h : H a = some (.ins C dx fs)) (c : Cls K C) (n : NoAttr K C f) (l : fs.lookup f = some v) (q : Q v H) : rFld K f Q (.ref a) H := ⟨a, C, dx, fs, v, rfl, h, c, n, l, q⟩
def rSetF (K : PySem.W.Frag) (f : Str) (y : V) (R : Hp → Prop) : VK := fun x H2 => ∃ a C dx fs, x = .ref a ∧ H2 a = some (.ins C dx fs) ∧ Cls K C ∧ NoAttr K C f ∧ fs.length < 1000 ∧ R (upd H2 a (.ins C dx (putF f y fs)))
theorem x_sfld {f : Str} (q : tv σ H fun y H1 => ta σ H1 (rSetF K f y (D.nx σ))) : sFld K ta tv f D σ H := q
theorem x_ssfld {f : Str} (q : tv σ H fun y H1 => ta σ H1 (rSetF K f y fun H2 => tz D σ H2)) : tSeq (sFld K ta tv f) tz D σ H := q
theorem x_rSetF {a C dx : Addr} {fs : List (Str × V)} {f : Str} {R : Hp → Prop} (h : H a = some (.ins C dx fs)) (c : Cls K C) (n : NoAttr K C f) (l : fs.length < 1000) (q : R (upd H a (.ins C dx (putF f x fs)))) : rSetF K f x R (.ref a) H := ⟨a, C, dx, fs, rfl, h, c, n, l, q⟩
def rProp (C : Addr) (sp : Sp) (dvs : List V) (E : XK) (Q : VK) : VK := fun x H1 => ∃ a dx fs, x = .ref a ∧ H1 a = some (.ins C dx fs) ∧ sp (.ref a :: dvs) H1 Q E
theorem x_prop {C : Addr} {sp : Sp} {dvs : List V} {E : XK} (q : ta σ H (rProp C sp dvs E Q)) : tProp C sp dvs E ta σ H Q := q
theorem x_rProp {a C dx : Addr} {fs : List (Str × V)} {sp : Sp} {dvs : List V} {E : XK} (h : H a = some (.ins C dx fs)) (q : sp (.ref a :: dvs) H Q E) : rProp C sp dvs E Q (.ref a) H := ⟨a, dx, fs, rfl, h, q⟩
def rMeth (C : Addr) (m : Str) (tr : TA) (sp : Sp) (dvs : List V) (E : XK) (σ : L2.St) (Q : VK) : VK := fun x H1 => ∃ a dx fs, x = .ref a ∧ H1 a = some (.ins C dx fs) ∧ fs.lookup m = none ∧ tr σ H1 fun vs H2 => sp (x :: (vs ++ dvs)) H2 Q E
theorem x_meth {C : Addr} {m : Str} {tr : TA} {sp : Sp} {dvs : List V} {E : XK} (q : ta σ H (rMeth C m tr sp dvs E σ Q)) : tMeth C m sp dvs E ta tr σ H Q := q
theorem x_rMeth {a C dx : Addr} {fs : List (Str × V)} {m : Str} {tr : TA} {sp : Sp} {dvs : List V} {E : XK} (h : H a = some (.ins C dx fs)) (l : fs.lookup m = none) (q : tr σ H fun vs H2 => sp (.ref a :: (vs ++ dvs)) H2 Q E) : rMeth C m tr sp dvs E σ Q (.ref a) H := ⟨a, dx, fs, rfl, h, l, q⟩
def rMake (C : Addr) (sp : Sp) (dvs : List V) (E : XK) (Q : VK) : List V → Hp → Prop := fun vs H1 => ∀ x dx, H1 x = none → H1 dx = none → dx ≠ x → sp (.ref x :: (vs ++ dvs)) (upd (upd H1 dx (.own x)) x (.ins C dx [])) (fun v H2 => v = .non ∧ Q (.ref x) H2) E
theorem x_make {C : Addr} {tr : TA} {sp : Sp} {dvs : List V} {E : XK} (q : tr σ H (rMake C sp dvs E Q)) : tMake C sp dvs E tr σ H Q := q
theorem x_rMake {C : Addr} {sp : Sp} {dvs vs : List V} {E : XK} (k : ∀ x dx H2, Fr x H → Fr dx H → dx ≠ x → Same H H2 → H2 dx = some (.own x) → H2 x = some (.ins C dx []) → sp (.ref x :: (vs ++ dvs)) H2 (fun v H3 => v = .non ∧ Q (.ref x) H3) E) : rMake C sp dvs E Q vs H :=
  fun x dx hx hd hn => k x dx _ ⟨hx⟩ ⟨hd⟩ hn (same_mut (same_fr ⟨hd⟩) ⟨hx⟩) ((upd_ne hn).trans upd_same) upd_same
/-- slices stored and deleted -/
def rDelT (R : Hp → Prop) (l : Addr) (xs : List V) (i : Nat) (u : Option Int) (H2 : Hp) : Prop := u = some (i : Int) ∧ H2 l = some (.lst xs) ∧ i ≤ xs.length ∧ R (upd H2 l (.lst (xs.take i)))
theorem x_delT {to : TE} {tl : TO} (q : to σ H fun x H1 => tl σ H1 fun u H2 => ∃ l xs i, x = .ref l ∧ rDelT (D.nx σ) l xs i u H2) : tDelT to tl D σ H := q
theorem x_sdelT {to : TE} {tl : TO} (q : to σ H fun x H1 => tl σ H1 fun u H2 => ∃ l xs i, x = .ref l ∧ rDelT (fun H3 => tz D σ H3) l xs i u H2) : tSeq (tDelT to tl) tz D σ H := q
theorem x_rDelT {l : Addr} {xs : List V} {i : Nat} {k : Int} {R : Hp → Prop} (e : k = (i : Int)) (h : H l = some (.lst xs)) (hi : i ≤ xs.length) (q : R (upd H l (.lst (xs.take i)))) : ∃ l' xs i', V.ref l = .ref l' ∧ rDelT R l' xs i' (some k) H := ⟨l, xs, i, rfl, by rw [e], h, hi, q⟩
end
end Xk
/-! ## pairs in order, defs with defaults -/
namespace Xk
open PySem PySem.Spec PyProof.Rows L2
/-- the pair (p, q) stands below (r, s) -/
def Bf (p q r s : Int) : Prop := p < r ∨ (p = r ∧ q < s)
instance {p q r s : Int} : Decidable (Bf p q r s) := by unfold Bf; infer_instance
section
variable {X : Cx} {K : PySem.W.Frag} {H : Hp} {Q : VK} {a b : Addr} {p q r s : Int}
theorem pair_in {pins : List (Addr × Obj)} {σ : L2.St} {z : Shared} (I : Inv X pins σ H z) (h : SqT X.K H a [.int p, .int q]) : ∃ t u, z.heap.IsTuple a #[.int p t, .int q u] := by
  obtain ⟨vs, rv, it, _⟩ := I.tuple h
  cases rv with
  | cons x y =>
    cases y with
    | cons y w =>
      cases w
      obtain ⟨t, rfl⟩ := x
      obtain ⟨u, rfl⟩ := y
      exact ⟨t, u, it⟩
theorem eq_ints {A : Around} {z : Shared} (i j : Int) (t u : Tok) : SeqAt.EqAt A z (.int i t) (.int j u) (decide (i = j)) := by
  have h : (i == j) = decide (i = j) := by
    by_cases e : i = j
    · subst e
      simp
    · simp [e]
  rw [← h]
  exact SeqAt.EqAt.int_int _ _ _ _
def rGeP (K : PySem.W.Frag) : R2 := fun x y H Q => ∃ a b p q r s, x = .ref a ∧ y = .ref b ∧ SqT K H a [.int p, .int q] ∧ SqT K H b [.int r, .int s] ∧ Q (.bl (!decide (Bf p q r s))) H
def rLtP (K : PySem.W.Frag) : R2 := fun x y H Q => ∃ a b p q r s, x = .ref a ∧ y = .ref b ∧ SqT K H a [.int p, .int q] ∧ SqT K H b [.int r, .int s] ∧ Q (.bl (decide (Bf p q r s))) H
theorem op_geP (hu : X.A.units < cLine) : OpR X (compareOp .GtE) (rGeP X.K) := by
  intro pins σ0 σ H x y v u Q I rx ry h
  obtain ⟨a, b, p, q, r, s, rfl, rfl, ha, hb, k⟩ := h
  cases rx
  cases ry
  obtain ⟨t1, t2, ia⟩ := pair_in I ha
  obtain ⟨t3, t4, ib⟩ := pair_in I hb
  have R := Ob.RcOp.tuples_ge (e := fun j => if j = 0 then decide (p = r) else decide (q = s)) (r := fun j => if j = 0 then decide (r ≤ p) else decide (s ≤ q)) ia ib hu
    (fun j h1 h2 => match j, h1, h2 with | 0, _, _ => eq_ints _ _ _ _ | 1, _, _ => eq_ints _ _ _ _ | j + 2, z, _ => absurd (show j + 2 < 2 from z) (by omega))
    (fun j h1 h2 _ => match j, h1, h2 with | 0, _, _ => Ob.RcOp.ge_int _ _ _ _ | 1, _, _ => Ob.RcOp.ge_int _ _ _ _ | j + 2, z, _ => absurd (show j + 2 < 2 from z) (by omega))
  refine R X.prog X.w X.xe _ ?_
  have e : Ob.lexAt (fun j => if j = 0 then decide (p = r) else decide (q = s)) (fun j => if j = 0 then decide (r ≤ p) else decide (s ≤ q)) (decide (2 ≥ 2)) 0 2 = !decide (Bf p q r s) := by
    simp only [Ob.lexAt_succ, Ob.lexAt_zero, Bf]
    by_cases h1 : p = r
    · by_cases h2 : q = s
      · simp [h1, h2]
      · by_cases h3 : s ≤ q
        · have h4 : ¬ q < s := by omega
          simp [h1, h2, h3, h4]
        · have h4 : q < s := by omega
          simp [h1, h2, h3, h4]
    · by_cases h3 : r ≤ p
      · have h4 : ¬ p < r := by omega
        simp [h1, h3, h4]
      · have h4 : p < r := by omega
        simp [h1, h3, h4]
  exact ⟨.bl _, H, I, rfl, (congrArg (fun z => Q (.bl z) H) e).mpr k⟩
theorem op_ltP (hu : X.A.units < cLine) : OpR X (compareOp .Lt) (rLtP X.K) := by
  intro pins σ0 σ H x y v u Q I rx ry h
  obtain ⟨a, b, p, q, r, s, rfl, rfl, ha, hb, k⟩ := h
  cases rx
  cases ry
  obtain ⟨t1, t2, ia⟩ := pair_in I ha
  obtain ⟨t3, t4, ib⟩ := pair_in I hb
  have R := Ob.RcOp.tuples_lt (e := fun j => if j = 0 then decide (p = r) else decide (q = s)) (r := fun j => if j = 0 then decide (p < r) else decide (q < s)) ia ib hu
    (fun j h1 h2 => match j, h1, h2 with | 0, _, _ => eq_ints _ _ _ _ | 1, _, _ => eq_ints _ _ _ _ | j + 2, z, _ => absurd (show j + 2 < 2 from z) (by omega))
    (fun j h1 h2 _ => match j, h1, h2 with | 0, _, _ => Ob.RcOp.lt_int _ _ _ _ | 1, _, _ => Ob.RcOp.lt_int _ _ _ _ | j + 2, z, _ => absurd (show j + 2 < 2 from z) (by omega))
  refine R X.prog X.w X.xe _ ?_
  have e : Ob.lexAt (fun j => if j = 0 then decide (p = r) else decide (q = s)) (fun j => if j = 0 then decide (p < r) else decide (q < s)) (decide (2 < 2)) 0 2 = decide (Bf p q r s) := by
    simp only [Ob.lexAt_succ, Ob.lexAt_zero, Bf]
    by_cases h1 : p = r
    · by_cases h2 : q = s
      · simp [h1, h2]
      · by_cases h3 : q < s
        · simp [h1, h2, h3]
        · simp [h1, h2, h3]
    · by_cases h3 : p < r
      · simp [h1, h3]
      · simp [h1, h3]
  exact ⟨.bl _, H, I, rfl, (congrArg (fun z => Q (.bl z) H) e).mpr k⟩
theorem k_geP (hu : X.A.units + 64 < cLine) (e : X.K = K) : OpR X (compareOp .GtE) (rGeP K) := e ▸ op_geP (by omega)
theorem k_ltP (hu : X.A.units + 64 < cLine) (e : X.K = K) : OpR X (compareOp .Lt) (rLtP K) := e ▸ op_ltP (by omega)
theorem x_geP (h : SqT K H a [.int p, .int q]) (h' : SqT K H b [.int r, .int s]) (k : Q (.bl (!decide (Bf p q r s))) H) : rGeP K (.ref a) (.ref b) H Q := ⟨a, b, p, q, r, s, rfl, rfl, h, h', k⟩
theorem x_ltP (h : SqT K H a [.int p, .int q]) (h' : SqT K H b [.int r, .int s]) (k : Q (.bl (decide (Bf p q r s))) H) : rLtP K (.ref a) (.ref b) H Q := ⟨a, b, p, q, r, s, rfl, rfl, h, h', k⟩
def nMax2 : List V → Hp → VK → Prop := fun xs H Q => ∃ i j : Int, xs = [.int i, .int j] ∧ Q (.int (max i j)) H
def nMin2 : List V → Hp → VK → Prop := fun xs H Q => ∃ i j : Int, xs = [.int i, .int j] ∧ Q (.int (min i j)) H
theorem call_nMax2 (hc : X.calm = true) : CallR X (.builtin "max") nMax2 := by
  intro pins s σ H xs us Q I r h
  obtain ⟨i, j, e, q⟩ := h
  refine call_max2 hc pins s σ H xs us Q I r ⟨i, j, e, ?_⟩
  have z : (if j > i then j else i) = max i j := by
    by_cases h : i < j
    · rw [if_pos h]
      omega
    · rw [if_neg h]
      omega
  rw [z]
  exact q
theorem call_nMin2 (hc : X.calm = true) : CallR X (.builtin "min") nMin2 := by
  intro pins s σ H xs us Q I r h
  obtain ⟨i, j, e, q⟩ := h
  refine call_min2 hc pins s σ H xs us Q I r ⟨i, j, e, ?_⟩
  have z : (if j < i then j else i) = min i j := by
    by_cases h : j < i
    · rw [if_pos h]
      omega
    · rw [if_neg h]
      omega
  rw [z]
  exact q
theorem x_nMax2 {i j : Int} (k : Q (.int (max i j)) H) : nMax2 [.int i, .int j] H Q := ⟨i, j, rfl, k⟩
theorem x_nMin2 {i j : Int} (k : Q (.int (min i j)) H) : nMin2 [.int i, .int j] H Q := ⟨i, j, rfl, k⟩
/-- lists and tuples stay, though an own object changes -/
structure Sk (K : PySem.W.Frag) (H H' : Hp) : Prop where
  l : ∀ a xs, SqL K H a xs → SqL K H' a xs
  t : ∀ a xs, SqT K H a xs → SqT K H' a xs
theorem sk_same {H' : Hp} (e : Same H H') : Sk K H H' := ⟨fun _ _ h => sq_same h e, fun _ _ h => st_same h e⟩
theorem Sk.refl (H : Hp) : Sk K H H := ⟨fun _ _ h => h, fun _ _ h => h⟩
theorem Sk.trans {H' H'' : Hp} (e : Sk K H H') (e' : Sk K H' H'') : Sk K H H'' := ⟨fun a xs h => e'.l a xs (e.l a xs h), fun a xs h => e'.t a xs (e.t a xs h)⟩
theorem sk_but {H' : Hp} {C dx : Addr} {fs : List (Str × V)} (hi : H a = some (.ins C dx fs)) (e : But a H H') : Sk K H H' := by
  have key : ∀ b o, H b = some o → (∀ C dx fs, o ≠ .ins C dx fs) → H' b = some o := fun b o hb hn => e b o (fun z => by
    subst z
    exact hn _ _ _ (Option.some.inj (hb.symm.trans hi))) hb
  constructor
  · intro b xs h
    rcases h with (h | ⟨o, h⟩) | h
    · exact .inl (.inl (key _ _ h fun _ _ _ z => by cases z))
    · exact .inl (.inr ⟨o, key _ _ h fun _ _ _ z => by cases z⟩)
    · exact .inr h
  · intro b xs h
    rcases h with (h | ⟨o, h⟩) | h
    · exact .inl (.inl (key _ _ h fun _ _ _ z => by cases z))
    · exact .inl (.inr ⟨o, key _ _ h fun _ _ _ z => by cases z⟩)
    · exact .inr h
mutual
theorem dp_sk {H' : Hp} (e : Sk K H H') : ∀ (d : PyData) (v : V), Dp K H v d → Dp K H' v d
  | .none, _, h => by cases h; exact .non
  | .bool b, _, h => by cases h; exact .bl b
  | .int i, _, h => by cases h; exact .int i
  | .str x, _, h => by cases h; exact .str x
  | .list ds, _, h => by
    cases h with
    | lst hs ha => exact .lst (e.l _ _ hs) (dps_sk e ds _ ha)
  | .tuple ds, _, h => by
    cases h with
    | tup hs ha => exact .tup (e.t _ _ hs) (dps_sk e ds _ ha)
  | .dict _, _, h => by cases h
theorem dps_sk {H' : Hp} (e : Sk K H H') : ∀ (ds : List PyData) (vs : List V), DpAll K H vs ds → DpAll K H' vs ds
  | [], _, h => by cases h; exact .nil
  | d :: ds, _, h => by
    cases h with
    | cons h1 h2 => exact .cons (dp_sk e d _ h1) (dps_sk e ds _ h2)
end
/-- tuples stay -/
structure St (K : PySem.W.Frag) (H H' : Hp) : Prop where
  t : ∀ a xs, SqT K H a xs → SqT K H' a xs
theorem Sk.st {H' : Hp} (e : Sk K H H') : St K H H' := ⟨e.t⟩
theorem St.refl (H : Hp) : St K H H := ⟨fun _ _ h => h⟩
theorem St.trans {H' H'' : Hp} (e : St K H H') (e' : St K H' H'') : St K H H'' := ⟨fun a xs h => e'.t a xs (e.t a xs h)⟩
theorem tt_same {H' : Hp} (e : Same H H') : St K H H' := ⟨fun _ _ h => st_same h e⟩
theorem tt_but {H' : Hp} {o : HO} (hi : H a = some o) (h1 : ∀ xs, o ≠ .tup xs) (h2 : ∀ u xs, o ≠ .frz u (.tup xs)) (e : But a H H') : St K H H' := by
  refine ⟨fun b xs h => ?_⟩
  rcases h with (h | ⟨u, h⟩) | h
  · exact .inl (.inl (e b _ (fun z => by subst z; exact h1 xs (Option.some.inj (hi.symm.trans h))) h))
  · exact .inl (.inr ⟨u, e b _ (fun z => by subst z; exact h2 u xs (Option.some.inj (hi.symm.trans h))) h⟩)
  · exact .inr h
theorem tt_butL {H' : Hp} {ys : List V} (hi : H a = some (.lst ys)) (e : But a H H') : St K H H' := tt_but hi (fun _ z => by cases z) (fun _ _ z => by cases z) e
theorem tt_butO {H' : Hp} {C dx : Addr} {fs : List (Str × V)} (hi : H a = some (.ins C dx fs)) (e : But a H H') : St K H H' := tt_but hi (fun _ z => by cases z) (fun _ _ z => by cases z) e
theorem tt_mutL {o : HO} {ys : List V} (hi : H a = some (.lst ys)) : St K H (upd H a o) := tt_butL hi (but_mut (But.refl _ _))
mutual
/-- none, ints, truth values, texts, and tuples of such -/
def tupD : PyData → Bool
  | .none | .bool _ | .int _ => true
  | .str x => PyData.canLay0 (.str x)
  | .tuple xs => tupDs xs
  | .list _ | .dict _ => false
def tupDs : List PyData → Bool
  | [] => true
  | x :: xs => tupD x && tupDs xs
end
mutual
theorem tupD_lay : ∀ (d : PyData), tupD d = true → d.canLay0 = true
  | .none, _ => rfl
  | .bool _, _ => rfl
  | .int _, _ => rfl
  | .str x, h => h
  | .tuple xs, h => tupDs_lay xs h
  | .list _, h => by cases h
  | .dict _, h => by cases h
theorem tupDs_lay : ∀ (ds : List PyData), tupDs ds = true → PyData.canLayAll0 ds = true
  | [], _ => rfl
  | x :: xs, h => by
    have h2 : (tupD x && tupDs xs) = true := h
    rw [Bool.and_eq_true] at h2
    show (x.canLay0 && PyData.canLayAll0 xs) = true
    rw [tupD_lay x h2.1, tupDs_lay xs h2.2]
    rfl
end
mutual
theorem dp_st {H' : Hp} (e : St K H H') : ∀ (d : PyData) (v : V), tupD d = true → Dp K H v d → Dp K H' v d
  | .none, _, _, h => by cases h; exact .non
  | .bool b, _, _, h => by cases h; exact .bl b
  | .int i, _, _, h => by cases h; exact .int i
  | .str x, _, _, h => by cases h; exact .str x
  | .list ds, _, c, _ => by cases c
  | .tuple ds, _, c, h => by
    cases h with
    | tup hs ha => exact .tup (e.t _ _ hs) (dps_st e ds _ c ha)
  | .dict _, _, _, h => by cases h
theorem dps_st {H' : Hp} (e : St K H H') : ∀ (ds : List PyData) (vs : List V), tupDs ds = true → DpAll K H vs ds → DpAll K H' vs ds
  | [], _, _, h => by cases h; exact .nil
  | d :: ds, _, c, h => by
    have h2 : (tupD d && tupDs ds) = true := c
    rw [Bool.and_eq_true] at h2
    cases h with
    | cons h3 h4 => exact .cons (dp_st e d _ h2.1 h3) (dps_st e ds _ h2.2 h4)
end
/-- packable data at v, not deep -/
def Pk (K : PySem.W.Frag) (H : Hp) (n : Nat) (v : V) (d : PyData) : Prop := Dp K H v d ∧ tupD d = true ∧ d.depth ≤ n
theorem Pk.st {H' : Hp} {n : Nat} {v : V} {d : PyData} (h : Pk K H n v d) (e : St K H H') : Pk K H' n v d := ⟨dp_st e d v h.2.1 h.1, h.2⟩
theorem Pk.sk {H' : Hp} {n : Nat} {v : V} {d : PyData} (h : Pk K H n v d) (e : Sk K H H') : Pk K H' n v d := h.st e.st
theorem Pk.same {H' : Hp} {n : Nat} {v : V} {d : PyData} (h : Pk K H n v d) (e : Same H H') : Pk K H' n v d := h.st (tt_same e)
theorem Pk.mono {n m : Nat} {v : V} {d : PyData} (h : Pk K H n v d) (l : n ≤ m) : Pk K H m v d := ⟨h.1, h.2.1, Nat.le_trans h.2.2 l⟩
theorem Pk.lay {n : Nat} {v : V} {d : PyData} (h : Pk K H n v d) : d.canLay0 = true := tupD_lay d h.2.1
theorem pk_non {n : Nat} : Pk K H n .non .none := ⟨.non, rfl, Nat.zero_le _⟩
theorem pk_int {n : Nat} {i : Int} : Pk K H n (.int i) (.int i) := ⟨.int i, rfl, Nat.zero_le _⟩
theorem pk_str {n : Nat} {x : Str} (h : PyData.canLay0 (.str x) = true := by decide +kernel) : Pk K H n (.str x) (.str x) := ⟨.str x, h, Nat.zero_le _⟩
/-- packable data, one behind another -/
def PkAll (K : PySem.W.Frag) (H : Hp) (n : Nat) (vs : List V) (ds : List PyData) : Prop := DpAll K H vs ds ∧ tupDs ds = true ∧ PyData.depthAll ds ≤ n
theorem PkAll.st {H' : Hp} {n : Nat} {vs : List V} {ds : List PyData} (h : PkAll K H n vs ds) (e : St K H H') : PkAll K H' n vs ds := ⟨dps_st e ds vs h.2.1 h.1, h.2⟩
theorem PkAll.same {H' : Hp} {n : Nat} {vs : List V} {ds : List PyData} (h : PkAll K H n vs ds) (e : Same H H') : PkAll K H' n vs ds := h.st (tt_same e)
theorem PkAll.mono {n m : Nat} {vs : List V} {ds : List PyData} (h : PkAll K H n vs ds) (l : n ≤ m) : PkAll K H m vs ds := ⟨h.1, h.2.1, Nat.le_trans h.2.2 l⟩
theorem PkAll.lay {n : Nat} {vs : List V} {ds : List PyData} (h : PkAll K H n vs ds) : PyData.canLayAll0 ds = true := tupDs_lay ds h.2.1
theorem pk_nil {n : Nat} : PkAll K H n [] [] := ⟨.nil, rfl, Nat.zero_le _⟩
theorem pk_cons {n : Nat} {v : V} {vs : List V} {d : PyData} {ds : List PyData} (h : Pk K H n v d) (h' : PkAll K H n vs ds) : PkAll K H n (v :: vs) (d :: ds) :=
  ⟨.cons h.1 h'.1, by show (tupD d && tupDs ds) = true; rw [h.2.1, h'.2.1]; rfl, by show max _ _ ≤ n; have := h.2.2; have := h'.2.2; omega⟩
theorem PkAll.uncons {n : Nat} {v : V} {vs : List V} {ds : List PyData} (h : PkAll K H n (v :: vs) ds) : ∃ d es, ds = d :: es ∧ Pk K H n v d ∧ PkAll K H n vs es := by
  obtain ⟨h1, h2, h3⟩ := h
  cases h1 with
  | cons a b =>
    rename_i d es
    have h4 : (tupD d && tupDs es) = true := h2
    rw [Bool.and_eq_true] at h4
    have h5 : max d.depth (PyData.depthAll es) ≤ n := h3
    exact ⟨d, es, rfl, ⟨a, h4.1, by omega⟩, ⟨b, h4.2, by omega⟩⟩
theorem pk_snoc {n : Nat} : ∀ {vs : List V} {ds : List PyData} {v : V} {d : PyData}, PkAll K H n vs ds → Pk K H n v d → PkAll K H n (vs ++ [v]) (ds ++ [d])
  | [], ds, v, d, h, h' => by
    obtain ⟨h1, _, _⟩ := h
    cases h1
    exact pk_cons h' pk_nil
  | w :: vs, ds, v, d, h, h' => by
    obtain ⟨e, es, rfl, h1, h2⟩ := h.uncons
    exact pk_cons h1 (pk_snoc h2 h')
theorem PkAll.len {n : Nat} : ∀ {vs : List V} {ds : List PyData}, PkAll K H n vs ds → vs.length = ds.length
  | [], ds, h => by
    obtain ⟨h1, _, _⟩ := h
    cases h1
    rfl
  | w :: vs, ds, h => by
    obtain ⟨e, es, rfl, h1, h2⟩ := h.uncons
    show vs.length + 1 = es.length + 1
    rw [h2.len]
theorem PkAll.take {n : Nat} : ∀ {vs : List V} {ds : List PyData} (k : Nat), PkAll K H n vs ds → PkAll K H n (vs.take k) (ds.take k)
  | vs, ds, 0, h => pk_nil
  | [], ds, k + 1, h => by
    obtain ⟨h1, _, _⟩ := h
    cases h1
    exact pk_nil
  | w :: vs, ds, k + 1, h => by
    obtain ⟨e, es, rfl, h1, h2⟩ := h.uncons
    exact pk_cons h1 (h2.take k)
theorem PkAll.at {n : Nat} : ∀ {vs : List V} {ds : List PyData} {i : Nat} {v : V}, PkAll K H n vs ds → vs[i]? = some v → ∃ d, ds[i]? = some d ∧ Pk K H n v d
  | [], ds, i, v, h, e => by simp at e
  | w :: vs, ds, 0, v, h, e => by
    obtain ⟨d, es, rfl, h1, h2⟩ := h.uncons
    cases (show w = v from Option.some.inj e)
    exact ⟨d, rfl, h1⟩
  | w :: vs, ds, i + 1, v, h, e => by
    obtain ⟨d, es, rfl, h1, h2⟩ := h.uncons
    exact h2.at e
theorem pk_tup {n : Nat} {a : Addr} {vs : List V} {ds : List PyData} (h : SqT K H a vs) (h1 : PkAll K H n vs ds) : Pk K H (n + 1) (.ref a) (.tuple ds) :=
  ⟨.tup h h1.1, h1.2.1, Nat.add_le_add_right h1.2.2 1⟩
theorem pk_tup1 {n : Nat} {a : Addr} {v : V} {d : PyData} (h : SqT K H a [v]) (h1 : Pk K H n v d) : Pk K H (n + 1) (.ref a) (.tuple [d]) := pk_tup h (pk_cons h1 pk_nil)
theorem pk_tup2 {n : Nat} {a : Addr} {v w : V} {d e : PyData} (h : SqT K H a [v, w]) (h1 : Pk K H n v d) (h2 : Pk K H n w e) : Pk K H (n + 1) (.ref a) (.tuple [d, e]) := pk_tup h (pk_cons h1 (pk_cons h2 pk_nil))
theorem pk_tup3 {n : Nat} {a : Addr} {u v w : V} {c d e : PyData} (h : SqT K H a [u, v, w]) (h0 : Pk K H n u c) (h1 : Pk K H n v d) (h2 : Pk K H n w e) : Pk K H (n + 1) (.ref a) (.tuple [c, d, e]) := pk_tup h (pk_cons h0 (pk_cons h1 (pk_cons h2 pk_nil)))
/-- equal data, one way or the other -/
theorem x_nePk {n m : Nat} {x y : V} {d : PyData} (h : Pk K H n x d) (h' : Pk K H m y d) (q : Q (.bl false) H) (l : n ≤ 64 := by decide) : rNeD K x y H Q := x_neSame h.1 h'.1 h.lay (Nat.le_trans h.2.2 l) q
theorem x_eqPk {n m : Nat} {x y : V} {d : PyData} (h : Pk K H n x d) (h' : Pk K H m y d) (q : Q (.bl true) H) (l : n ≤ 64 := by decide) : rEqD K x y H Q := x_eqSame h.1 h'.1 h.lay (Nat.le_trans h.2.2 l) q
theorem lay_list {ds : List PyData} (h : PyData.canLayAll0 ds = true) : PyData.canLay0 (.list ds) = true := h
theorem x_nePkL {n m : Nat} {p q' : Addr} {xs ys : List V} {ds : List PyData} (hp : SqL K H p xs) (hq : SqL K H q' ys) (h : PkAll K H n xs ds) (h' : PkAll K H m ys ds) (q : Q (.bl false) H) (l : n ≤ 63 := by decide) : rNeD K (.ref p) (.ref q') H Q :=
  x_neSame (.lst hp h.1) (.lst hq h'.1) (lay_list h.lay) (Nat.add_le_add_right (Nat.le_trans h.2.2 l) 1) q
theorem x_eqPkL {n m : Nat} {p q' : Addr} {xs ys : List V} {ds : List PyData} (hp : SqL K H p xs) (hq : SqL K H q' ys) (h : PkAll K H n xs ds) (h' : PkAll K H m ys ds) (q : Q (.bl true) H) (l : n ≤ 63 := by decide) : rEqD K (.ref p) (.ref q') H Q :=
  x_eqSame (.lst hp h.1) (.lst hq h'.1) (lay_list h.lay) (Nat.add_le_add_right (Nat.le_trans h.2.2 l) 1) q
theorem u65 {k : Nat} {A : Around} (r : Room k A) : A.units + 65 < cLine := by
  have := r.un
  omega
theorem k_inD (hu : X.A.units + 65 < cLine) (e : X.K = K) : OpR X (compareOp .In) (rInD K) := e ▸ op_inD hu
theorem k_ninD (hu : X.A.units + 65 < cLine) (e : X.K = K) : OpR X (compareOp .NotIn) (rNotInD K) := e ▸ op_notInD hu
/-- whether d is among ds -/
def inD (d : PyData) (ds : List PyData) : Bool := ds.any fun z => PyData.eqv z d
theorem x_inPk {n m : Nat} {x : V} {d : PyData} {xs : List V} {ds : List PyData} (h : Pk K H n x d) (hp : SqL K H a xs) (h' : PkAll K H m xs ds) (k : Q (.bl (inD d ds)) H) (l : n ≤ 64 := by decide) (l' : m ≤ 63 := by decide) : rInD K x (.ref a) H Q :=
  ⟨d, ds, h.1, .lst hp h'.1, shaped_of h.lay (Nat.le_trans h.2.2 l), shaped_of (lay_list h'.lay) (Nat.add_le_add_right (Nat.le_trans h'.2.2 l') 1), k⟩
theorem x_ninPk {n m : Nat} {x : V} {d : PyData} {xs : List V} {ds : List PyData} (h : Pk K H n x d) (hp : SqL K H a xs) (h' : PkAll K H m xs ds) (k : Q (.bl (!inD d ds)) H) (l : n ≤ 64 := by decide) (l' : m ≤ 63 := by decide) : rNotInD K x (.ref a) H Q :=
  ⟨d, ds, h.1, .lst hp h'.1, shaped_of h.lay (Nat.le_trans h.2.2 l), shaped_of (lay_list h'.lay) (Nat.add_le_add_right (Nat.le_trans h'.2.2 l') 1), k⟩
theorem x_inD {x : V} {d : PyData} {ds : List PyData} (h : Dp K H x d) (h' : Dp K H (.ref a) (.list ds)) (c : d.canLay0 = true) (n : d.depth ≤ 64) (c' : PyData.canLay0 (.list ds) = true) (n' : PyData.depth (.list ds) ≤ 64) (k : Q (.bl (inD d ds)) H) : rInD K x (.ref a) H Q :=
  ⟨d, ds, h, h', shaped_of c n, shaped_of c' n', k⟩
theorem x_ninD {x : V} {d : PyData} {ds : List PyData} (h : Dp K H x d) (h' : Dp K H (.ref a) (.list ds)) (c : d.canLay0 = true) (n : d.depth ≤ 64) (c' : PyData.canLay0 (.list ds) = true) (n' : PyData.depth (.list ds) ≤ 64) (k : Q (.bl (!inD d ds)) H) : rNotInD K x (.ref a) H Q :=
  ⟨d, ds, h, h', shaped_of c n, shaped_of c' n', k⟩
/-- a sign some times over -/
def repS (x : Str) (n : Int) : Str := if n < 1 then Str.empty else if (n == 1 || x.length == 0) = true then x else ⟨(List.replicate n.toNat x.cps).foldl (· ++ ·) #[]⟩
def nRepS : R2 := fun x y H Q => ∃ (z : Str) (n : Int), x = .str z ∧ y = .int n ∧ 0 ≤ n ∧ n ≤ 1000 ∧ z.length ≤ 100 ∧ Q (.str (repS z n)) H
theorem op_nRepS : OpR X (binaryOp .Mult) nRepS := by
  intro pins s σ H x y v u Q I rx ry h
  obtain ⟨z, n, rfl, rfl, h0, h1, h2, q⟩ := h
  obtain ⟨t, rfl⟩ := rx
  obtain ⟨t', rfl⟩ := ry
  have hlen : z.length * n.toNat ≤ 100000 := by
    have h3 : n.toNat ≤ 1000 := by omega
    calc z.length * n.toNat ≤ 100 * n.toNat := Nat.mul_le_mul_right _ h2
      _ ≤ 100000 := by omega
  refine PySem.P.mul_str ?_ ?_ ?_ ?_
  · rw [decide_eq_false (by omega), decide_eq_false (by omega)]
    rfl
  · intro h3 _ h4
    have h5 : (1000 : Int) ≤ (2 ^ 63 - 1) / n := by
      rw [Int.le_ediv_iff_mul_le (by omega)]
      omega
    omega
  · intro _ _
    exact decide_eq_false (by unfold sizeLine; omega)
  · unfold repS at q
    by_cases h3 : n < 1
    · rw [if_pos h3] at q ⊢
      exact ⟨by decide, .str Str.empty, H, I.tok _, ⟨_, rfl⟩, q⟩
    · rw [if_neg h3] at q ⊢
      by_cases h4 : (n == 1 || z.length == 0) = true
      · rw [if_pos h4] at q ⊢
        exact ⟨.str z, H, I, ⟨_, rfl⟩, q⟩
      · rw [if_neg h4] at q ⊢
        exact ⟨PySem.fits_reps (decide_eq_false (by unfold sizeLine; omega)), .str _, H, I.tok _, ⟨_, rfl⟩, q⟩
theorem x_nRepS {z : Str} {n : Int} (h : 0 ≤ n ∧ n ≤ 1000) (hz : z.length ≤ 100) (k : Q (.str (repS z n)) H) : nRepS (.str z) (.int n) H Q := ⟨z, n, rfl, rfl, h.1, h.2, hz, k⟩
/-- a range from its end -/
def rRevR (i : Nat) (tu : TS) (D : Ends) (σ : L2.St) : Int → Int → Hp → Prop := fun lo hi H => -(2 ^ 62) ≤ lo ∧ lo < 2 ^ 62 ∧ -(2 ^ 62) ≤ hi ∧ hi < 2 ^ 62 ∧ ∃ W : Nat → Nat → L2.St → Hp → Prop, (∃ m, W 0 m σ H) ∧ ∀ j m σ H, W j m σ H →
  ((Itc (lo + (((hi - lo).toNat : Nat) : Int) - 1) (-1) (hi - lo).toNat).stop j H ∧ D.nx σ H) ∨ ((Itc (lo + (((hi - lo).toNat : Nat) : Int) - 1) (-1) (hi - lo).toNat).go j H ∧ ∃ N : L2.St → Hp → Prop, (∀ σ' H', N σ' H' → ∃ m', m' < m ∧ W (j + 1) m' σ' H') ∧
    ∀ x H', (Itc (lo + (((hi - lo).toNat : Nat) : Int) - 1) (-1) (hi - lo).toNat).yld j H x H' → gName i x σ H' fun σ2 H2 => tu { D with nx := N, ct := N, bk := D.nx } σ2 H2)
theorem x_forRev1 {i : Nat} {tu : TS} {D : Ends} {σ : L2.St} {tr : L2.St → Hp → (Int → Int → Hp → Prop) → Prop} (q : tr σ H (rRevR i tu D σ)) : tFor (iRevR tr) (gName i) tu D σ H := q
theorem x_forRev {i : Nat} {tu : TS} {D : Ends} {σ : L2.St} {m : Int} (Pv : Nat → L2.St → Hp → Prop) (hm : 0 ≤ m ∧ m ≤ 100000) (p0 : Pv 0 σ H)
    (ps : ∀ (j : Nat) σ' H', (j : Int) < m → Pv j σ' H' → tu { D with nx := Pv (j + 1), ct := Pv (j + 1), bk := D.nx } (σ'.set i (some (.int (m - 1 - j)))) H') (pd : ∀ σ' H', Pv m.toNat σ' H' → D.nx σ' H') : rRevR i tu D σ 0 m H := by
  have e : (m - 0).toNat = m.toNat := by omega
  refine ⟨by omega, by omega, by omega, by omega, ?_⟩
  rw [e]
  refine for_rangeC (n := m.toNat) Pv p0 (fun j σ' H' hj p => ?_) pd
  have e0 : (0 : Int) + ((m.toNat : Nat) : Int) - 1 + (j : Nat) * (-1) = m - 1 - j := by omega
  show tu { D with nx := Pv (j + 1), ct := Pv (j + 1), bk := D.nx } (σ'.set i (some (.int ((0 : Int) + ((m.toNat : Nat) : Int) - 1 + (j : Nat) * (-1))))) H'
  rw [e0]
  exact ps j σ' H' (by omega) p
theorem cut_take {xs : List V} {k : Int} {n : Nat} (e : k = (n : Int)) : cutV xs none (some k) = xs.take n := by
  subst e
  unfold cutV
  rw [HT.sIx_nat, HT.sIx_none, List.drop_zero, Nat.sub_zero]
  by_cases h : n ≤ xs.length
  · rw [show min n xs.length = n by omega]
  · rw [show min n xs.length = xs.length by omega, List.take_length, List.take_of_length_le (by omega)]
theorem cut_drop {xs : List V} {k : Int} {n : Nat} (e : k = (n : Int)) : cutV xs (some k) none = xs.drop n := by
  subst e
  unfold cutV
  rw [HT.sIx_nat, HT.sIx_none]
  by_cases h : n ≤ xs.length
  · rw [show min n xs.length = n by omega, List.take_of_length_le (by rw [List.length_drop]; omega)]
  · rw [show min n xs.length = xs.length by omega, List.drop_length, List.drop_of_length_le (by omega)]
    simp
/-- range(lo, hi) -/
def rRange2 (n : Nat) (tu : TS) (D : Ends) (σ : L2.St) : List V → Hp → Prop := fun vs H => ∃ i j : Int, vs = [.int i, .int j] ∧ (-(2 ^ 62) ≤ i ∧ i < 2 ^ 62 ∧ -(2 ^ 62) ≤ j ∧ j < 2 ^ 62) ∧ ∃ W : Nat → Nat → L2.St → Hp → Prop, (∃ m, W 0 m σ H) ∧ ∀ k m σ H, W k m σ H →
  ((Itr i (j - i).toNat).stop k H ∧ D.nx σ H) ∨ ((Itr i (j - i).toNat).go k H ∧ ∃ N : L2.St → Hp → Prop, (∀ σ' H', N σ' H' → ∃ m', m' < m ∧ W (k + 1) m' σ' H') ∧ ∀ x H', (Itr i (j - i).toNat).yld k H x H' → gName n x σ H' fun σ2 H2 => tu { D with nx := N, ct := N, bk := D.nx } σ2 H2)
theorem x_forR2 {n : Nat} {tu : TS} {D : Ends} {σ : L2.St} {tr : TA} (q : tr σ H (rRange2 n tu D σ)) : tFor (iRng2 tr) (gName n) tu D σ H := q
theorem x_range2 {n : Nat} {tu : TS} {D : Ends} {σ : L2.St} {lo hi : Int} (Pv : Nat → L2.St → Hp → Prop) (hm : -1000000 ≤ lo ∧ lo ≤ 1000000 ∧ -1000000 ≤ hi ∧ hi ≤ 1000000) (p0 : Pv 0 σ H)
    (ps : ∀ (k : Nat) σ' H', lo + (k : Int) < hi → Pv k σ' H' → tu { D with nx := Pv (k + 1), ct := Pv (k + 1), bk := D.nx } (σ'.set n (some (.int (lo + (k : Int))))) H') (pd : ∀ σ' H', Pv (hi - lo).toNat σ' H' → D.nx σ' H') : rRange2 n tu D σ [.int lo, .int hi] H :=
  ⟨lo, hi, rfl, ⟨by omega, by omega, by omega, by omega⟩, for_range (lo := lo) (n := (hi - lo).toNat) Pv p0 (fun k σ' H' hk p => ps k σ' H' (by omega) p) pd⟩
theorem pk_ints {n : Nat} : ∀ ns : List Int, PkAll K H n (ns.map V.int) (ns.map PyData.int)
  | [] => pk_nil
  | m :: r => pk_cons pk_int (pk_ints r)
/-! dicts whose keys are texts -/
def rDG (x : V) (Q : VK) : VK := fun y H2 => ∃ (a : Addr) (v : V), x = .ref a ∧ DGet H2 a y (some v) ∧ Q v H2
theorem x_dget {td ty : TE} {σ : L2.St} (q : td σ H fun x H1 => ty σ H1 (rDG x Q)) : tDGet td ty σ H Q := q
theorem x_rDG {kvs : List (Key × V)} {k : Str} {v : V} (h : H a = some (.dK kvs)) (e : valV kvs (Sum.inr k) = some v) (q : Q v H) : rDG (.ref a) Q (.str k) H := ⟨a, v, rfl, by rw [← e]; exact (DGet.k (k := Sum.inr k) h : DGet H a (kV (Sum.inr k)) (valV kvs (Sum.inr k))), q⟩
def rDP (x v : V) (R : Hp → Prop) : VK := fun y H3 => ∃ (a : Addr) (H4 : Hp), x = .ref a ∧ DPut H3 a y v H4 ∧ R H4
theorem x_sdput {td ty tv : TE} {D : Ends} {σ : L2.St} {tz : TS} (q : tv σ H fun v H1 => td σ H1 fun x H2 => ty σ H2 (rDP x v fun H4 => tz D σ H4)) : tSeq (sDPut td ty tv) tz D σ H := q
theorem x_dput {td ty tv : TE} {D : Ends} {σ : L2.St} (q : tv σ H fun v H1 => td σ H1 fun x H2 => ty σ H2 (rDP x v fun H4 => D.nx σ H4)) : sDPut td ty tv D σ H := q
theorem x_rDP {kvs kvs' : List (Key × V)} {k : Str} {v : V} {R : Hp → Prop} (h : H a = some (.dK kvs)) (hl : kvs.length < 1000) (e : putK kvs (Sum.inr k) v = kvs') (q : R (upd H a (.dK kvs'))) : rDP (.ref a) v R (.str k) H :=
  ⟨a, upd H a (.dK (putK kvs (Sum.inr k) v)), rfl, (DPut.k (k := Sum.inr k) h (small1000 (Nat.le_of_lt hl)) : DPut H a (kV (Sum.inr k)) v _), by rw [e]; exact q⟩
theorem x_disp {trs : List (TE × TE)} {σ : L2.St} (q : ∀ p, Fr p H → tPairs trs σ (upd H p (.dK [])) fun ps H2 => H2 p = some (.dK []) ∧ ∃ kvs : List (Key × V), ps = kvs.map (fun kv => (kV kv.1, kv.2)) ∧ kvs.length ≤ 15 ∧ Q (.ref p) (upd H2 p (.dK (mergeK [] kvs)))) : tDisp trs σ H Q := fun p hp => q p ⟨hp⟩
theorem x_pcons {tk tv : TE} {r : List (TE × TE)} {σ : L2.St} {R : List (V × V) → Hp → Prop} (q : tk σ H fun x H1 => tv σ H1 fun y H2 => tPairs r σ H2 fun ps H3 => R ((x, y) :: ps) H3) : tPairs ((tk, tv) :: r) σ H R := q
theorem x_pnil {σ : L2.St} {R : List (V × V) → Hp → Prop} (q : R [] H) : tPairs [] σ H R := q
/-! lists of ints sorted where they stand -/
theorem x_rSortI {ns : List Int} (h : H a = some (.lst (ns.map V.int))) (k : ∀ ns' : List Int, ns'.Perm ns → ns'.Pairwise (· ≤ ·) → Q .non (upd H a (.lst (ns'.map V.int)))) : rSortI (.ref a) [] H Q := ⟨a, ns, rfl, rfl, h, k⟩
theorem srt_eq {xs ys : List Int} (p : xs.Perm ys) (h1 : xs.Pairwise (· ≤ ·)) (h2 : ys.Pairwise (· ≤ ·)) : xs = ys := p.eq_of_pairwise (fun x y _ _ h h' => Int.le_antisymm h h') h1 h2
/-! texts -/
def nInS : R2 := fun x y H Q => ∃ (c : Nat) (z : Str), x = .str ⟨#[c]⟩ ∧ y = .str z ∧ Q (.bl (decide (c ∈ z.cps.toList))) H
def nNotInS : R2 := fun x y H Q => ∃ (c : Nat) (z : Str), x = .str ⟨#[c]⟩ ∧ y = .str z ∧ Q (.bl (!decide (c ∈ z.cps.toList))) H
theorem op_nInS : OpR X (compareOp .In) nInS := op_in_sign
theorem op_nNotInS : OpR X (compareOp .NotIn) nNotInS := op_notIn_sign
theorem x_inS {c : Nat} {z : Str} (q : Q (.bl (decide (c ∈ z.cps.toList))) H) : nInS (.str ⟨#[c]⟩) (.str z) H Q := ⟨c, z, rfl, rfl, q⟩
theorem x_notInS {c : Nat} {z : Str} (q : Q (.bl (!decide (c ∈ z.cps.toList))) H) : nNotInS (.str ⟨#[c]⟩) (.str z) H Q := ⟨c, z, rfl, rfl, q⟩
def nAddS : R2 := fun x y H Q => ∃ i j : Str, x = .str i ∧ y = .str j ∧ i.length + j.length ≤ sizeLine ∧ Q (.str (i ++ j)) H
theorem op_nAddS : OpR X (binaryOp .Add) nAddS := op_add_str
theorem x_nAddS {i j : Str} (h : i.length + j.length ≤ 100000) (q : Q (.str (i ++ j)) H) : nAddS (.str i) (.str j) H Q := ⟨i, j, rfl, rfl, size_ok h, q⟩
def nLenS : List V → Hp → VK → Prop := fun xs H Q => ∃ z : Str, xs = [.str z] ∧ z.length ≤ sizeLine ∧ Q (.int z.length) H
theorem call_nLenS : CallR X (.builtin "len") nLenS := call_len_str
theorem x_nLenS {z : Str} (h : z.length ≤ 100000) (q : Q (.int z.length) H) : nLenS [.str z] H Q := ⟨z, rfl, size_ok h, q⟩
theorem x_slS {z : Str} {lo hi : Option Int} (h : z.length ≤ 100000) (q : Q (.str (cutS z lo hi)) H) : rSlS (.str z) lo hi H Q := ⟨z, rfl, size_ok h, q⟩
def rLcS (g : TG) (tt : TT) (te : TE) (vs : List Nat) (σ : L2.St) (Q : VK) : VK := fun x H1 => ∃ z, x = .str z ∧ RLc (Its z) g tt te vs σ Q H1
theorem x_lcS1 {g : TG} {t : TT} {te tx : TE} {vs : List Nat} {σ : L2.St} (q : tx σ H (rLcS g t te vs σ Q)) : tLc (iStr tx) g t te vs σ H Q := q
theorem x_lcS {g : TG} {t : TT} {te : TE} {vs : List Nat} {σ : L2.St} {z : Str} (Pv : Addr → Nat → Hp → Prop) (h0 : ∀ Dl, Fr Dl H → Pv Dl 0 (upd H Dl (.lst [])))
    (hs : ∀ Dl, Fr Dl H → ∀ i c H', z.cps.toList[i]? = some c → Pv Dl i H' → g (.str ⟨#[c]⟩) (wipe σ vs) H' fun σ2 H2 => wipe σ2 vs = wipe σ vs ∧ t σ2 H2 fun b H3 =>
      if b = true then te σ2 H3 fun y H4 => ∃ acc, H4 Dl = some (.lst acc) ∧ acc.length < sizeLine ∧ Pv Dl (i + 1) (upd H4 Dl (.lst (acc ++ [y]))) else Pv Dl (i + 1) H3)
    (hd : ∀ Dl H', Fr Dl H → Pv Dl z.length H' → Q (.ref Dl) H') : rLcS g t te vs σ Q (.str z) H := ⟨z, rfl, fun Dl hD =>
  lc_it walk_str (Pv Dl) (h0 Dl ⟨hD⟩) (fun _ _ _ _ => trivial) (fun i x H1 H' _ p y => by
    obtain ⟨rfl, c, hc, rfl⟩ := y
    exact hs Dl ⟨hD⟩ i c _ (by rw [← hc]; simp) p) (fun H' p => hd Dl H' ⟨hD⟩ p)⟩
/-! ### texts gone through, keys of a dict -/
def rForS (g : TG) (tu : TS) (D : Ends) (σ : L2.St) : VK := fun x H => ∃ z, x = .str z ∧ ∃ W : Nat → Nat → L2.St → Hp → Prop, (∃ m, W 0 m σ H) ∧ ∀ i m σ H, W i m σ H →
  ((Its z).stop i H ∧ D.nx σ H) ∨ ((Its z).go i H ∧ ∃ N : L2.St → Hp → Prop, (∀ σ' H', N σ' H' → ∃ m', m' < m ∧ W (i + 1) m' σ' H') ∧ ∀ x H', (Its z).yld i H x H' → g x σ H' fun σ2 H2 => tu { D with nx := N, ct := N, bk := D.nx } σ2 H2)
theorem x_forS1 {g : TG} {tu : TS} {D : Ends} {σ : L2.St} {te : TE} (q : te σ H (rForS g tu D σ)) : tFor (iStr te) g tu D σ H := q
theorem x_forS {g : TG} {tu : TS} {D : Ends} {σ : L2.St} {z : Str} (Pv : Nat → L2.St → Hp → Prop) (p0 : Pv 0 σ H)
    (ps : ∀ i c σ' H', z.cps.toList[i]? = some c → Pv i σ' H' → g (.str ⟨#[c]⟩) σ' H' fun σ2 H2 => tu { D with nx := Pv (i + 1), ct := Pv (i + 1), bk := D.nx } σ2 H2) (pd : ∀ σ' H', Pv z.length σ' H' → D.nx σ' H') : rForS g tu D σ (.str z) H :=
  ⟨z, rfl, for_it walk_str Pv p0 (fun _ _ _ _ _ => trivial) (fun i x σ H H' _ p y => by
    obtain ⟨rfl, c, hc, rfl⟩ := y
    exact ps i c _ _ (by rw [← hc]; simp) p) pd⟩
def nOrd : List V → Hp → VK → Prop := fun xs H Q => ∃ x : Str, xs = [.str x] ∧ x.length = 1 ∧ Q (.int (x.cps.getD 0 0 : Nat)) H
theorem k_ord {X : Cx} : CallR X (.builtin "ord") nOrd := call_ord
theorem x_ord {c : Nat} (q : Q (.int (c : Nat)) H) : nOrd [.str ⟨#[c]⟩] H Q := ⟨_, rfl, rfl, q⟩
/-- a list comprehension over a dict's keys -/
theorem x_lcK {g : TG} {t : TT} {te : TE} {vs : List Nat} {σ : L2.St} {a : Nat} {r : Addr} {kvs : List (Key × V)} (ea : σ[a]? = some (some (.ref r))) (hr : H r = some (.dK kvs))
    (q : ∀ od H0, H0 = upd H r (.frz od (.dK kvs)) → ∃ Pv : Addr → Nat → Hp → Prop, (∀ Dl, Fr Dl H0 → Pv Dl 0 (upd H0 Dl (.lst []))) ∧ (∀ Dl i H', Fr Dl H0 → Pv Dl i H' → H' r = some (.frz od (.dK kvs))) ∧
      (∀ Dl, Fr Dl H0 → ∀ i k v H', kvs[i]? = some (k, v) → Pv Dl i H' → g (kV k) (wipe σ vs) H' fun σ2 H2 => wipe σ2 vs = wipe σ vs ∧ t σ2 H2 fun b H3 =>
        if b = true then te σ2 H3 fun y H4 => ∃ acc, H4 Dl = some (.lst acc) ∧ acc.length < sizeLine ∧ Pv Dl (i + 1) (upd H4 Dl (.lst (acc ++ [y]))) else Pv Dl (i + 1) H3) ∧
      ∀ Dl H', Fr Dl H0 → Pv Dl kvs.length H' → Q (.ref Dl) (upd H' r (.dK kvs))) : tLockE (tLc (iKeys (tVar a)) g t te vs) σ H Q := by
  refine ⟨r, _, hr, trivial, fun od => ?_⟩
  obtain ⟨Pv, h0, h1, h2, h3⟩ := q od _ rfl
  refine ⟨.ref r, ea, r, od, rfl, .inl ⟨kvs, upd_same, fun Dl hD => ?_⟩⟩
  refine lc_it (walk_keys (o := od)) (Pv Dl) (h0 Dl ⟨hD⟩) (fun i H' _ p => h1 Dl i H' ⟨hD⟩ p) (fun i x H1 H' _ p y => ?_) fun H' p => ⟨h1 Dl _ H' ⟨hD⟩ p, h3 Dl H' ⟨hD⟩ p⟩
  obtain ⟨rfl, k, v, e, rfl⟩ := y
  exact h2 Dl ⟨hD⟩ i k v _ e p
/-- all signs of a text are so -/
def AllC (p : Nat → Bool) (s : Str) : Bool := s.cps.toList.all p
theorem toList_add (i j : Str) : (i ++ j).cps.toList = i.cps.toList ++ j.cps.toList := by
  show (i.cps ++ j.cps).toList = _
  simp
theorem len_add (i j : Str) : (i ++ j).length = i.length + j.length := by
  show (i.cps ++ j.cps).size = i.cps.size + j.cps.size
  simp
theorem allC_add {p : Nat → Bool} {i j : Str} (h : AllC p i = true) (h' : AllC p j = true) : AllC p (i ++ j) = true := by
  unfold AllC at *
  rw [toList_add, List.all_append, h, h']
  rfl
theorem allC_add_inv {p : Nat → Bool} {i j : Str} (h : AllC p (i ++ j) = true) : AllC p i = true ∧ AllC p j = true := by
  unfold AllC at *
  rw [toList_add, List.all_append, Bool.and_eq_true] at h
  exact h
theorem allC_cut {p : Nat → Bool} {z : Str} {lo hi : Option Int} (h : AllC p z = true) : AllC p (cutS z lo hi) = true := by
  unfold AllC at *
  rw [List.all_eq_true] at h ⊢
  intro c hc
  refine h c ?_
  unfold cutS at hc
  simp only at hc
  exact List.mem_of_mem_drop (List.mem_of_mem_take hc)
theorem len_cut (z : Str) (lo hi : Option Int) : (cutS z lo hi).length ≤ z.length := by
  show (cutS z lo hi).cps.size ≤ z.cps.size
  unfold cutS
  simp only [List.size_toArray, List.length_take, List.length_drop, Array.length_toList]
  have : z.length = z.cps.size := rfl
  omega
theorem allC_at {p : Nat → Bool} {z : Str} {i : Nat} {c : Nat} (h : AllC p z = true) (e : z.cps.toList[i]? = some c) : AllC p ⟨#[c]⟩ = true := by
  unfold AllC at *
  rw [List.all_eq_true] at h
  have := h c (List.mem_of_getElem? e)
  simp [this]
theorem allC_mono {p q : Nat → Bool} {s : Str} (h : AllC p s = true) (f : ∀ c, p c = true → q c = true) : AllC q s = true := by
  unfold AllC at *
  rw [List.all_eq_true] at h ⊢
  exact fun c hc => f c (h c hc)
def okC : Nat → Bool := fun c => decide (c < 0x110000)
theorem lay_str {s : Str} (h : AllC okC s = true) : PyData.canLay0 (.str s) = true := by
  have h2 : s.cps.all (fun c => decide (c < 0x110000)) = true := by
    rw [← Array.all_toList]
    exact h
  simpa only [PyData.canLay0, PyData.strOk] using h2
/-! tuples some times over -/
theorem tup_times1 (l : Addr) (items : Array Value) (n : Nat) (dd : Option Addr) (sl : Array (Option Value)) (u : Tok) :
    Meets (Builtin.«tuple.__mul__» ⟨[.ref l, .int 1 u], []⟩) (fun _ R s => s.heap.get? l = some { cls := .type "tuple", dict := dd, data := .seq items n, slots := sl } ∧ R (.ok (.ret (.ref l))) s) :=
  .of_wp fun prog w A R s h => by
    obtain ⟨hp, g, d, tk, os⟩ := s
    obtain ⟨hl, h⟩ := h
    have f1 := AutoSeq1.idx_int
    wp_walk using wpAny_loadPart' hl
    exact ⟨_, rfl, h⟩
def nRepT (K : PySem.W.Frag) : R2 := fun x y H Q => ∃ (l : Addr) (k : Int) (xs : List V), x = .ref l ∧ y = .int k ∧ SqT K H l xs ∧ xs ≠ [] ∧ xs.length ≤ 1000 ∧ ((k = 1 ∧ Q (.ref l) H) ∨ (2 ≤ k ∧ k ≤ 1000 ∧ ∀ p, H p = none → Q (.ref p) (upd H p (.tup (List.replicate k.toNat xs).flatten))))
theorem op_nRepT : OpR X (binaryOp .Mult) (nRepT X.K) := by
  intro pins s σ H x y v u Q I rx ry h
  obtain ⟨l, k, xs, rfl, rfl, hT, hne, hz, q⟩ := h
  rcases q with ⟨rfl, q⟩ | ⟨h1, h2, q⟩
  · cases rx
    obtain ⟨t, rfl⟩ := ry
    obtain ⟨its, r, ⟨⟨cls, dd, data, sl⟩, ho, hc, n, hd⟩, hs⟩ := I.tuple hT
    simp only at hc hd
    subst hc hd
    exact wpAny_binaryOp_repeat_ref (T := "tuple") (U := "int") (by decide) ⟨_, ho, rfl⟩ (fun s' => typeIs_int s' 1 t) noFill_tuple_mul PySem.F.fills_int_mul PySem.F.slot_int_rmul repeat_tuple PySem.F.slot_int_index.lookup
      (call_meets PySem.F.slot_int_rmul (typeIs_int s 1 t) PySem.F.entry_int_rmul (PySem.F.args_int_rmul_2 _ _) (int_rmul_tuple 1 t l its.toArray n dd sl)
        ⟨ho, rfl, ⟨_, ho, rfl⟩, call_meets PySem.F.slot_tuple_mul ⟨_, ho, rfl⟩ PySem.F.entry_tuple_mul (PySem.F.args_tuple_mul_2 _ _) (tup_times1 l its.toArray n dd sl t) ⟨ho, ⟨.ref l, H, I, rfl, q⟩⟩⟩)
  · exact op_repT pins s σ H _ _ v u Q I rx ry ⟨l, k, xs, rfl, rfl, hT, hne, h1, h2, hz, q⟩
theorem k_repT (e : X.K = K) : OpR X (binaryOp .Mult) (nRepT K) := e ▸ op_nRepT
/-! more of dicts -/
def rGet1 (R : VK) (a : Addr) : VK := fun y H2 => ∃ o, DGet H2 a y o ∧ R (o.getD .non) H2
def rGetD (x : V) (ty : TE) (σ : L2.St) (Q : VK) : Hp → Prop := fun H1 => ∃ a, x = .ref a ∧ IsD H1 a ∧ ty σ H1 (rGet1 Q a)
theorem x_dget1 {td ty : TE} {σ : L2.St} (q : td σ H fun x H1 => rGetD x ty σ Q H1) : tDGet1 td ty σ H Q := q
theorem x_rGetD {ty : TE} {σ : L2.St} {kvs : List (Key × V)} (h : H a = some (.dK kvs)) (q : ty σ H (rGet1 Q a)) : rGetD (.ref a) ty σ Q H := ⟨a, rfl, .inl ⟨kvs, .inl h⟩, q⟩
theorem x_rGet1 {kvs : List (Key × V)} {k : Str} (h : H a = some (.dK kvs)) (q : Q ((valV kvs (Sum.inr k)).getD .non) H) : rGet1 Q a (.str k) H := ⟨_, (DGet.k (k := Sum.inr k) h : DGet H a (kV (Sum.inr k)) (valV kvs (Sum.inr k))), q⟩
def rGet2 (R : VK) (a : Addr) (y z : V) : Hp → Prop := fun H3 => ∃ o, DGet H3 a y o ∧ R (o.getD z) H3
def rGetE (x : V) (ty tx : TE) (σ : L2.St) (Q : VK) : Hp → Prop := fun H1 => ∃ a, x = .ref a ∧ IsD H1 a ∧ ty σ H1 fun y H2 => tx σ H2 fun z H3 => rGet2 Q a y z H3
theorem x_dget2 {td ty tx : TE} {σ : L2.St} (q : td σ H fun x H1 => rGetE x ty tx σ Q H1) : tDGet2 td ty tx σ H Q := q
theorem x_rGetE {ty tx : TE} {σ : L2.St} {kvs : List (Key × V)} (h : H a = some (.dK kvs)) (q : ty σ H fun y H2 => tx σ H2 fun z H3 => rGet2 Q a y z H3) : rGetE (.ref a) ty tx σ Q H := ⟨a, rfl, .inl ⟨kvs, .inl h⟩, q⟩
theorem x_rGet2 {kvs : List (Key × V)} {k : Str} {z : V} (h : H a = some (.dK kvs)) (q : Q ((valV kvs (Sum.inr k)).getD z) H) : rGet2 Q a (.str k) z H := ⟨_, (DGet.k (k := Sum.inr k) h : DGet H a (kV (Sum.inr k)) (valV kvs (Sum.inr k))), q⟩
def rPop1 (R : VK) (a : Addr) : VK := fun y H2 => ∃ (kvs : List (Key × V)) (k : Key) (v : V), H2 a = some (.dK kvs) ∧ y = kV k ∧ valV kvs k = some v ∧ R v (upd H2 a (.dK (dropK kvs k)))
def rPopD (x : V) (ty : TE) (σ : L2.St) (Q : VK) : Hp → Prop := fun H1 => ∃ a, x = .ref a ∧ IsD H1 a ∧ ty σ H1 (rPop1 Q a)
theorem x_dpop1 {td ty : TE} {σ : L2.St} (q : td σ H fun x H1 => rPopD x ty σ Q H1) : tDPop1 td ty σ H Q := q
theorem x_rPopD {ty : TE} {σ : L2.St} {kvs : List (Key × V)} (h : H a = some (.dK kvs)) (q : ty σ H (rPop1 Q a)) : rPopD (.ref a) ty σ Q H := ⟨a, rfl, .inl ⟨kvs, .inl h⟩, q⟩
theorem x_rPop1 {kvs : List (Key × V)} {k : Str} {v : V} (h : H a = some (.dK kvs)) (e : valV kvs (Sum.inr k) = some v) (q : Q v (upd H a (.dK (dropK kvs (Sum.inr k))))) : rPop1 Q a (.str k) H := ⟨kvs, Sum.inr k, v, h, rfl, e, q⟩
def rPop2 (R : VK) (a : Addr) (y z : V) : Hp → Prop := fun H3 => ∃ (kvs : List (Key × V)) (k : Key), H3 a = some (.dK kvs) ∧ y = kV k ∧ (∀ v, valV kvs k = some v → R v (upd H3 a (.dK (dropK kvs k)))) ∧ (valV kvs k = none → R z H3)
def rPopE (x : V) (ty tx : TE) (σ : L2.St) (Q : VK) : Hp → Prop := fun H1 => ∃ a, x = .ref a ∧ IsD H1 a ∧ ty σ H1 fun y H2 => tx σ H2 fun z H3 => rPop2 Q a y z H3
theorem x_dpop2 {td ty tx : TE} {σ : L2.St} (q : td σ H fun x H1 => rPopE x ty tx σ Q H1) : tDPop2 td ty tx σ H Q := q
theorem x_rPopE {ty tx : TE} {σ : L2.St} {kvs : List (Key × V)} (h : H a = some (.dK kvs)) (q : ty σ H fun y H2 => tx σ H2 fun z H3 => rPop2 Q a y z H3) : rPopE (.ref a) ty tx σ Q H := ⟨a, rfl, .inl ⟨kvs, .inl h⟩, q⟩
theorem x_rPop2 {kvs : List (Key × V)} {k : Str} {z : V} (h : H a = some (.dK kvs)) (q1 : ∀ v, valV kvs (Sum.inr k) = some v → Q v (upd H a (.dK (dropK kvs (Sum.inr k))))) (q2 : valV kvs (Sum.inr k) = none → Q z H) : rPop2 Q a (.str k) z H := ⟨kvs, Sum.inr k, h, rfl, q1, q2⟩
def rDInK (y : V) (Q : VK) : VK := fun x H2 => ∃ a o, x = .ref a ∧ DGet H2 a y o ∧ Q (.bl o.isSome) H2
theorem x_din {ty td : TE} {σ : L2.St} (q : ty σ H fun y H1 => td σ H1 (rDInK y Q)) : tDIn ty td σ H Q := q
theorem x_rDInK {kvs : List (Key × V)} {k : Str} (h : H a = some (.dK kvs)) (q : Q (.bl (valV kvs (Sum.inr k)).isSome) H) : rDInK (.str k) Q (.ref a) H := ⟨a, _, rfl, (DGet.k (k := Sum.inr k) h : DGet H a (kV (Sum.inr k)) (valV kvs (Sum.inr k))), q⟩
theorem x_dnew {σ : L2.St} (k : ∀ p H2, Fr p H → Same H H2 → H2 p = some (.dK []) → Q (.ref p) H2) : tDNewK σ H Q := fun p hp => k p _ ⟨hp⟩ (same_new hp) upd_same
theorem x_notBl {b c : Bool} (q : Q (.bl (!decide (b = c))) H) : rNotB (.bl b) (.bl c) H Q := ⟨b, c, rfl, rfl, q⟩
theorem x_isBl {b c : Bool} (q : Q (.bl (decide (b = c))) H) : rIsB (.bl b) (.bl c) H Q := ⟨b, c, rfl, rfl, q⟩
theorem cut_whole {xs : List V} {lo hi : Option Int} (h : HT.sIx xs.length 0 lo = 0 ∧ HT.sIx xs.length xs.length hi = xs.length) : cutV xs lo hi = xs := by
  unfold cutV
  rw [h.1, h.2]
  simp
theorem x_slA {xs : List V} {lo hi : Option Int} (h : H a = some (.tup xs)) (k : ∀ p H', Same H H' → H' p = some (.tup (cutV xs lo hi)) → Q (.ref p) H') : rSlA K (.ref a) lo hi H Q :=
  ⟨a, xs, rfl, st_of h, fun e => k a H (Same.refl _) (by rw [cut_whole e]; exact h), fun _ p hp => k p _ (same_new hp) upd_same⟩
theorem x_catB {xs ys : List V} (h : H a = some (.tup xs)) (h' : H b = some (.tup ys)) (hz : xs.length + ys.length ≤ 100000) (k : ∀ p H', Same H H' → H' p = some (.tup (xs ++ ys)) → Q (.ref p) H') : rCatA K (.ref a) (.ref b) H Q :=
  ⟨a, b, xs, ys, rfl, rfl, st_of h, st_of h', size_ok hz, fun e => k b H (Same.refl _) (by rw [e]; exact h'), fun _ e => k a H (Same.refl _) (by rw [e, List.append_nil]; exact h), fun _ _ p hp => k p _ (same_new hp) upd_same⟩
theorem x_repB {xs : List V} {n : Int} (h : H a = some (.tup xs)) (hne : xs ≠ []) (hz : xs.length ≤ 1000) (hn : 1 ≤ n ∧ n ≤ 1000) (k : ∀ p H', Same H H' → H' p = some (.tup (List.replicate n.toNat xs).flatten) → Q (.ref p) H') : nRepT K (.ref a) (.int n) H Q := by
  refine ⟨a, n, xs, rfl, rfl, st_of h, hne, hz, ?_⟩
  by_cases e : n = 1
  · subst e
    refine .inl ⟨rfl, k a H (Same.refl _) ?_⟩
    rw [h]
    simp
  · exact .inr ⟨by omega, hn.2, fun p hp => k p _ (same_new hp) upd_same⟩
theorem repS_len {z : Str} {n : Int} (h : 2 ≤ n) (hz : 1 ≤ z.length) : (repS z n).length = n.toNat * z.length := by
  unfold repS
  rw [if_neg (by omega), if_neg]
  · show ((List.replicate n.toNat z.cps).foldl (· ++ ·) #[]).size = _
    rw [PySem.size_reps]
    show 0 + n.toNat * z.cps.size = n.toNat * z.length
    rw [Nat.zero_add]
    rfl
  · rw [Bool.or_eq_true, beq_iff_eq, beq_iff_eq]
    omega
end
/-- a def with defaults that lets nothing out -/
theorem okD {P : Program} {w : World} {K : PySem.W.Frag} {mg : Str → Option Value} {base : Heap} {x qual : Str} {pr : Arguments} {body : List Stmt} {sc : Scope} {dvs : List V} {kws : List (Str × V)} {f : Addr} {fd : FuncData} {N ps : List Str} {k : Nat} {sp : Sp}
    (F : FunD K x qual pr body sc dvs kws f fd) (S : FnScope N ps sc) (len : ∀ vs H Q E, sp vs H Q E → vs.length = ps.length)
    (hb : ∀ (cdv : Value) (A : Around) (outer : List Env) (s : Shared) (H : Hp) (vs : List V) (Q : VK) (E : XK), Room k (A.deeper (envOfC qual sc s.heap.objs.size f cdv)) → sp vs H Q E →
      ∃ t, PSs (cxOf CX0 P w K mg base N qual sc f cdv A outer s H E).nox body t ∧ t { nx := fun _ H' => Q .non H', rt := Q } (start N vs) H) : FnOk P w K mg base CX0 (k + 1) f fd ps sp :=
  F.ok S len fun cdv A outer s H vs Q E hr h => by
    obtain ⟨t, h1, q⟩ := hb cdv A outer s H vs Q E hr h
    exact ⟨t, h1.nox, q⟩
theorem funD_mk {K : PySem.W.Frag} {x qual : Str} {st : Stmt} {f dT : Addr} {oc : Value} {od an : Option Addr} {osl : Array (Option Value)} {kV doc pm cdv ct : Value} {dvs : List V} {o : Obj} {its : List Value} {n : Nat}
    (l : K.lookup f = some ⟨oc, od, .func (PySem.W.fnOf x qual (defArgs st) (defBody st) (defScope st) (.ref dT) kV doc pm an cdv ct), osl⟩) (c : PySem.W.codeIn K cdv qual = true) (k : PySem.W.keepIn K (.ref f) = true)
    (hd : dvs ≠ []) (lT : K.lookup dT = some o) (oT : o.data = .seq its.toArray n) (r : Vals dvs its) :
    FunD K x qual (defArgs st) (defBody st) (defScope st) dvs [] f (PySem.W.fnOf x qual (defArgs st) (defBody st) (defScope st) (.ref dT) kV doc pm an cdv ct) :=
  ⟨⟨oc, od, .ref dT, kV, doc, pm, an, cdv, ct, osl, rfl, l, c, .inr ⟨hd, dT, o, its, n, rfl, lT, oT, r⟩, .inl rfl⟩, k⟩
/-- dict(d) -/
def rDictD (xs : List V) (H : Hp) (Q : VK) : Prop := ∃ (a : Addr) (kvs : List (Key × V)), xs = [.ref a] ∧ Rd H a (.dK kvs) ∧ ∀ p, H p = none → Q (.ref p) (upd H p (.dK kvs))
theorem k_dictD {X : Cx} : CallR X (.type "dict") rDictD := call_dictD
theorem x_rDictD {a : Addr} {H : Hp} {Q : VK} {kvs : List (Key × V)} (h : H a = some (.dK kvs)) (k : ∀ p H2, Fr p H → Same H H2 → H2 p = some (.dK kvs) → Q (.ref p) H2) : rDictD [.ref a] H Q := ⟨a, kvs, rfl, .inl h, x_new1 k⟩
end Xk
/-! zip of a tuple and a list -/
namespace Xk
open PySem PySem.Spec PyProof.Rows L2
/-- a tuple at p and a list at q, side by side -/
def ItTL (K : PySem.W.Frag) (p q : Addr) : It where
  go := fun n H => ∃ (us vs : List V) (u v : V), SqT K H p us ∧ SqL K H q vs ∧ us[n]? = some u ∧ vs[n]? = some v
  yld := fun n H r H' => ∃ T u v, r = .ref T ∧ H T = none ∧ H' = upd H T (.tup [u, v]) ∧ (∀ us, SqT K H p us → us[n]? = some u) ∧ ∀ vs, SqL K H q vs → vs[n]? = some v
  stop := fun n H => ∃ us vs : List V, SqT K H p us ∧ SqL K H q vs ∧ n ≤ us.length ∧ n ≤ vs.length ∧ (n = us.length ∨ n = vs.length)
/-- what stands behind such an iterator -/
def AtTL (z t o i j p q : Addr) (n : Nat) (h : Heap) : Prop :=
  IsZip h z t o .none ∧ IsPair h t (.ref i) (.ref j) ∧ (∃ u v, IsPair h o u v) ∧ h.IsTupleIter i p n ∧ h.IsListIter j q n
theorem sepTL {z t o i j p q : Addr} (D : ZipApart z t o i j p q) : ZipSep2 z t o i j [i, p] [j, q] where
  TIz := D.TIz
  TOz := D.TOz
  TITO := D.TITO
  TIi1 := D.TIi1
  mem1 := List.mem_cons_self
  zf1 := by simp [D.i1z.symm, D.l1z.symm]
  Tf1 := by simp [D.TOi1, D.l1TO.symm]
  TIi2 := D.TIi2
  mem2 := List.mem_cons_self
  zf2 := by simp [D.i2z.symm, D.l2z.symm]
  Tf2 := by simp [D.TOi2, D.l2TO.symm]
  sep1_2 := by simp [D.i12, D.l2i1.symm]
  sep2_1 := by simp [D.i12.symm, D.l1i2.symm]
theorem five {c z t o i j : Addr} {P : Addr → Prop} (h : c ∈ [z, t, o, i, j]) (h1 : P z) (h2 : P t) (h3 : P o) (h4 : P i) (h5 : P j) : P c := by
  simp only [List.mem_cons, List.not_mem_nil, or_false] at h
  rcases h with rfl | rfl | rfl | rfl | rfl <;> assumption
theorem turnTL {P : Program} {w : World} {K : PySem.W.Frag} {es : List Expr} {k : Nat} {pos : Pos} {z t o i j p q : Addr} (D : ZipApart z t o i j p q) :
    Turn P w K (.Tuple es k pos) (ItTL K p q) [z, t, o, i, j] z (AtTL z t o i j p q) where
  mem := List.mem_cons_self
  obj := fun n h st c hc => by
    obtain ⟨g1, g2, ⟨u, v, g3⟩, ⟨o1, e1, _, d1⟩, ⟨o2, e2, _, d2⟩⟩ := st
    refine five (P := fun c => ∃ ob, h.get? c = some ob ∧ ∀ v, ob.data ≠ .cell v) hc ⟨_, g1, fun _ e => nomatch e⟩ ⟨_, g2, fun _ e => nomatch e⟩ ⟨_, g3, fun _ e => nomatch e⟩ ⟨o1, e1, fun x e => ?_⟩ ⟨o2, e2, fun x e => ?_⟩
    · rw [d1] at e
      cases e
    · rw [d2] at e
      cases e
  keep := fun n h h' st g => by
    obtain ⟨g1, g2, ⟨u, v, g3⟩, g4, g5⟩ := st
    exact ⟨g z (by simp) _ g1, g t (by simp) _ g2, ⟨u, v, g o (by simp) _ g3⟩, g4.at fun ob e => g i (by simp) ob e, g5.at fun ob e => g j (by simp) ob e⟩
  item := by
    intro X hP hw hK hc n pins s σ H E I hf st hg
    subst hP hw hK
    obtain ⟨g1, g2, ⟨u0, v0, g3⟩, g4, g5⟩ := st
    obtain ⟨us, vs, u, v, hus, hvs, hu, hv⟩ := hg
    obtain ⟨its, r1, p1, _⟩ := I.tuple hus
    obtain ⟨its2, r2, p2, _⟩ := I.list hvs
    obtain ⟨x, hx, rx⟩ := r1.get hu
    obtain ⟨y, hy, ry⟩ := r2.get hv
    have lt1 : n < its.toArray.size := by
      obtain ⟨b, _⟩ := List.getElem?_eq_some_iff.mp hx
      simpa using b
    have lt2 : n < its2.toArray.size := by
      obtain ⟨b, _⟩ := List.getElem?_eq_some_iff.mp hy
      simpa using b
    have hzl : z < s.heap.objs.size := Heap.lt_size g1
    have hh : X.A.in1.handled = none := I.ok.hd hc
    refine wpAny_pyNext_zipD2_item (sepTL D) (Draws.tuple hh i p D.l1i1 its.toArray) (Draws.list hh j q D.l2i2 its2.toArray) g1 g2 g3 ⟨g4, p1⟩ ⟨g5, p2.isList⟩ lt1 lt2 fun x1 y1 h' tk q1 q2 z' o' st1 st2 hT hsz hk => ?_
    have ex : x1 = x := by
      have e2 : its[n]? = some x1 := by simpa using q1
      exact Option.some.inj (e2.symm.trans hx)
    have ey : y1 = y := by
      have e2 : its2[n]? = some y1 := by simpa using q2
      exact Option.some.inj (e2.symm.trans hy)
    subst ex ey
    refine ⟨_, rfl, wpAny_letOwnedTupleGo_zip (s := { s with heap := h', toks := tk }) z' fun h2 z2 sb => ?_⟩
    have hT2 : h2.get? s.heap.objs.size = some { cls := .type "tuple", data := .seq #[x1, y1] } := (sb.2 _ (Nat.ne_of_gt hzl)).trans hT
    have new : ObjOk X.prog X.w (upd H s.heap.objs.size (.tup [u, v])) h2 s.heap.objs.size (.tup [u, v]) :=
      ⟨by show 2 ≤ sizeLine; decide, [x1, y1], .cons rx (.cons ry .nil), ⟨_, hT2, rfl, _, rfl⟩⟩
    have kept : ∀ c ob, c ∉ [z, t, o, i, j] → s.heap.get? c = some ob → h2.get? c = some ob := fun c ob nc e => by
      simp only [List.mem_cons, List.not_mem_nil, or_false, not_or] at nc
      exact (sb.2 c nc.1).trans (hk c ob nc.1 nc.2.2.1 nc.2.2.2.1 nc.2.2.2.2 e)
    have I1 : Inv X pins σ (upd H s.heap.objs.size (.tup [u, v])) { s with heap := h2, toks := tk } :=
      I.turnedNew (t' := tk) (ch := [z, t, o, i, j]) kept hf (Nat.le_refl _) new
    refine ⟨.ref s.heap.objs.size, _, I1, rfl, ⟨_, u, v, rfl, I.hok.fresh (Nat.le_refl _), rfl, fun l hl => ?_, fun l hl => ?_⟩, ⟨z2, ?_, ⟨x1, y1, ?_⟩, ?_, ?_⟩, fun c hcm => ?_⟩
    · rw [I.tuple_inj hl hus]
      exact hu
    · rw [I.list_inj hl hvs]
      exact hv
    · exact (sb.2 _ D.TIz).trans (hk t _ D.TIz D.TITO D.TIi1 D.TIi2 g2)
    · exact (sb.2 _ D.TOz).trans o'
    · exact st1.1.at fun ob e => (sb.2 _ D.i1z).trans e
    · exact st2.1.at fun ob e => (sb.2 _ D.i2z).trans e
    · have lt : c < s.heap.objs.size := by
        refine five (P := fun c => c < s.heap.objs.size) hcm hzl (Heap.lt_size g2) (Heap.lt_size g3) ?_ ?_
        · obtain ⟨_, e1, _⟩ := g4
          exact Heap.lt_size e1
        · obtain ⟨_, e1, _⟩ := g5
          exact Heap.lt_size e1
      rw [upd_ne (Nat.ne_of_lt lt)]
      exact (hf c hcm).1
  done := by
    intro X hP hw hK hc n pins s σ H E I hf st hg
    subst hP hw hK
    obtain ⟨g1, g2, ⟨u0, v0, g3⟩, g4, g5⟩ := st
    obtain ⟨us, vs, hus, hvs, le1, le2, hend⟩ := hg
    obtain ⟨its, r1, p1, _⟩ := I.tuple hus
    obtain ⟨its2, r2, p2, _⟩ := I.list hvs
    have l1 : its.toArray.size = us.length := by rw [List.size_toArray, r1.length]
    have l2 : its2.toArray.size = vs.length := by rw [List.size_toArray, r2.length]
    have hh : X.A.in1.handled = none := I.ok.hd hc
    exact wpAny_pyNext_zipD2_end (sepTL D) (Draws.tuple hh i p D.l1i1 its.toArray) (Draws.list hh j q D.l2i2 its2.toArray) g1 g2 g3 ⟨g4, p1⟩ ⟨g5, p2.isList⟩ (by omega) (by omega) (by omega) fun h' tk hk =>
      ⟨rfl, I.turnedL (t' := tk) (ch := [z, t, o, i, j]) (fun c ob nc e => by
        simp only [List.mem_cons, List.not_mem_nil, or_false, not_or] at nc
        exact hk c ob nc.1 nc.2.2.1 nc.2.2.2.1 nc.2.2.2.2 e) hf⟩
  self := fun A n s Q E st h => wpAny_pyIter_zip st.1 h
/-- zip(e, e2), e a tuple and e2 a list -/
def iTL (K : PySem.W.Frag) (ta : TA) : TI := fun σ H R => ta σ H fun vs H1 => ∃ p q us ws, vs = [.ref p, .ref q] ∧ SqT K H1 p us ∧ SqL K H1 q ws ∧ R (ItTL K p q) H1
theorem pi_TL {X : Cx} {e e2 : Expr} {ta : TA} {p1 pos tpos : Pos} {es : List Expr} {k : Nat} (hg : Gl X "zip") (hm : X.mg "zip" = none) (ha : PA X [e, e2] ta)
    (hs : starEach [e, e2] X.env = (false, eval e X.env) :: starEach [e2] X.env := by rfl) (hpl : (backTo pos (starEach [e2] X.env)).any (·.1) = false := by rfl) :
    PI X (.Tuple es k tpos) (.Call (.Name "zip" p1) [e, e2] [] pos) (iTL X.K ta) := by
  refine ⟨fun pins s σ H R I h => Call_ (ld_blt I hg hm PyProof.Rows.boot_zip (PyProof.Rows.callWith_type1 (thn (ha.run pos pins s σ H _ I h) fun us s1 ⟨vs, H1, I1, r1, q1⟩ => ?_) hs hpl))⟩
  obtain ⟨p, q, xs, ys, rfl, hx, hy, g⟩ := q1
  have e3 : us = [.ref p, .ref q] := by
    cases r1 with
    | cons a b =>
      cases b with
      | cons c d =>
        cases d
        cases a
        cases c
        rfl
  subst e3
  obtain ⟨its, rx, px, _⟩ := I1.tuple hx
  obtain ⟨its2, ry, py, _⟩ := I1.list hy
  have lp : p < s1.heap.objs.size := by
    obtain ⟨_, e1, _⟩ := id px
    exact Heap.lt_size e1
  refine zip_begins2 (begins_tuple p its.toArray) (begins_list q its2.toArray) px py.isList fun h' hz hTI hTO h1 h2 hsz hk => wpAny_pyIter_zip hz ?_
  have I2 : Inv X pins σ H1 { s1 with heap := h' } := I1.kept (t' := s1.toks) hk
  refine ⟨s1.heap.objs.size + 4, [s1.heap.objs.size + 4, s1.heap.objs.size + 2, s1.heap.objs.size + 3, s1.heap.objs.size, s1.heap.objs.size + 1], _, _, H1, rfl, I2,
    turnTL (PySem.W.ktu_apart s1.heap.objs.size p q lp py.lt), ⟨hz, hTI, ⟨_, _, hTO⟩, ⟨_, h1, rfl, rfl⟩, ⟨_, h2, rfl, rfl⟩⟩, fun c hcm => ?_, g⟩
  have le : s1.heap.objs.size ≤ c := five (P := fun c => s1.heap.objs.size ≤ c) hcm (Nat.le_add_right _ _) (Nat.le_add_right _ _) (Nat.le_add_right _ _) (Nat.le_refl _) (Nat.le_add_right _ _)
  exact I1.fpOk le (I1.hok.fresh le)
/-- a comprehension over it -/
theorem walkTL {K : PySem.W.Frag} {p q : Addr} {us vs : List V} (e : us.length = vs.length) : Walk (ItTL K p q) us.length (fun H => SqT K H p us ∧ SqL K H q vs) (YPair (fun n => us[n]?) (fun n => vs[n]?)) := by
  refine ⟨fun n _ hn g => ?_, fun _ g => ⟨us, vs, g.1, g.2, Nat.le_refl _, by omega, .inl rfl⟩, fun n H v H' _ g y => ?_⟩
  · have h2 : n < vs.length := by omega
    exact ⟨us, vs, us[n], vs[n], g.1, g.2, List.getElem?_eq_getElem hn, List.getElem?_eq_getElem h2⟩
  · obtain ⟨T, x, z, h1, h2, h3, h4, h5⟩ := y
    exact ⟨T, x, z, h1, h2, h3, h4 us g.1, h5 vs g.2⟩
end Xk
section
open PySem PySem.Spec PyProof.Rows L2
namespace Xk
variable {K : PySem.W.Frag} {σ : L2.St} {H : Hp} {Q : VK} {te : TE} {g : TG} {t : TT} {X : Cx}
theorem k_TL {e e2 : Expr} {ta : TA} {p1 pos tpos : Pos} {es : List Expr} {k : Nat} (hk : X.K = K) (hg : Gl X "zip") (hm : X.mg "zip" = none) (ha : PA X [e, e2] ta)
    (hs : starEach [e, e2] X.env = (false, eval e X.env) :: starEach [e2] X.env := by rfl) (hpl : (backTo pos (starEach [e2] X.env)).any (·.1) = false := by rfl) :
    PI X (.Tuple es k tpos) (.Call (.Name "zip" p1) [e, e2] [] pos) (iTL K ta) := hk ▸ pi_TL hg hm ha hs hpl
def rLcZ (K : PySem.W.Frag) (g : TG) (tt : TT) (te : TE) (vs : List Nat) (σ : L2.St) (Q : VK) : List V → Hp → Prop := fun zs H1 => ∃ p q us ws, zs = [.ref p, .ref q] ∧ SqT K H1 p us ∧ SqL K H1 q ws ∧ RLc (ItTL K p q) g tt te vs σ Q H1
theorem x_lcZ1 {tr : TA} {vs : List Nat} (q : tr σ H (rLcZ K g t te vs σ Q)) : tLc (iTL K tr) g t te vs σ H Q := q
theorem x_lcZ {a b : Addr} {us ws : List V} {vs : List Nat} (Pv : Addr → Nat → Hp → Prop) (e : us.length = ws.length) (hx : SqT K H a us) (hy : SqL K H b ws) (h0 : ∀ Dl, Fr Dl H → Pv Dl 0 (upd H Dl (.lst [])))
    (hl : ∀ Dl i H', Fr Dl H → Pv Dl i H' → SqT K H' a us ∧ SqL K H' b ws)
    (hs : ∀ Dl, Fr Dl H → ∀ i x y H1 T H', us[i]? = some x → ws[i]? = some y → Pv Dl i H1 → Fr T H1 → Same H1 H' → H' T = some (.tup [x, y]) → g (.ref T) (wipe σ vs) H' fun σ2 H2 => wipe σ2 vs = wipe σ vs ∧ t σ2 H2 fun c H3 =>
      if c = true then te σ2 H3 fun y H4 => ∃ acc, H4 Dl = some (.lst acc) ∧ acc.length < sizeLine ∧ Pv Dl (i + 1) (upd H4 Dl (.lst (acc ++ [y]))) else Pv Dl (i + 1) H3)
    (hd : ∀ Dl H', Fr Dl H → Pv Dl us.length H' → Q (.ref Dl) H') : rLcZ K g t te vs σ Q [.ref a, .ref b] H := ⟨a, b, us, ws, rfl, hx, hy, fun Dl hD =>
  lc_it (walkTL e) (Pv Dl) (h0 Dl ⟨hD⟩) (fun i H' _ p => hl Dl i H' ⟨hD⟩ p) (fun i x H1 H' hi p y => by
    obtain ⟨T, u, v, rfl, hT, rfl, e1, e2⟩ := y
    exact hs Dl ⟨hD⟩ i u v H1 T _ e1 e2 p ⟨hT⟩ (same_new hT) upd_same) (fun H' p => hd Dl H' ⟨hD⟩ p)⟩
/-- texts in order -/
def nLtS : R2 := fun x y H Q => ∃ i j, x = .str i ∧ y = .str j ∧ Q (.bl (decide (i.cps.toList < j.cps.toList))) H
def nLeS : R2 := fun x y H Q => ∃ i j, x = .str i ∧ y = .str j ∧ Q (.bl (!decide (j.cps.toList < i.cps.toList))) H
theorem op_nLtS : OpR X (compareOp .Lt) nLtS := op_lt_str
theorem op_nLeS : OpR X (compareOp .LtE) nLeS := op_le_str
def rPar (i j : Nat) (σ : L2.St) (R : L2.St → Hp → Prop) : List V → Hp → Prop := fun vs H1 => ∃ v w, vs = [v, w] ∧ R ((σ.set i (some v)).set j (some w)) H1
theorem x_spar {i j : Nat} {ta : TA} {tz : TS} {D : Ends} (q : ta σ H (rPar i j σ (tz D))) : tSeq (tPar i j ta) tz D σ H := q
theorem x_par {i j : Nat} {ta : TA} {D : Ends} (q : ta σ H (rPar i j σ D.nx)) : tPar i j ta D σ H := q
theorem x_rPar {i j : Nat} {R : L2.St → Hp → Prop} {v u : V} (q : R ((σ.set i (some v)).set j (some u)) H) : rPar i j σ R [v, u] H := ⟨v, u, rfl, q⟩
def nGeS : R2 := fun x y H Q => ∃ i j, x = .str i ∧ y = .str j ∧ Q (.bl (!decide (i.cps.toList < j.cps.toList))) H
theorem op_nGeS : OpR X (compareOp .GtE) nGeS := op_ge_str
theorem x_nGeS {i j : Str} (q : Q (.bl (!decide (i.cps.toList < j.cps.toList))) H) : nGeS (.str i) (.str j) H Q := ⟨i, j, rfl, rfl, q⟩
theorem x_nLtS {i j : Str} (q : Q (.bl (decide (i.cps.toList < j.cps.toList))) H) : nLtS (.str i) (.str j) H Q := ⟨i, j, rfl, rfl, q⟩
theorem x_nLeS {i j : Str} (q : Q (.bl (!decide (j.cps.toList < i.cps.toList))) H) : nLeS (.str i) (.str j) H Q := ⟨i, j, rfl, rfl, q⟩
theorem x_ext {l b : Addr} {xs zs : List V} (h : H l = some (.lst xs)) (h' : H b = some (.lst zs)) (hz : xs.length + zs.length ≤ 100000) (q : Q .non (upd H l (.lst (xs ++ zs)))) : rExtend (.ref l) [.ref b] H Q := ⟨l, b, xs, zs, rfl, rfl, h, h', size_ok hz, q⟩
theorem x_sortS {a : Addr} {xs : List Str} (h : SqL K H a (xs.map V.str)) (hl : xs.length < 64) (k : ∀ p H2 (ys : List Str), ys.Perm xs → sortedS ys = true → Fr p H → Same H H2 → H2 p = some (.lst (ys.map V.str)) → Q (.ref p) H2) : rSortedS K [.ref a] H Q :=
  ⟨a, xs, rfl, h, hl, fun ys p h1 h2 hp => k p _ ys h1 h2 ⟨hp⟩ (same_new hp) upd_same⟩
end Xk
end
namespace Xk
open PySem PySem.Spec PyProof.Rows L2
theorem k_fld {X : Cx} {K : PySem.W.Frag} {e : Expr} {f : Str} {pos : Pos} {ta : TE} (hk : X.K = K) (he : PE X e ta) (hb : attributeBase e f X.env (eval e X.env) = eval e X.env) : PE X (.Attribute e f pos) (tFld K ta f) := hk ▸ pe_fld he hb
end Xk
namespace Xk
open PySem PySem.Spec PyProof.Rows L2
def rSubSl (x v : V) (l u : Option Int) (σ : L2.St) (R : L2.St → Hp → Prop) : Hp → Prop := fun H3 => ∃ (a b : Addr) (xs ys : List V) (i j : Int), x = .ref a ∧ v = .ref b ∧ l = some i ∧ u = some j ∧
  H3 a = some (.lst xs) ∧ H3 b = some (.lst ys) ∧ a ≠ b ∧ 0 ≤ i ∧ i ≤ j ∧ j ≤ xs.length ∧ xs.length + ys.length ≤ sizeLine ∧ R σ (upd H3 a (.lst (xs.take i.toNat ++ ys ++ xs.drop j.toNat)))
theorem x_gSubSl {to : TE} {tl th : TO} {v : V} {σ : L2.St} {H : Hp} {R : L2.St → Hp → Prop} (q : to σ H fun x H1 => tl σ H1 fun l H2 => th σ H2 fun u H3 => rSubSl x v l u σ R H3) : gSubSl to tl th v σ H R := q
theorem x_rSubSl {a b : Addr} {xs ys : List V} {i j : Int} {n m : Nat} {σ : L2.St} {H : Hp} {R : L2.St → Hp → Prop} (h : H a = some (.lst xs)) (h' : H b = some (.lst ys)) (ne : a ≠ b) (hi : i = (n : Int)) (hj : j = (m : Int)) (nm : n ≤ m) (hm : m ≤ xs.length) (hz : xs.length + ys.length ≤ 100000)
    (q : R σ (upd H a (.lst (xs.take n ++ ys ++ xs.drop m)))) : rSubSl (.ref a) (.ref b) (some i) (some j) σ R H := by
  refine ⟨a, b, xs, ys, i, j, rfl, rfl, rfl, rfl, h, h', ne, by omega, by omega, by omega, size_ok hz, ?_⟩
  rw [hi, hj, Int.toNat_natCast, Int.toNat_natCast]
  exact q
end Xk
/-! enumerate of a tuple -/
namespace Xk
open PySem PySem.Spec PyProof.Rows L2
theorem wp_ite {M : Model} {A : Around} {E : Value → Shared → Prop} {s : Shared} {α : Type} {c : Prop} [Decidable c] {a b : Sem α} {Q : α → Shared → Prop} (h1 : wpAny M A a Q E s) (h2 : wpAny M A b Q E s) : wpAny M A (if c then a else b) Q E s := by
  by_cases h : c
  · exact wpAny_ite_true (decide_eq_true h) h1
  · exact wpAny_ite_false (decide_eq_false h) h2
theorem enumT0 {prog : Program} {w : World} {A : Around} {E : Value → Shared → Prop} {R : Fin → Shared → Prop} {s : Shared} {v : Value} {o : Obj} {H : Heap → Prop} (b : Begins v o H) (h1 : H s.heap)
  (h2 : R (Fin.done (Flow.ret (Value.ref (s.heap.push o).objs.size)))
        { heap := (s.heap.push o).push { cls := Value.type "enumerate", data := Data.fields #[Value.none, Value.bool false, Value.ref s.heap.objs.size, rawInt 0, Value.none, Value.none] },
          gens := s.gens, drawn := s.drawn, toks := s.toks, os := s.os }) :
  wpAny (model prog w) A (do
      let it ← pyIter v
      let r ← Builtin.SmallTypes.newRecord (Value.type "enumerate") (Builtin.SmallTypes.ownedTupleFields ++ [it, rawInt 0, Value.none, Value.none])
      ret r) R E s := by
  refine wpAny_bind (b.iter prog w A _ s _ h1 ?_)
  refine wpAny_bind ?_
  refine wpAny_bind (wpAny_alloc' ?_)
  refine wpAny_pure ?_
  exact wpAny_pure h2
theorem enumT1 {v : Value} {o : Obj} {H : Heap → Prop} (b : Begins v o H) : Meets (Builtin.«enumerate.__new__» { pos := [.type "enumerate", v] }) fun A R s => H s.heap ∧
   R (Except.ok (Flow.ret (Value.ref (s.heap.push o).objs.size)))
        { heap := (s.heap.push o).push { cls := Value.type "enumerate", data := Data.fields #[Value.none, Value.bool false, Value.ref s.heap.objs.size, rawInt 0, Value.none, Value.none] },
          gens := s.gens, drawn := s.drawn, toks := s.toks, os := s.os } := by
  intro prog w A R s hs
  obtain ⟨h1, h2⟩ := hs
  refine wpAny_bind ?_
  refine wpAny_bind ?_
  refine wpAny_of_eq (a := true) rfl ?_
  refine wpAny_ite_false rfl ?_
  refine wpAny_bind ?_
  refine wpAny_of_eq sub_enumerate ?_
  refine wpAny_ite_false rfl ?_
  refine wpAny_pure ?_
  refine wpAny_ite_true (by decide) ?_
  refine wpAny_bind ?_
  refine wpAny_bind (wpAny_stack_any fun st => wpAny_pure ?_)
  refine wp_ite ?_ ?_
  · refine wpAny_bind ?_
    refine wpAny_of_eq (a := (v, none)) rfl ?_
    exact enumT0 b h1 h2
  · refine wpAny_bind ?_
    refine wpAny_of_eq (a := (v, none)) rfl ?_
    exact enumT0 b h1 h2
theorem enum_one {prog : Program} {w : World} {A : Around} {E : Value → Shared → Prop} {s : Shared} {v : Value} {o : Obj} {H : Heap → Prop} {Q : Value → Shared → Prop} (b : Begins v o H) (h1 : H s.heap)
  (q : ∀ h' : Heap, IsEnum h' (s.heap.objs.size + 1) s.heap.objs.size 0 Value.none → h'.get? s.heap.objs.size = some o → h'.objs.size = s.heap.objs.size + 2 → (∀ (b : Addr) (o : Obj), s.heap.get? b = some o → h'.get? b = some o) →
     Q (Value.ref (s.heap.objs.size + 1)) { heap := h', gens := s.gens, drawn := s.drawn, toks := s.toks, os := s.os }) :
  wpAny (model prog w) A (call (Value.type "enumerate") [v]) Q E s := by
  refine callType_new F.called_enumerate (by decide) (F.typeCall_enumerate_1 v) (F.newCall_enumerate_1 v) (fun obj => F.args_object_init_2 obj v) F.entry_enumerate_new (enumT1 b) ⟨h1, ?_⟩
  have e1 : (s.heap.push o).objs.size = s.heap.objs.size + 1 := by rw [Heap.size_push]
  have g : ((s.heap.push o).push { cls := Value.type "enumerate", data := Data.fields #[Value.none, Value.bool false, Value.ref s.heap.objs.size, rawInt 0, Value.none, Value.none] }).get? (s.heap.push o).objs.size = some { cls := Value.type "enumerate", data := Data.fields #[Value.none, Value.bool false, Value.ref s.heap.objs.size, rawInt 0, Value.none, Value.none] } := Heap.get?_push_size _ rfl
  refine ⟨?_, ?_⟩
  · rw [e1] at g ⊢
    exact ⟨_, g, rfl⟩
  · rw [e1] at g ⊢
    refine q _ g ?_ (by rw [Heap.size_push, Heap.size_push]) fun b' o' e => Heap.get?_push_of_some _ (Heap.get?_push_of_some _ e)
    exact Heap.get?_push_of_some _ (Heap.get?_push_size _ b.free)
/-- a tuple at a, each item with its number -/
def ItET (K : PySem.W.Frag) (a : Addr) : It where
  go := fun i H => ∃ (xs : List V) (x : V), SqT K H a xs ∧ xs[i]? = some x
  yld := fun i H v H' => ∃ T x, v = .ref T ∧ H T = none ∧ H' = upd H T (.tup [.int (i : Nat), x]) ∧ ∀ xs : List V, SqT K H a xs → xs[i]? = some x
  stop := fun i H => ∃ xs : List V, SqT K H a xs ∧ i = xs.length
theorem turnET {P : Program} {w : World} {K : PySem.W.Frag} {es : List Expr} {k : Nat} {pos : Pos} {a e it : Addr} (d1 : e ≠ it) (d2 : a ≠ it) (d3 : e ≠ a) :
    Turn P w K (.Tuple es k pos) (ItET K a) [e, it] e (fun i h => (∃ old, IsEnum h e it (i : Nat) old) ∧ h.IsTupleIter it a i) where
  mem := List.mem_cons_self
  obj := fun n h st c hc => by
    obtain ⟨⟨old, g1⟩, ⟨o1, e1, _, dd1⟩⟩ := st
    simp only [List.mem_cons, List.not_mem_nil, or_false] at hc
    rcases hc with rfl | rfl
    · exact ⟨_, g1, fun _ e => nomatch e⟩
    · refine ⟨o1, e1, fun x e => ?_⟩
      rw [dd1] at e
      cases e
  keep := fun n h h' st g => by
    obtain ⟨⟨old, g1⟩, g2⟩ := st
    exact ⟨⟨old, g e (by simp) _ g1⟩, g2.at fun ob e => g it (by simp) ob e⟩
  item := by
    intro X hP hw hK hc n pins s σ H E I hf st hg
    subst hP hw hK
    obtain ⟨⟨old, g1⟩, g2⟩ := st
    obtain ⟨us, u, hus, hu⟩ := hg
    obtain ⟨its, r1, p1, _⟩ := I.tuple hus
    obtain ⟨x, hx, rx⟩ := r1.get hu
    have lt1 : n < its.toArray.size := by
      obtain ⟨b, _⟩ := List.getElem?_eq_some_iff.mp hx
      simpa using b
    have hzl : e < s.heap.objs.size := Heap.lt_size g1
    have hil : it < s.heap.objs.size := by
      obtain ⟨_, e1, _⟩ := id g2
      exact Heap.lt_size e1
    have hh : X.A.in1.handled = none := I.ok.hd hc
    refine wpAny_pyNext_enum_itemD (Draws.tuple hh it a d2 its.toArray) g1 ⟨g2, p1⟩ lt1 d1 (by simp [d1, d3]) fun x1 h' tk q1 eo st1 hT hsz hk => ?_
    have ex : x1 = x := by
      have e2 : its[n]? = some x1 := by simpa using q1
      exact Option.some.inj (e2.symm.trans hx)
    subst ex
    refine ⟨_, rfl, wpAny_letOwnedTupleGo_enum (s := { s with heap := h', toks := tk + 1 }) eo fun h2 z2 sb => ?_⟩
    have hT2 : h2.get? s.heap.objs.size = some { cls := .type "tuple", data := .seq #[Value.int (n : Nat) tk, x1] } := (sb.2 _ (Nat.ne_of_gt hzl)).trans hT
    have new : ObjOk X.prog X.w (upd H s.heap.objs.size (.tup [.int (n : Nat), u])) h2 s.heap.objs.size (.tup [.int (n : Nat), u]) :=
      ⟨by show 2 ≤ sizeLine; decide, [Value.int (n : Nat) tk, x1], .cons (by first | exact ⟨tk, rfl⟩ | exact rfl | constructor) (.cons rx .nil), ⟨_, hT2, rfl, _, rfl⟩⟩
    have kept : ∀ c ob, c ∉ [e, it] → s.heap.get? c = some ob → h2.get? c = some ob := fun c ob nc e => by
      simp only [List.mem_cons, List.not_mem_nil, or_false, not_or] at nc
      exact (sb.2 c nc.1).trans (hk c ob nc.1 nc.2 e)
    have I1 : Inv X pins σ (upd H s.heap.objs.size (.tup [.int (n : Nat), u])) { s with heap := h2, toks := tk + 1 } :=
      I.turnedNew (t' := tk + 1) (ch := [e, it]) kept hf (Nat.le_refl _) new
    refine ⟨.ref s.heap.objs.size, _, I1, rfl, ⟨_, u, rfl, I.hok.fresh (Nat.le_refl _), rfl, fun l hl => ?_⟩, ⟨⟨_, z2⟩, ?_⟩, fun c hcm => ?_⟩
    · rw [I.tuple_inj hl hus]
      exact hu
    · exact st1.1.at fun ob e => (sb.2 _ d1.symm).trans e
    · have lt : c < s.heap.objs.size := by
        simp only [List.mem_cons, List.not_mem_nil, or_false] at hcm
        rcases hcm with rfl | rfl
        · exact hzl
        · exact hil
      rw [upd_ne (Nat.ne_of_lt lt)]
      exact (hf c hcm).1
  done := by
    intro X hP hw hK hc n pins s σ H E I hf st hg
    subst hP hw hK
    obtain ⟨⟨old, g1⟩, g2⟩ := st
    obtain ⟨us, hus, rfl⟩ := hg
    obtain ⟨its, r1, p1, _⟩ := I.tuple hus
    have l1 : its.toArray.size = us.length := by rw [List.size_toArray, r1.length]
    have hh : X.A.in1.handled = none := I.ok.hd hc
    refine wpAny_pyNext_enum_endD (Draws.tuple hh it a d2 its.toArray) g1 (by rw [l1]; exact ⟨g2, p1⟩) fun h' hk => ?_
    exact ⟨rfl, I.turnedL (t' := s.toks) (ch := [e, it]) (fun c ob nc e => by
      simp only [List.mem_cons, List.not_mem_nil, or_false, not_or] at nc
      exact hk c ob nc.2 e) hf⟩
  self := fun A n s Q E st h => wpAny_pyIter_enum st.1.choose_spec h
/-- enumerate(e), e a tuple -/
def iET (K : PySem.W.Frag) (ta : TA) : TI := fun σ H R => ta σ H fun vs H1 => ∃ p us, vs = [.ref p] ∧ SqT K H1 p us ∧ R (ItET K p) H1
theorem pi_ET {X : Cx} {e : Expr} {ta : TA} {p1 pos tpos : Pos} {es : List Expr} {k : Nat} (hg : Gl X "enumerate") (hm : X.mg "enumerate" = none) (ha : PA X [e] ta)
    (hs : starEach [e] X.env = [(false, eval e X.env)] := by rfl) (hpl : (backTo pos (starEach [] X.env)).any (·.1) = false := by rfl) :
    PI X (.Tuple es k tpos) (.Call (.Name "enumerate" p1) [e] [] pos) (iET X.K ta) := by
  refine ⟨fun pins s σ H R I h => Call_ (ld_blt I hg hm PyProof.Rows.boot_enumerate (PyProof.Rows.callWith_type1 (thn (ha.run pos pins s σ H _ I h) fun us s1 ⟨vs, H1, I1, r1, q1⟩ => ?_) hs hpl))⟩
  obtain ⟨p, xs, rfl, hx, g⟩ := q1
  have e3 : us = [.ref p] := by
    cases r1 with
    | cons a b =>
      cases b
      cases a
      rfl
  subst e3
  obtain ⟨its, rx, px, _⟩ := I1.tuple hx
  have lp : p < s1.heap.objs.size := by
    obtain ⟨_, e1, _⟩ := id px
    exact Heap.lt_size e1
  refine enum_one (begins_tuple p its.toArray) px fun h' hz h1 hsz hk => wpAny_pyIter_enum hz ?_
  have I2 : Inv X pins σ H1 { s1 with heap := h' } := I1.kept (t' := s1.toks) hk
  refine ⟨s1.heap.objs.size + 1, [s1.heap.objs.size + 1, s1.heap.objs.size], _, _, H1, rfl, I2,
    turnET (Nat.succ_ne_self _) (Nat.ne_of_lt lp) (Nat.ne_of_gt (Nat.lt_succ_of_lt lp)), ⟨⟨_, hz⟩, ⟨_, h1, rfl, rfl⟩⟩, fun c hcm => ?_, g⟩
  have le : s1.heap.objs.size ≤ c := by
    simp only [List.mem_cons, List.not_mem_nil, or_false] at hcm
    rcases hcm with rfl | rfl
    · exact Nat.le_add_right _ _
    · exact Nat.le_refl _
  exact I1.fpOk le (I1.hok.fresh le)
/-- a comprehension over it -/
theorem walkET {K : PySem.W.Frag} {p : Addr} {us : List V} : Walk (ItET K p) us.length (fun H => SqT K H p us) (YPair (fun n => some (.int (n : Nat))) (fun n => us[n]?)) := by
  refine ⟨fun n _ hn g => ?_, fun _ g => ⟨us, g, rfl⟩, fun n H v H' _ g y => ?_⟩
  · exact ⟨us, us[n], g, List.getElem?_eq_getElem hn⟩
  · obtain ⟨T, x, h1, h2, h3, h4⟩ := y
    exact ⟨T, _, x, h1, h2, h3, rfl, h4 us g⟩
end Xk
section
open PySem PySem.Spec PyProof.Rows L2
namespace Xk
variable {K : PySem.W.Frag} {σ : L2.St} {H : Hp} {Q : VK} {te : TE} {g : TG} {t : TT} {X : Cx}
theorem k_ET {e : Expr} {ta : TA} {p1 pos tpos : Pos} {es : List Expr} {k : Nat} (hk : X.K = K) (hg : Gl X "enumerate") (hm : X.mg "enumerate" = none) (ha : PA X [e] ta)
    (hs : starEach [e] X.env = [(false, eval e X.env)] := by rfl) (hpl : (backTo pos (starEach [] X.env)).any (·.1) = false := by rfl) :
    PI X (.Tuple es k tpos) (.Call (.Name "enumerate" p1) [e] [] pos) (iET K ta) := hk ▸ pi_ET hg hm ha hs hpl
def rLcET (K : PySem.W.Frag) (g : TG) (tt : TT) (te : TE) (vs : List Nat) (σ : L2.St) (Q : VK) : List V → Hp → Prop := fun zs H1 => ∃ p us, zs = [.ref p] ∧ SqT K H1 p us ∧ RLc (ItET K p) g tt te vs σ Q H1
theorem x_lcET1 {tr : TA} {vs : List Nat} (q : tr σ H (rLcET K g t te vs σ Q)) : tLc (iET K tr) g t te vs σ H Q := q
theorem x_lcET {a : Addr} {us : List V} {vs : List Nat} (Pv : Addr → Nat → Hp → Prop) (hx : SqT K H a us) (h0 : ∀ Dl, Fr Dl H → Pv Dl 0 (upd H Dl (.lst [])))
    (hl : ∀ Dl i H', Fr Dl H → Pv Dl i H' → SqT K H' a us)
    (hs : ∀ Dl, Fr Dl H → ∀ i x H1 T H', us[i]? = some x → Pv Dl i H1 → Fr T H1 → Same H1 H' → H' T = some (.tup [.int (i : Nat), x]) → g (.ref T) (wipe σ vs) H' fun σ2 H2 => wipe σ2 vs = wipe σ vs ∧ t σ2 H2 fun c H3 =>
      if c = true then te σ2 H3 fun y H4 => ∃ acc, H4 Dl = some (.lst acc) ∧ acc.length < sizeLine ∧ Pv Dl (i + 1) (upd H4 Dl (.lst (acc ++ [y]))) else Pv Dl (i + 1) H3)
    (hd : ∀ Dl H', Fr Dl H → Pv Dl us.length H' → Q (.ref Dl) H') : rLcET K g t te vs σ Q [.ref a] H := ⟨a, us, rfl, hx, fun Dl hD =>
  lc_it walkET (Pv Dl) (h0 Dl ⟨hD⟩) (fun i H' _ p => hl Dl i H' ⟨hD⟩ p) (fun i x H1 H' hi p y => by
    obtain ⟨T, u, v, rfl, hT, rfl, e1, e2⟩ := y
    cases Option.some.inj e1
    exact hs Dl ⟨hD⟩ i v H1 T _ e2 p ⟨hT⟩ (same_new hT) upd_same) (fun H' p => hd Dl H' ⟨hD⟩ p)⟩
end Xk
end
/-! dict comprehensions over a tuple -/
section
open PySem PySem.Spec PyProof.Rows L2
namespace Xk
variable {K : PySem.W.Frag} {σ : L2.St} {H : Hp} {Q : VK} {tk tv : TE} {g : TG} {t : TT}
def RDc (J : It) (g : TG) (tt : TT) (tk tv : TE) (vs : List Nat) (σ : L2.St) (Q : VK) : Hp → Prop := fun H1 => ∀ D, H1 D = none → ∃ W : Nat → Nat → Hp → Prop, (∃ m, W 0 m (upd H1 D (.dK []))) ∧ ∀ i m H, W i m H →
  (J.stop i H ∧ Q (.ref D) H) ∨ (J.go i H ∧ ∃ Nx : Hp → Prop, (∀ H', Nx H' → ∃ m', m' < m ∧ W (i + 1) m' H') ∧ ∀ x H', J.yld i H x H' → g x (wipe σ vs) H' fun σ2 H2 => wipe σ2 vs = wipe σ vs ∧ tt σ2 H2 fun b H3 =>
    if b = true then tk σ2 H3 fun y H4 => tv σ2 H4 fun z H5 => ∃ kvs k, y = kV k ∧ H5 D = some (.dK kvs) ∧ kvs.length < sizeLine ∧ Nx (upd H5 D (.dK (putK kvs k z))) else Nx H3)
def rDcT (K : PySem.W.Frag) (g : TG) (tt : TT) (tk tv : TE) (vs : List Nat) (σ : L2.St) (Q : VK) : VK := fun x H1 => ∃ a, x = .ref a ∧ (∃ xs, SqT K H1 a xs) ∧ RDc (Itt K a) g tt tk tv vs σ Q H1
theorem x_dcT1 {tx : TE} {vs : List Nat} (q : tx σ H (rDcT K g t tk tv vs σ Q)) : tDc (iTup K tx) g t tk tv vs σ H Q := q
theorem x_dcT {a : Addr} {xs : List V} {vs : List Nat} (Pv : Addr → Nat → Hp → Prop) (hx : SqT K H a xs) (h0 : ∀ Dl, Fr Dl H → Pv Dl 0 (upd H Dl (.dK []))) (hl : ∀ Dl i H', Fr Dl H → Pv Dl i H' → SqT K H' a xs)
    (hs : ∀ Dl, Fr Dl H → ∀ i x H', xs[i]? = some x → Pv Dl i H' → g x (wipe σ vs) H' fun σ2 H2 => wipe σ2 vs = wipe σ vs ∧ t σ2 H2 fun b H3 =>
      if b = true then tk σ2 H3 fun y H4 => tv σ2 H4 fun z H5 => ∃ kvs k, y = kV k ∧ H5 Dl = some (.dK kvs) ∧ kvs.length < sizeLine ∧ Pv Dl (i + 1) (upd H5 Dl (.dK (putK kvs k z))) else Pv Dl (i + 1) H3)
    (hd : ∀ Dl H', Fr Dl H → Pv Dl xs.length H' → Q (.ref Dl) H') : rDcT K g t tk tv vs σ Q (.ref a) H := ⟨a, rfl, ⟨xs, hx⟩, fun Dl hD =>
  dc_tup (xs := xs) (Pv Dl) (h0 Dl ⟨hD⟩) (fun i H' _ p => hl Dl i H' ⟨hD⟩ p) (fun i x H' hi p => hs Dl ⟨hD⟩ i x H' hi p) (fun H' p => hd Dl H' ⟨hD⟩ p)⟩
end Xk
end
namespace Xk
open PySem PySem.Spec PyProof.Rows L2
section
variable {X : Cx}
/-- sorted(xs) of a list of data of one shape -/
def rSortX (K : PySem.W.Frag) : List V → Hp → VK → Prop := fun vs H Q => ∃ (a : Addr) (bs : List (V × PyData)), vs = [V.ref a] ∧ SqL K H a (bs.map (·.1)) ∧ (∀ b ∈ bs, Dp K H b.1 b.2 ∧ b.2.depth ≤ 9) ∧
  PySem.W.AllAlike (bs.map (·.2)) ∧ PySem.W.Sortable (bs.map (·.2)) ∧ ∀ p, H p = none → Q (.ref p) (upd H p (.lst ((bs.mergeSort (PySem.W.dataLe false (·.2))).map (·.1))))
theorem eachV {R : Value → PyData → Prop} : ∀ {its : List Value} {bs : List (V × PyData)}, Vals (bs.map (·.1)) its → (∀ b ∈ bs, ∀ u, RelV b.1 u → R u b.2) → PySem.W.EachIs (fun u (b : V × PyData) => RelV b.1 u ∧ R u b.2) its bs
  | its, [], h, _ => by cases h; exact .nil
  | its, b :: r, h, hr => by
    cases h with
    | cons h1 h2 => exact .cons ⟨h1, hr b (List.mem_cons_self ..) _ h1⟩ (eachV h2 fun c hc => hr c (List.mem_cons_of_mem _ hc))
theorem eachB {R : Value → PyData → Prop} : ∀ {its : List Value} {bs : List (V × PyData)}, PySem.W.EachIs (fun u (b : V × PyData) => RelV b.1 u ∧ R u b.2) its bs → Vals (bs.map (·.1)) its
  | _, _, .nil => .nil
  | _, _, .cons h t => .cons h.1 (eachB t)
theorem k_sortX0 (hu : X.A.units + 64 < cLine) : CallR X (.builtin "sorted") (rSortX X.K) := by
  intro pins s σ H vs us Q I r h
  obtain ⟨a, bs, rfl, hs, hd, hal, hk, q⟩ := h
  obtain ⟨its, rv, hl, hz⟩ := I.list hs
  rw [Vals.ref1 r]
  have e := eachV (R := fun u d => ∃ as, Reads s.heap u d as) rv fun b hb u ru => Dp.reads I b.2 b.1 u (hd b hb).1 ru
  have hlen : bs.length ≤ sizeLine := by rw [List.length_map] at hz; exact hz
  refine PySem.W.sorted_data (enc := fun b : V × PyData => b.2) hl.isList e (e.mono fun _ _ h => h.2) hal hk hlen (fun b hb => ?_) fun out ho eo => ?_
  · have := (hd b hb).2
    omega
  · obtain ⟨ep, he'⟩ := PyProof.Rows.sortedAll_at s.heap its out.toArray
    have hlen2 : ((bs.mergeSort (PySem.W.dataLe false (·.2))).map (·.1)).length ≤ sizeLine := by rw [List.length_map, List.length_mergeSort]; exact hlen
    exact ⟨.ref _, upd H (s.heap.objs.size + 1) (.lst ((bs.mergeSort (PySem.W.dataLe false (·.2))).map (·.1))), I.laid (t' := s.toks) (fun _ _ => PyProof.Rows.sortedAll_old) (Nat.le_succ _) ⟨hlen2, out, ep, eachB (R := fun u d => ∃ as, Reads s.heap u d as) eo, he'⟩, rfl, q _ (I.hok.fresh (Nat.le_succ _))⟩
/-- data compared -/
def rLtD (K : PySem.W.Frag) : R2 := fun x y H Q => ∃ d e, Dp K H x d ∧ Dp K H y e ∧ PySem.W.alike d e = true ∧ d ≠ .none ∧ d.depth ≤ 60 ∧ Q (.bl (PySem.W.dataLt d e)) H
def rLeD (K : PySem.W.Frag) : R2 := fun x y H Q => ∃ d e, Dp K H x d ∧ Dp K H y e ∧ PySem.W.alike d e = true ∧ d ≠ .none ∧ d.depth ≤ 60 ∧ Q (.bl (!PySem.W.dataLt e d)) H
theorem k_ltD0 (hu : X.A.units + 64 < cLine) : OpR X (compareOp .Lt) (rLtD X.K) := by
  intro pins s σ H x y v u Q I rx ry h
  obtain ⟨d, e, hd, he, ha, hn, hz, q⟩ := h
  obtain ⟨as, r1⟩ := Dp.reads I d x v hd rx
  obtain ⟨bs, r2⟩ := Dp.reads I e y u he ry
  exact PySem.W.rcLt_alike d e X.A s v u as bs r1 r2 ha hn (by have := Nat.min_le_left d.depth e.depth; omega) X.prog X.w X.xe (EP X pins σ Q) ⟨.bl _, H, I, rfl, q⟩
theorem k_leD0 (hu : X.A.units + 64 < cLine) : OpR X (compareOp .LtE) (rLeD X.K) := by
  intro pins s σ H x y v u Q I rx ry h
  obtain ⟨d, e, hd, he, ha, hn, hz, q⟩ := h
  obtain ⟨as, r1⟩ := Dp.reads I d x v hd rx
  obtain ⟨bs, r2⟩ := Dp.reads I e y u he ry
  exact PySem.W.rcLe_alike d e X.A s v u as bs r1 r2 ha hn (by have := Nat.min_le_left d.depth e.depth; omega) X.prog X.w X.xe (EP X pins σ Q) ⟨.bl _, H, I, rfl, q⟩
theorem k_sortX {K : PySem.W.Frag} (hu : X.A.units + 64 < cLine) (e : X.K = K) : CallR X (.builtin "sorted") (rSortX K) := e ▸ k_sortX0 hu
theorem k_ltD {K : PySem.W.Frag} (hu : X.A.units + 64 < cLine) (e : X.K = K) : OpR X (compareOp .Lt) (rLtD K) := e ▸ k_ltD0 hu
theorem k_leD {K : PySem.W.Frag} (hu : X.A.units + 64 < cLine) (e : X.K = K) : OpR X (compareOp .LtE) (rLeD K) := e ▸ k_leD0 hu
end
end Xk


local macro_rules | `(tactic| wtm_at "key") => `(tactic| (first | assumption | exact rfl | fail "key"))
local macro_rules | `(tactic| wtm_at "few") => `(tactic| (first | assumption | exact Nat.le_of_ble_eq_true rfl | fail "few"))
local macro_rules | `(tactic| wtm_at "cls") => `(tactic| (first | assumption | fail "cls"))
local macro_rules | `(tactic| wtm_at "neq") => `(tactic| (first | assumption | exact Ne.symm (by assumption) | exact Xk.ne_new (by assumption) (by wtm_at "hx") | exact (Xk.ne_new (by assumption) (by wtm_at "hx")).symm | fail "neq"))
local macro_rules | `(tactic| wtm_at "hx") => `(tactic| (first | assumption | exact L2.upd_same | ((refine' (L2.upd_ne ?un).trans ?uh); (case un => wtm_at "neq"); (case uh => wtm_at "hx")) | ((refine' Xk.same_at ?ue ?uh); (case ue => assumption); (case uh => wtm_at "hx")) | ((refine' Xk.but_at ?ue ?un ?uh); (case ue => assumption); (case un => wtm_at "neq"); (case uh => wtm_at "hx")) | fail "hx"))
local macro_rules | `(tactic| wtm_at "free") => `(tactic| (first | assumption | ((refine' Xk.free_back ?uh ?ue); (case uh => assumption); (case ue => wtm_at "sm")) | ((refine' Xk.free_back ?uh ?ue); (case uh => (refine' Xk.fr_upd ?uf; case uf => assumption)); (case ue => wtm_at "sm")) | fail "free"))
local macro_rules | `(tactic| wtm_at "sm") => `(tactic| (first | assumption | exact L2.Same.refl _ | ((refine' Xk.same_mut ?ue ?uh); (case ue => wtm_at "sm"); (case uh => wtm_at "free")) | ((refine' L2.Same.trans ?ue ?uh); (case uh => assumption); (case ue => wtm_at "sm")) | ((refine' Xk.same_but ?ue ?uh ?us); (case ue => assumption); (case uh => wtm_at "free"); (case us => wtm_at "sm")) | fail "sm"))
local macro_rules | `(tactic| wtm_at "bm") => `(tactic| (first | assumption | exact Xk.But.refl _ _ | ((refine' Xk.but_mut ?ue); (case ue => wtm_at "bm")) | ((refine' Xk.but_new ?ue ?uh); (case ue => wtm_at "bm"); (case uh => wtm_at "free")) | ((refine' Xk.but_trans ?ue ?uh); (case uh => assumption); (case ue => wtm_at "bm")) | ((refine' Xk.but_trans ?ue (Xk.but_same ?uh)); (case uh => assumption); (case ue => wtm_at "bm")) | fail "bm"))
local macro_rules | `(tactic| wtm_at "sq") => `(tactic| (first | assumption | exact Xk.sq_of (by wtm_at "hx") | ((refine' Xk.sq_same ?uh ?ue); (case uh => assumption); (case ue => wtm_at "sm")) | fail "sq"))
local macro_rules | `(tactic| wtm_at "st") => `(tactic| (first | assumption | exact Xk.st_of (by wtm_at "hx") | ((refine' Xk.st_same ?uh ?ue); (case uh => assumption); (case ue => wtm_at "sm")) | fail "st"))
local macro_rules | `(tactic| wtm_at "side") => `(tactic| (first | assumption | decide | omega | (refine Or.inr ?_; omega) | (refine Or.inl ?_; omega) | (refine ⟨?_, ?_⟩ <;> omega) | (refine ⟨?_, ?_, ?_⟩ <;> first | omega | decide) | fail "side"))
local macro_rules | `(tactic| wtm_at "len") => `(tactic| (first | omega | (simp only [List.length_map, List.length_append, List.length_cons, List.length_nil, List.length_set, List.length_replicate] at *; omega) | fail "len"))
local macro_rules | `(tactic| wtm_at "x") => `(tactic| (first
  | ((with_reducible refine' Xk.x_var ?a1 ?_); (case a1 => exact rfl))
  | (with_reducible refine Xk.x_c ?_)
  | (with_reducible refine Xk.x_op ?_)
  | (with_reducible refine Xk.x_I0 ?_)
  | ((with_reducible refine' Xk.x_I ?a1 ?_); (case a1 => wtm_at "side"))
  | (with_reducible refine Xk.x_cons ?_)
  | (with_reducible refine Xk.x_nil ?_)
  | (with_reducible refine Xk.x_cb ?_)
  | (with_reducible refine Xk.x_call ?_)
  | (with_reducible refine Xk.x_sasg ?_)
  | (with_reducible refine Xk.x_asg ?_)
  | (with_reducible refine Xk.x_ret ?_)
  | (with_reducible refine Xk.x_test ?_)
  | (with_reducible refine Xk.x_bl ?_)
  | (with_reducible refine Xk.x_isI ?_)
  | (with_reducible refine Xk.x_sif ?_)
  | (with_reducible refine Xk.x_ifS ?_)
  | (with_reducible refine Xk.x_and ?_)
  | (with_reducible refine Xk.x_or ?_)
  | (with_reducible refine Xk.x_not ?_)
  | (with_reducible refine Xk.x_B ?_)
  | (with_reducible refine Xk.x_nInt ?_)
  | (with_reducible refine Xk.x_nIntB ?_)
  | ((with_reducible refine' Xk.x_lenL ?a1 ?_); (case a1 => wtm_at "sq"))
  | ((with_reducible refine' Xk.x_lenT ?a1 ?_); (case a1 => wtm_at "st"))
  | (with_reducible refine Xk.x_un ?_)
  | (with_reducible refine Xk.x_U ?_)
  | ((with_reducible refine' Xk.x_eq ?a1 ?_); (case a1 => exact rfl))
  | ((with_reducible refine' Xk.x_ne ?a1 ?_); (case a1 => exact rfl))
  | ((with_reducible refine' Xk.x_ixL ?a1 ?a2 ?_); (case a1 => wtm_at "sq"); (case a2 => first | exact rfl | assumption | exact Xk.at_nat rfl (Xk.map_at (by assumption)) | exact Xk.at_nat rfl (by assumption)))
  | ((with_reducible refine' Xk.x_ixT ?a1 ?a2 ?_); (case a1 => wtm_at "st"); (case a2 => first | exact rfl | assumption | exact Xk.at_nat rfl (Xk.map_at (by assumption)) | exact Xk.at_nat rfl (by assumption)))
  | (with_reducible refine Xk.x_lst ?_)
  | (with_reducible refine Xk.x_tup ?_)
  | ((with_reducible refine' Xk.x_new ?a1 ?_); (case a1 => wtm_at "len"))
  | ((with_reducible refine' Xk.x_listL ?a1 ?_); (case a1 => wtm_at "sq"))
  | ((with_reducible refine' Xk.x_listT ?a1 ?_); (case a1 => wtm_at "st"))
  | ((with_reducible refine' Xk.x_tupleL ?a1 ?_); (case a1 => wtm_at "sq"))
  | ((with_reducible refine' Xk.x_tupleT ?a1 ?_); (case a1 => wtm_at "st"))
  | (with_reducible refine Xk.x_seq ?_)
  | (with_reducible refine Xk.x_next ?_)
  | (with_reducible refine Xk.x_sdrop ?_)
  | (with_reducible refine Xk.x_drop ?_)
  | (with_reducible refine Xk.x_bm ?_)
  | (with_reducible refine Xk.x_bm0 ?_)
  | ((with_reducible refine' Xk.x_tyL ?a1 ?_); (case a1 => wtm_at "sq"))
  | ((with_reducible refine' Xk.x_app ?a1 ?a2 ?_); (case a1 => wtm_at "hx"); (case a2 => wtm_at "len"))
  | (with_reducible refine Xk.x_sasgG ?_)
  | (with_reducible refine Xk.x_asgG ?_)
  | (with_reducible refine Xk.x_gName ?_)
  | ((with_reducible refine' Xk.x_gTup ?a1 ?a2 ?_); (case a1 => wtm_at "st"); (case a2 => exact rfl))
  | ((with_reducible refine' Xk.x_gLst ?a1 ?a2 ?_); (case a1 => wtm_at "sq"); (case a2 => exact rfl))
  | (with_reducible refine Xk.x_gCons ?_)
  | (with_reducible refine Xk.x_gNil ?_)
  | (with_reducible refine Xk.x_gSub ?_)
  | (with_reducible refine Xk.x_if ?_)
  | (with_reducible refine Xk.x_andV ?_)
  | (with_reducible refine Xk.x_orV ?_)
  | (with_reducible refine Xk.x_notV ?_)
  | (with_reducible refine Xk.x_chain ?_)
  | (with_reducible refine Xk.x_yes ?_)
  | (with_reducible refine Xk.x_sl ?_)
  | (with_reducible refine Xk.x_nopart ?_)
  | (with_reducible refine Xk.x_part ?_)
  | ((with_reducible refine' Xk.x_slL ?a1 ?_); (case a1 => wtm_at "sq"))
  | ((with_reducible refine' Xk.x_saug ?a1 ?_); (case a1 => exact rfl))
  | ((with_reducible refine' Xk.x_aug ?a1 ?_); (case a1 => exact rfl))
  | (with_reducible refine Xk.x_ipI ?_)
  | ((with_reducible refine' Xk.x_isiInt ?a1 ?_); (case a1 => first | exact Xk.kit_T (by decide +kernel) | exact Xk.kit_F (by decide +kernel)))
  | ((with_reducible refine' Xk.x_isiBl ?a1 ?_); (case a1 => first | exact Xk.kit_T (by decide +kernel) | exact Xk.kit_F (by decide +kernel)))
  | ((with_reducible refine' Xk.x_isiStr ?a1 ?_); (case a1 => first | exact Xk.kit_T (by decide +kernel) | exact Xk.kit_F (by decide +kernel)))
  | ((with_reducible refine' Xk.x_isiNon ?a1 ?_); (case a1 => first | exact Xk.kit_T (by decide +kernel) | exact Xk.kit_F (by decide +kernel)))
  | ((with_reducible refine' Xk.x_isiLst ?a1 ?a2 ?_); (case a1 => wtm_at "hx"); (case a2 => first | exact Xk.kit_T (by decide +kernel) | exact Xk.kit_F (by decide +kernel)))
  | ((with_reducible refine' Xk.x_isiTup ?a1 ?a2 ?_); (case a1 => wtm_at "hx"); (case a2 => first | exact Xk.kit_T (by decide +kernel) | exact Xk.kit_F (by decide +kernel)))
  | (with_reducible refine Xk.x_forR1 ?_)
  | (with_reducible refine Xk.x_forL1 ?_)
  | (with_reducible refine Xk.x_forT1 ?_)
  | (with_reducible refine Xk.x_brk ?_)
  | (with_reducible refine Xk.x_ct ?_)
  | (with_reducible refine Xk.x_retN ?_)
  | (with_reducible refine Xk.x_lcL1 ?_)
  | (with_reducible refine Xk.x_lcT1 ?_)
  | (with_reducible refine Xk.x_lcR1 ?_)
  | (with_reducible refine Xk.x_lcE1 ?_)
  | (with_reducible refine Xk.x_nocutW ?_)
  | (with_reducible refine Xk.x_nIsN ?_)
  | (with_reducible refine Xk.x_nNotN ?_)
  | (with_reducible refine Xk.x_and255 ?_)
  | (with_reducible refine Xk.x_wT ?_)
  | (with_reducible refine Xk.x_wF ?_)
  | (with_reducible refine Xk.x_lstRg ?_)
  | (with_reducible refine Xk.x_rg1 ?_)
  | ((with_reducible refine' Xk.x_nRg ?a1 ?_); (case a1 => omega))
  | (with_reducible refine L2.iteT ?_)
  | (with_reducible refine L2.iteF ?_)
  | (with_reducible refine Xk.x_nT ?_)
  | (with_reducible refine Xk.x_nF ?_)
  | ((with_reducible refine' Xk.x_dY ?a1 ?_); (case a1 => first | exact rfl | assumption | omega))
  | ((with_reducible refine' Xk.x_dN ?a1 ?_); (case a1 => first | assumption | omega | (intro z; cases z; done)))
  | ((with_reducible refine' Xk.x_ndY ?a1 ?_); (case a1 => first | exact rfl | assumption | omega))
  | ((with_reducible refine' Xk.x_ndN ?a1 ?_); (case a1 => first | assumption | omega | (intro z; cases z; done)))
  | (with_reducible refine Xk.x_lc2 ?_)
  | (with_reducible refine Xk.x_fld1 ?_)
  | ((with_reducible refine' Xk.x_rFld ?a1 ?a2 ?a3 ?a4 ?_); (case a1 => wtm_at "hx"); (case a2 => wtm_at "cls"); (case a3 => wtm_at "cls"); (case a4 => exact rfl))
  | (with_reducible refine Xk.x_ssfld ?_)
  | (with_reducible refine Xk.x_sfld ?_)
  | ((with_reducible refine' Xk.x_rSetF ?a1 ?a2 ?a3 ?a4 ?_); (case a1 => wtm_at "hx"); (case a2 => wtm_at "cls"); (case a3 => wtm_at "cls"); (case a4 => exact Nat.le_of_ble_eq_true rfl))
  | (with_reducible refine Xk.x_prop ?_)
  | ((with_reducible refine' Xk.x_rProp ?a1 ?_); (case a1 => wtm_at "hx"))
  | (with_reducible refine Xk.x_meth ?_)
  | ((with_reducible refine' Xk.x_rMeth ?a1 ?a2 ?_); (case a1 => wtm_at "hx"); (case a2 => exact rfl))
  | (with_reducible refine Xk.x_make ?_)
  | (with_reducible refine Xk.x_sdelT ?_)
  | (with_reducible refine Xk.x_delT ?_)
  | (with_reducible refine Xk.x_nMax2 ?_)
  | (with_reducible refine Xk.x_nMin2 ?_)
  | ((with_reducible refine' Xk.x_nRepS ?a1 ?a2 ?_); (case a1 => wtm_at "side"); (case a2 => decide))
  | (with_reducible refine Xk.x_inS ?_)
  | (with_reducible refine Xk.x_notInS ?_)
  | ((with_reducible refine' Xk.x_nAddS ?a1 ?_); (case a1 => wtm_at "len"))
  | ((with_reducible refine' Xk.x_nLenS ?a1 ?_); (case a1 => wtm_at "len"))
  | ((with_reducible refine' Xk.x_slS ?a1 ?_); (case a1 => wtm_at "len"))
  | (with_reducible refine Xk.x_lcS1 ?_)
  | (with_reducible refine Xk.x_forS1 ?_)
  | (with_reducible refine Xk.x_ord ?_)
  | (with_reducible refine Xk.x_dget1 ?_)
  | ((with_reducible refine' Xk.x_rGetD ?a1 ?_); (case a1 => wtm_at "hx"))
  | ((with_reducible refine' Xk.x_rGet1 ?a1 ?_); (case a1 => wtm_at "hx"))
  | (with_reducible refine Xk.x_dget2 ?_)
  | ((with_reducible refine' Xk.x_rGetE ?a1 ?_); (case a1 => wtm_at "hx"))
  | ((with_reducible refine' Xk.x_rGet2 ?a1 ?_); (case a1 => wtm_at "hx"))
  | (with_reducible refine Xk.x_dpop1 ?_)
  | ((with_reducible refine' Xk.x_rPopD ?a1 ?_); (case a1 => wtm_at "hx"))
  | (with_reducible refine Xk.x_dpop2 ?_)
  | ((with_reducible refine' Xk.x_rPopE ?a1 ?_); (case a1 => wtm_at "hx"))
  | (with_reducible refine Xk.x_din ?_)
  | ((with_reducible refine' Xk.x_rDInK ?a1 ?_); (case a1 => wtm_at "hx"))
  | (with_reducible refine Xk.x_dnew ?_)
  | (with_reducible refine Xk.x_notBl ?_)
  | (with_reducible refine Xk.x_isBl ?_)
  | (with_reducible refine Xk.x_dget ?_)
  | ((with_reducible refine' Xk.x_rDG ?a1 ?a2 ?_); (case a1 => wtm_at "hx"); (case a2 => wtm_at "key"))
  | (with_reducible refine Xk.x_sdput ?_)
  | (with_reducible refine Xk.x_dput ?_)
  | ((with_reducible refine' Xk.x_rDP ?a1 ?a2 ?a3 ?_); (case a1 => wtm_at "hx"); (case a2 => wtm_at "few"); (case a3 => wtm_at "key"))
  | (with_reducible refine Xk.x_pcons ?_)
  | (with_reducible refine Xk.x_pnil ?_)
  | (with_reducible refine Xk.x_forRev1 ?_)
  | (with_reducible refine Xk.x_forR2 ?_)
  | ((with_reducible refine' Xk.x_geP ?a1 ?a2 ?_); (case a1 => wtm_at "st"); (case a2 => wtm_at "st"))
  | ((with_reducible refine' Xk.x_ltP ?a1 ?a2 ?_); (case a1 => wtm_at "st"); (case a2 => wtm_at "st"))
  | (with_reducible refine Xk.x_lcZ1 ?_)
  | (with_reducible refine Xk.x_lcET1 ?_)
  | (with_reducible refine Xk.x_dcT1 ?_)
  | (with_reducible refine Xk.x_nLtS ?_)
  | (with_reducible refine Xk.x_nLeS ?_)
  | (with_reducible refine Xk.x_nGeS ?_)
  | (with_reducible refine Xk.x_spar ?_)
  | (with_reducible refine Xk.x_par ?_)
  | (with_reducible refine Xk.x_rPar ?_)
  | (with_reducible refine Xk.x_gSubSl ?_)
  | fail "x"))
local macro_rules | `(tactic| wtm_at "xs") => `(tactic| ((repeat wtm_at "x"); try dsimp only [L2.wipe, List.set, List.append_nil, List.cons_append, List.nil_append]))
local macro_rules | `(tactic| wtm_at "x0") => `(tactic| (dsimp only [L2.cxOf, L2.start, List.map, List.length, List.replicate, Nat.reduceAdd, Nat.reduceSub, List.cons_append, List.nil_append]))
local macro_rules | `(tactic| wtm_at "xc") => `(tactic| (dsimp only [L2.wipe, List.set, List.append_nil, List.cons_append, List.nil_append]))

namespace K00
open PySem PySem.Spec PyProof.Rows L2
def topS (i : Nat) : Stmt := PySem.Challenge.pw_crosskeep_k00_keys_values_and_ranges.main.body.getD i (.Pass ⟨0, 0, 0, 0⟩)
abbrev s_is_integer : Stmt := topS 1
abbrev N_is_integer : List Str := ["data"]
theorem sc_is_integer : FnScope ["data"] ["data"] (defScope s_is_integer) := ⟨rfl, rfl, rfl, by decide +kernel, rfl, by decide +kernel, by decide +kernel⟩
abbrev s_is_text : Stmt := topS 5
abbrev N_is_text : List Str := ["data", "sign"]
theorem sc_is_text : FnScope ["data", "sign"] ["data"] (defScope s_is_text) := ⟨rfl, rfl, rfl, by decide +kernel, rfl, by decide +kernel, by decide +kernel⟩
abbrev s_is_integer_within : Stmt := topS 11
abbrev N_is_integer_within : List Str := ["data", "most"]
theorem sc_is_integer_within : FnScope ["data", "most"] ["data", "most"] (defScope s_is_integer_within) := ⟨rfl, rfl, rfl, by decide +kernel, rfl, by decide +kernel, by decide +kernel⟩
abbrev s_is_key : Stmt := topS 12
abbrev N_is_key : List Str := ["data", "sign"]
theorem sc_is_key : FnScope ["data", "sign"] ["data"] (defScope s_is_key) := ⟨rfl, rfl, rfl, by decide +kernel, rfl, by decide +kernel, by decide +kernel⟩
abbrev s_is_value : Stmt := topS 13
abbrev N_is_value : List Str := ["data"]
theorem sc_is_value : FnScope ["data"] ["data"] (defScope s_is_value) := ⟨rfl, rfl, rfl, by decide +kernel, rfl, by decide +kernel, by decide +kernel⟩
abbrev s_is_range : Stmt := topS 14
abbrev N_is_range : List Str := ["start", "end"]
theorem sc_is_range : FnScope ["start", "end"] ["start", "end"] (defScope s_is_range) := ⟨rfl, rfl, rfl, by decide +kernel, rfl, by decide +kernel, by decide +kernel⟩
abbrev s_key_in : Stmt := topS 15
abbrev N_key_in : List Str := ["key", "start", "end"]
theorem sc_key_in : FnScope ["key", "start", "end"] ["key", "start", "end"] (defScope s_key_in) := ⟨rfl, rfl, rfl, by decide +kernel, rfl, by decide +kernel, by decide +kernel⟩
abbrev s_rows_in : Stmt := topS 16
abbrev N_rows_in : List Str := ["rows", "start", "end", "key"]
theorem sc_rows_in : FnScope ["rows", "start", "end", "key"] ["rows", "start", "end"] (defScope s_rows_in) := ⟨rfl, rfl, rfl, by decide +kernel, rfl, by decide +kernel, by decide +kernel⟩
abbrev s__law_row : Stmt := topS 18
abbrev N__law_row : List Str := ["script", "k", "cell", "first", "second"]
theorem sc__law_row : FnScope ["script", "k", "cell", "first", "second"] ["script", "k"] (defScope s__law_row) := ⟨rfl, rfl, rfl, by decide +kernel, rfl, by decide +kernel, by decide +kernel⟩
abbrev s__law_digits : Stmt := topS 19
abbrev N__law_digits : List Str := ["row", "sizes", "digits", "size"]
theorem sc__law_digits : FnScope ["row", "sizes", "digits", "size"] ["row", "sizes"] (defScope s__law_digits) := ⟨rfl, rfl, rfl, by decide +kernel, rfl, by decide +kernel, by decide +kernel⟩
abbrev s__law_sign : Stmt := topS 20
abbrev N__law_sign : List Str := ["number", "signs"]
theorem sc__law_sign : FnScope ["number", "signs"] ["number"] (defScope s__law_sign) := ⟨rfl, rfl, rfl, by decide +kernel, rfl, by decide +kernel, by decide +kernel⟩
abbrev s__law_text : Stmt := topS 21
abbrev N__law_text : List Str := ["row", "count", "text", "rest", "k"]
theorem sc__law_text : FnScope ["row", "count", "text", "rest", "k"] ["row", "count"] (defScope s__law_text) := ⟨rfl, rfl, rfl, by decide +kernel, rfl, by decide +kernel, by decide +kernel⟩
abbrev s__law_key : Stmt := topS 22
abbrev N__law_key : List Str := ["row", "most", "signs", "count", "rest", "key", "k"]
theorem sc__law_key : FnScope ["row", "most", "signs", "count", "rest", "key", "k"] ["row", "most"] (defScope s__law_key) := ⟨rfl, rfl, rfl, by decide +kernel, rfl, by decide +kernel, by decide +kernel⟩
abbrev s__law_is : Stmt := topS 23
abbrev N__law_is : List Str := ["actual", "due"]
theorem sc__law_is : FnScope ["actual", "due"] ["actual", "due"] (defScope s__law_is) := ⟨rfl, rfl, rfl, by decide +kernel, rfl, by decide +kernel, by decide +kernel⟩
abbrev s__law_is_key : Stmt := topS 24
abbrev N__law_is_key : List Str := ["data", "sign", "code"]
theorem sc__law_is_key : FnScope ["data", "sign", "code"] ["data"] (defScope s__law_is_key) := ⟨rfl, rfl, rfl, by decide +kernel, rfl, by decide +kernel, by decide +kernel⟩
abbrev s__law_codes : Stmt := topS 25
abbrev N__law_codes : List Str := ["key", "sign"]
theorem sc__law_codes : FnScope ["key", "sign"] ["key"] (defScope s__law_codes) := ⟨rfl, rfl, rfl, by decide +kernel, rfl, by decide +kernel, by decide +kernel⟩
abbrev s__law_drawn_key : Stmt := topS 26
abbrev N__law_drawn_key : List Str := ["row", "count", "odd", "at", "other", "rest", "key"]
theorem sc__law_drawn_key : FnScope ["row", "count", "odd", "at", "other", "rest", "key"] ["row"] (defScope s__law_drawn_key) := ⟨rfl, rfl, rfl, by decide +kernel, rfl, by decide +kernel, by decide +kernel⟩
abbrev s__law_number : Stmt := topS 27
abbrev N__law_number : List Str := ["row", "kind", "sign", "more", "number"]
theorem sc__law_number : FnScope ["row", "kind", "sign", "more", "number"] ["row"] (defScope s__law_number) := ⟨rfl, rfl, rfl, by decide +kernel, rfl, by decide +kernel, by decide +kernel⟩
abbrev s__law_kinds_hold : Stmt := topS 28
abbrev N__law_kinds_hold : List Str := ["script", "k", "key", "count", "more", "text", "number", "data", "due", "end"]
theorem sc__law_kinds_hold : FnScope ["script", "k", "key", "count", "more", "text", "number", "data", "due", "end"] ["script", "k"] (defScope s__law_kinds_hold) := ⟨rfl, rfl, rfl, by decide +kernel, rfl, by decide +kernel, by decide +kernel⟩
abbrev s_law : Stmt := topS 29
abbrev N_law : List Str := ["script", "k", "rows", "many", "kind", "first", "second", "keys", "key", "start", "end", "due", "codes", "inside", "passed", "told"]
theorem sc_law : FnScope ["script", "k", "rows", "many", "kind", "first", "second", "keys", "key", "start", "end", "due", "codes", "inside", "passed", "told"] ["script"] (defScope s_law) := ⟨rfl, rfl, rfl, by decide +kernel, rfl, by decide +kernel, by decide +kernel⟩
structure Txt (K : PySem.W.Frag) (mg : Str → Option Value) where
  t_HIGH_SIGNS : Tok
  g_HIGH_SIGNS : mg "HIGH_SIGNS" = some (.str "&'()*+,-./0123456789:;<=>?@ABCDEFGHIJKLMNOPQRSTUVWXYZ[\\]^_`abcdefghijklmnopqrstuvwxyz{|}~" t_HIGH_SIGNS)
  t_KEY_ALPHABET : Tok
  g_KEY_ALPHABET : mg "KEY_ALPHABET" = some (.str "abcdefghijklmnopqrstuvwxyz0123456789" t_KEY_ALPHABET)
  t_KEY_SIGNS : Tok
  g_KEY_SIGNS : mg "KEY_SIGNS" = some (.int 8 t_KEY_SIGNS)
  t_LOW_SIGNS : Tok
  g_LOW_SIGNS : mg "LOW_SIGNS" = some (.str " !\"#$" t_LOW_SIGNS)
  t_MOST_VALUE : Tok
  g_MOST_VALUE : mg "MOST_VALUE" = some (.int 1000000000000000 t_MOST_VALUE)
  t_VALUE_SIGNS : Tok
  g_VALUE_SIGNS : mg "VALUE_SIGNS" = some (.int 20 t_VALUE_SIGNS)
  f_is_integer : Addr
  d_is_integer : FuncData
  F_is_integer : Fun K "is_integer" "is_integer" s_is_integer f_is_integer d_is_integer
  b_is_integer : Binds K d_is_integer ["data"] []
  g_is_integer : mg "is_integer" = some (.ref f_is_integer)
  f_is_text : Addr
  d_is_text : FuncData
  F_is_text : Fun K "is_text" "is_text" s_is_text f_is_text d_is_text
  b_is_text : Binds K d_is_text ["data"] []
  g_is_text : mg "is_text" = some (.ref f_is_text)
  f_is_integer_within : Addr
  d_is_integer_within : FuncData
  F_is_integer_within : Fun K "is_integer_within" "is_integer_within" s_is_integer_within f_is_integer_within d_is_integer_within
  b_is_integer_within : Binds K d_is_integer_within ["data", "most"] []
  g_is_integer_within : mg "is_integer_within" = some (.ref f_is_integer_within)
  f_is_key : Addr
  d_is_key : FuncData
  F_is_key : Fun K "is_key" "is_key" s_is_key f_is_key d_is_key
  b_is_key : Binds K d_is_key ["data"] []
  g_is_key : mg "is_key" = some (.ref f_is_key)
  f_is_value : Addr
  d_is_value : FuncData
  F_is_value : Fun K "is_value" "is_value" s_is_value f_is_value d_is_value
  b_is_value : Binds K d_is_value ["data"] []
  g_is_value : mg "is_value" = some (.ref f_is_value)
  f_is_range : Addr
  d_is_range : FuncData
  F_is_range : Fun K "is_range" "is_range" s_is_range f_is_range d_is_range
  b_is_range : Binds K d_is_range ["start", "end"] []
  g_is_range : mg "is_range" = some (.ref f_is_range)
  f_key_in : Addr
  d_key_in : FuncData
  F_key_in : Fun K "key_in" "key_in" s_key_in f_key_in d_key_in
  b_key_in : Binds K d_key_in ["key", "start", "end"] []
  g_key_in : mg "key_in" = some (.ref f_key_in)
  f_rows_in : Addr
  d_rows_in : FuncData
  F_rows_in : Fun K "rows_in" "rows_in" s_rows_in f_rows_in d_rows_in
  b_rows_in : Binds K d_rows_in ["rows", "start", "end"] []
  g_rows_in : mg "rows_in" = some (.ref f_rows_in)
  f__law_row : Addr
  d__law_row : FuncData
  F__law_row : Fun K "_law_row" "_law_row" s__law_row f__law_row d__law_row
  b__law_row : Binds K d__law_row ["script", "k"] []
  g__law_row : mg "_law_row" = some (.ref f__law_row)
  f__law_digits : Addr
  d__law_digits : FuncData
  F__law_digits : Fun K "_law_digits" "_law_digits" s__law_digits f__law_digits d__law_digits
  b__law_digits : Binds K d__law_digits ["row", "sizes"] []
  g__law_digits : mg "_law_digits" = some (.ref f__law_digits)
  f__law_sign : Addr
  d__law_sign : FuncData
  F__law_sign : Fun K "_law_sign" "_law_sign" s__law_sign f__law_sign d__law_sign
  b__law_sign : Binds K d__law_sign ["number"] []
  g__law_sign : mg "_law_sign" = some (.ref f__law_sign)
  f__law_text : Addr
  d__law_text : FuncData
  F__law_text : Fun K "_law_text" "_law_text" s__law_text f__law_text d__law_text
  b__law_text : Binds K d__law_text ["row", "count"] []
  g__law_text : mg "_law_text" = some (.ref f__law_text)
  f__law_key : Addr
  d__law_key : FuncData
  F__law_key : Fun K "_law_key" "_law_key" s__law_key f__law_key d__law_key
  b__law_key : Binds K d__law_key ["row", "most"] []
  g__law_key : mg "_law_key" = some (.ref f__law_key)
  f__law_is : Addr
  d__law_is : FuncData
  F__law_is : Fun K "_law_is" "_law_is" s__law_is f__law_is d__law_is
  b__law_is : Binds K d__law_is ["actual", "due"] []
  g__law_is : mg "_law_is" = some (.ref f__law_is)
  f__law_is_key : Addr
  d__law_is_key : FuncData
  F__law_is_key : Fun K "_law_is_key" "_law_is_key" s__law_is_key f__law_is_key d__law_is_key
  b__law_is_key : Binds K d__law_is_key ["data"] []
  g__law_is_key : mg "_law_is_key" = some (.ref f__law_is_key)
  f__law_codes : Addr
  d__law_codes : FuncData
  F__law_codes : Fun K "_law_codes" "_law_codes" s__law_codes f__law_codes d__law_codes
  b__law_codes : Binds K d__law_codes ["key"] []
  g__law_codes : mg "_law_codes" = some (.ref f__law_codes)
  f__law_drawn_key : Addr
  d__law_drawn_key : FuncData
  F__law_drawn_key : Fun K "_law_drawn_key" "_law_drawn_key" s__law_drawn_key f__law_drawn_key d__law_drawn_key
  b__law_drawn_key : Binds K d__law_drawn_key ["row"] []
  g__law_drawn_key : mg "_law_drawn_key" = some (.ref f__law_drawn_key)
  f__law_number : Addr
  d__law_number : FuncData
  F__law_number : Fun K "_law_number" "_law_number" s__law_number f__law_number d__law_number
  b__law_number : Binds K d__law_number ["row"] []
  g__law_number : mg "_law_number" = some (.ref f__law_number)
  f__law_kinds_hold : Addr
  d__law_kinds_hold : FuncData
  F__law_kinds_hold : Fun K "_law_kinds_hold" "_law_kinds_hold" s__law_kinds_hold f__law_kinds_hold d__law_kinds_hold
  b__law_kinds_hold : Binds K d__law_kinds_hold ["script", "k"] []
  g__law_kinds_hold : mg "_law_kinds_hold" = some (.ref f__law_kinds_hold)
  f_law : Addr
  d_law : FuncData
  F_law : Fun K "law" "law" s_law f_law d_law
  b_law : Binds K d_law ["script"] []
  g_law : mg "law" = some (.ref f_law)
  m_all : mg "all" = none
  m_bool : mg "bool" = none
  m_int : mg "int" = none
  m_isinstance : mg "isinstance" = none
  m_len : mg "len" = none
  m_ord : mg "ord" = none
  m_range : mg "range" = none
  m_sorted : mg "sorted" = none
  m_str : mg "str" = none
  m_tuple : mg "tuple" = none
section
variable {P : Program} {w : World} {K : PySem.W.Frag} {mg : Str → Option Value} {base : Heap}
def sp__law_row (K : PySem.W.Frag) : Sp := fun vs H Q _ => ∃ (a : Addr) (k : Int) (ns : List Int), vs = [.ref a, .int k] ∧ SqL K H a (ns.map V.int) ∧ ns.length ≤ 63 ∧ 0 ≤ k ∧ k ≤ 1000 ∧ ∀ n : Int, 0 ≤ n → Q (.int n) H
theorem ok__law_row (T : Txt K mg) : FnOk P w K mg base CX0 1 T.f__law_row T.d__law_row ["script", "k"] (sp__law_row K) := by
  refine T.F__law_row.ok sc__law_row (fun vs H Q E h => ?_) (fun cdv A outer s H vs Q E hr h => ?_)
  · obtain ⟨a, k, ns, rfl, _⟩ := h
    rfl
  obtain ⟨a, k, ns, rfl, hS, hl, hk, hk2, q⟩ := h
  refine ⟨_, (pss_cons (ps_set (i := 2) sc__law_row.nd rfl (Or.inl rfl) (pe_int))
      (Evl.pss_cut (ps_if (pt_cmpR op_gt (pe_callB (Xk.k_len (K := K) (by rfl)) (by rfl) T.m_len PySem.boot_len (pa_cons (pv 0) pa_nil)) (pe_int) (nomark _)) (pss_one (ps_set (i := 2) sc__law_row.nd rfl (Or.inl rfl) (pe_ix (Xk.k_ixL (K := K) (by rfl)) (pv 0) (pe_op op_mod (pe_callTy Xk.call_nInt (by rfl) T.m_int (by decide +kernel) (pa_cons (pv 1) pa_nil)) (pe_callB (Xk.k_len (K := K) (by rfl)) (by rfl) T.m_len PySem.boot_len (pa_cons (pv 0) pa_nil))) (fun _ _ => rfl)))) pss_nil)
      (Evl.pss_cut (ps_if (pt_cmpR op_lt (pv 2) (pe_int) (nomark _)) (pss_one (ps_set (i := 2) sc__law_row.nd rfl (Or.inl rfl) (pe_op op_sub (pe_int) (pe_op op_mul (pe_int) (pv 2))))) pss_nil)
      (Evl.pss_cut (ps_if (PW.pt (pw_and (pt_cmpR op_ge (pv 2) (pe_op op_pow (pe_int) (pe_int)) (nomark _)) (pw_and1 (pt_cmpR op_lt (pv 1) (pe_callB (Xk.k_len (K := K) (by rfl)) (by rfl) T.m_len PySem.boot_len (pa_cons (pv 0) pa_nil)) (nomark _))))) (pss_one (ps_ret (pv 2))) pss_nil)
      (pss_cons (ps_set (i := 3) sc__law_row.nd rfl (Or.inl rfl) (pe_op op_mod (pe_callTy Xk.call_nInt (by rfl) T.m_int (by decide +kernel) (pa_cons (pe_op op_add (pe_op op_add (pe_op op_mul (pv 2) (pe_int)) (pe_op op_mul (pe_op op_add (pv 1) (pe_int)) (pe_int))) (pe_callB (Xk.k_len (K := K) (by rfl)) (by rfl) T.m_len PySem.boot_len (pa_cons (pv 0) pa_nil))) pa_nil)) (pe_int)))
      (pss_cons (ps_set (i := 4) sc__law_row.nd rfl (Or.inl rfl) (pe_op op_mod (pe_callTy Xk.call_nInt (by rfl) T.m_int (by decide +kernel) (pa_cons (pe_op op_add (pe_op op_add (pe_op op_mul (pv 3) (pv 3)) (pe_op op_mul (pv 2) (pe_int))) (pv 1)) pa_nil)) (pe_int)))
      (pss_one (ps_ret (pe_op op_add (pe_op op_mul (pv 4) (pe_int)) (pe_op op_mod (pe_callTy Xk.call_nInt (by rfl) T.m_int (by decide +kernel) (pa_cons (pe_op op_mul (pv 3) (pe_int)) pa_nil)) (pe_int))))))))))), ?_⟩
  wtm_at "x0"
  wtm_at "xs"
  refine Xk.x_cut (fun σ' H' => H = H' ∧ ∃ c : Int, σ' = [some (.ref a), some (.int k), some (.int c), none, none]) ?_ ?_
  · wtm_at "xs"
    refine Xk.x_itd (fun h => ?_) (fun h => ?_)
    · wtm_at "xs"
      rw [List.length_map] at h ⊢
      have h1 : k % (ns.length : Int) < ns.length := Int.emod_lt_of_pos _ h
      have h2 : 0 ≤ k % (ns.length : Int) := Int.emod_nonneg _ (by omega)
      obtain ⟨j, hj⟩ := Int.eq_ofNat_of_zero_le h2
      rw [hj] at h1 ⊢
      have h3 : j < ns.length := by omega
      refine Xk.x_ixL hS (atI_nat (j := j) (by rw [List.getElem?_map, List.getElem?_eq_getElem h3]; rfl)) ?_
      exact ⟨rfl, _, rfl⟩
    · wtm_at "xs"
      exact ⟨rfl, _, rfl⟩
  rintro σ' H' ⟨rfl, c, rfl⟩
  refine Xk.x_cut (fun σ' H' => H = H' ∧ ∃ c : Int, 0 ≤ c ∧ σ' = [some (.ref a), some (.int k), some (.int c), none, none]) ?_ ?_
  · wtm_at "xs"
    refine Xk.x_itd (fun h => ?_) (fun h => ?_)
    · wtm_at "xs"
      exact ⟨rfl, _, by omega, rfl⟩
    · wtm_at "xs"
      exact ⟨rfl, _, by omega, rfl⟩
  rintro σ' H' ⟨rfl, c, hc, rfl⟩
  refine Xk.x_cut (fun σ' H' => H = H' ∧ σ' = [some (.ref a), some (.int k), some (.int c), none, none]) ?_ ?_
  · wtm_at "xs"
    refine Xk.x_itd (fun h => ?_) (fun h => ?_)
    · wtm_at "xs"
      refine Xk.x_itd (fun h => ?_) (fun h => ?_)
      · wtm_at "xs"
        exact q _ hc
      · wtm_at "xs"
        exact ⟨rfl, rfl⟩
    · wtm_at "xs"
      exact ⟨rfl, rfl⟩
  rintro σ' H' ⟨rfl, rfl⟩
  wtm_at "xs"
  exact q _ (by omega)
def sp__law_digits (K : PySem.W.Frag) : Sp := fun vs H Q _ => ∃ (n : Int) (a : Addr) (zs : List Int), vs = [.int n, .ref a] ∧ SqL K H a (zs.map V.int) ∧ zs.length ≤ 20 ∧ (∀ z ∈ zs, 0 < z ∧ z < 1152921504606846976) ∧
  ∀ (p : Addr) (H2 : Hp) (ds : List Int), Xk.Fr p H → Same H H2 → H2 p = some (.lst (ds.map V.int)) → ds.length = zs.length → (∀ (i : Nat) d z, ds[i]? = some d → zs[i]? = some z → 0 ≤ d ∧ d < z) → Q (.ref p) H2
theorem ok__law_digits (T : Txt K mg) : FnOk P w K mg base CX0 1 T.f__law_digits T.d__law_digits ["row", "sizes"] (sp__law_digits K) := by
  refine T.F__law_digits.ok sc__law_digits (fun vs H Q E h => ?_) (fun cdv A outer s H vs Q E hr h => ?_)
  · obtain ⟨n, a, zs, rfl, _⟩ := h
    rfl
  obtain ⟨n, a, zs, rfl, hS, hl, hz, q⟩ := h
  refine ⟨_, (pss_cons (ps_set (i := 2) sc__law_digits.nd rfl (Or.inl rfl) (pe_lst pa_nil))
      (pss_cons (ps_for PassesOwn.never rfl (pi_list (pv 1)) (pg_name (i := 3) sc__law_digits.nd rfl (Or.inl rfl)) (pss_cons (ps_expr (pe_bm PySem.F.plainAttrs_list PySem.F.slot_list_append PySem.F.type_list_append mt_append (pv 2) (pa_cons (pe_op op_mod (pe_callTy Xk.call_nInt (by rfl) T.m_int (by decide +kernel) (pa_cons (pv 0) pa_nil)) (pv 3)) pa_nil)))
      (pss_one (ps_set (i := 0) sc__law_digits.nd rfl (Or.inl rfl) (pe_op op_fdivW (pv 0) (pv 3))))))
      (pss_one (ps_ret (pv 2))))), ?_⟩
  wtm_at "x0"
  wtm_at "xs"
  intro p H1 hp s1 h1
  wtm_at "xs"
  refine Xk.x_forL (fun i σ' H' => ∃ y n ds, σ' = [some (.int n), some (.ref a), some (.ref p), y] ∧ Same H H' ∧ H' p = some (.lst (ds.map V.int)) ∧ ds.length = i ∧ (∀ (i : Nat) d z, ds[i]? = some d → zs[i]? = some z → 0 ≤ d ∧ d < z)) (by wtm_at "sq") ⟨_, _, [], rfl, s1, h1, rfl, by simp⟩ ?_ ?_ ?_
  · rintro i σ' H' hi ⟨y, n, ds, rfl, s2, h2, hd, hw⟩
    wtm_at "sq"
  · rintro i x σ' H' hi ⟨y, n, ds, rfl, s2, h2, hd, hw⟩
    rw [List.getElem?_map] at hi
    obtain ⟨z, ho, rfl⟩ := Option.map_eq_some_iff.mp hi
    have hz1 := hz z (List.mem_of_getElem? ho)
    have hi2 := (List.getElem?_eq_some_iff.mp ho).1
    wtm_at "xs"
    refine Xk.x_I (wide_div (b := 60) (by omega) (by omega) (by decide) (by decide)) ?_
    wtm_at "xs"
    refine ⟨_, _, ds ++ [n % z], rfl, by wtm_at "sm", ?_, by rw [List.length_append]; simp [hd], ?_⟩
    · rw [upd_same, List.map_append]
      rfl
    · intro j d z' h3 h4
      by_cases hj : j < ds.length
      · rw [List.getElem?_append_left hj] at h3
        exact hw j d z' h3 h4
      · have hj2 : j = i := by
          have h5 := (List.getElem?_eq_some_iff.mp h3).1
          simp at h5
          omega
        subst hj2
        rw [List.getElem?_append_right (by omega), hd, Nat.sub_self] at h3
        have e1 : n % z = d := Option.some.inj h3
        have e2 : z = z' := Option.some.inj (ho.symm.trans h4)
        subst e2 e1
        exact ⟨Int.emod_nonneg _ (by omega), Int.emod_lt_of_pos _ (by omega)⟩
  · rintro σ' H' ⟨y, n, ds, rfl, s2, h2, hd, hw⟩
    wtm_at "xs"
    rw [List.length_map] at hd
    exact q p _ ds hp s2 h2 hd hw
--CUT--
/-! ### signs, keys, values, deeds -/
def lowS : Str := " !\"#$"
def highS : Str := "&'()*+,-./0123456789:;<=>?@ABCDEFGHIJKLMNOPQRSTUVWXYZ[\\]^_`abcdefghijklmnopqrstuvwxyz{|}~"
def alphS : Str := "abcdefghijklmnopqrstuvwxyz0123456789"
def tx (c : Nat) : Bool := decide (c ∈ lowS.cps.toList) || decide (c ∈ highS.cps.toList)
def al (c : Nat) : Bool := decide (c ∈ alphS.cps.toList)
def isKey : V → Bool
  | .str s => decide (1 ≤ s.length) && (decide (s.length ≤ 8) && Xk.AllC al s)
  | _ => false
def isInt (m : Int) : V → Bool
  | .int i => decide (-m ≤ i) && decide (i ≤ m)
  | _ => false
def isVal : V → Bool
  | .str s => decide (s.length ≤ 20) && Xk.AllC tx s
  | v => isInt (10 ^ 15) v
/-- what may be asked whether it is a deed, a key, a value -/
def Kd (H : Hp) (v : V) : Prop := v = .non ∨ (∃ i, v = .int i) ∨ (∃ s : Str, v = .str s ∧ s.length ≤ 1000) ∨ ∃ a xs, v = .ref a ∧ H a = some (.tup xs) ∧ xs.length ≤ 100
theorem Kd.same {H H' : Hp} {v : V} (h : Kd H v) (e : Same H H') : Kd H' v := by
  rcases h with h | h | h | ⟨a, xs, h1, h2, h3⟩
  · exact .inl h
  · exact .inr (.inl h)
  · exact .inr (.inr (.inl h))
  · exact .inr (.inr (.inr ⟨a, xs, h1, e _ _ h2, h3⟩))
def sp_is_text (K : PySem.W.Frag) : Sp := fun vs H Q _ => ∃ s : Str, vs = [.str s] ∧ s.length ≤ 1000 ∧ ∀ H', Same H H' → Q (.bl (Xk.AllC tx s)) H'
theorem ok_is_text (T : Txt K mg) : FnOk P w K mg base CX0 1 T.f_is_text T.d_is_text ["data"] (sp_is_text K) := by
  refine T.F_is_text.ok sc_is_text (fun vs H Q E h => ?_) (fun cdv A outer s H vs Q E hr h => ?_)
  · obtain ⟨s, rfl, _⟩ := h
    rfl
  obtain ⟨s', rfl, hl, q⟩ := h
  refine ⟨_, (pss_one (ps_ret ((pe_and (pe_callB (Xk.k_isi (K := K) (by rfl)) (by rfl) T.m_isinstance (by decide +kernel) (pa_cons (pv 0) (pa_cons (pe_bltn (v := .ty "str") (u := .type "str") (by rfl) T.m_str (by decide +kernel) Xk.rel_ty) pa_nil))) (pe_one (pe_callB (Xk.k_all (K := K) rfl (by rfl)) (by rfl) T.m_all (by decide +kernel) (pa_cons (pe_lc (own := [("sign", 1)]) (g := gName 1) (tt := tYes) rfl sc_is_text.nd  (pi_str (pv 0)) (blkOk_by (N := N_is_text) (sc := defScope s_is_text) (own := [("sign", 1)]) (by decide +kernel)) (fun _ _ _ _ _ => pg_name (i := 1) sc_is_text.nd rfl (Or.inl rfl)) (fun _ _ _ _ _ => pts_nil) (fun _ _ _ _ _ => ((pe_or (pe_cmpR Xk.op_nInS (pv 1) (pe_glob (by rfl) T.g_LOW_SIGNS Xk.rel_str) (by rfl)) (pe_one (pe_cmpR Xk.op_nInS (pv 1) (pe_glob (by rfl) T.g_HIGH_SIGNS Xk.rel_str) (by rfl))))))) pa_nil))))))), ?_⟩
  wtm_at "x0"
  wtm_at "xs"
  refine Xk.x_lcS (fun Dl i H' => Same H H' ∧ ∃ bs : List Bool, H' Dl = some (.lst (bs.map V.bl)) ∧ bs = (s'.cps.toList.take i).map tx) ?_ ?_ ?_
  · intro Dl hD
    exact ⟨Xk.same_fr hD, [], upd_same, rfl⟩
  · rintro Dl hD i c H' hi ⟨s2, bs, h2, hb⟩
    have hi2 := Xk.at_lt hi
    wtm_at "xs"
    refine ⟨rfl, ?_⟩
    wtm_at "xs"
    have sz : (bs.map V.bl).length < sizeLine := Xk.size_lt (by rw [hb]; simp only [List.length_map, List.length_take]; have : s'.length = s'.cps.toList.length := rfl; omega)
    have nx : ∀ b : Bool, b = tx c → Same H (upd H' Dl (.lst (bs.map V.bl ++ [V.bl b]))) ∧ ∃ bs' : List Bool, upd H' Dl (.lst (bs.map V.bl ++ [V.bl b])) Dl = some (.lst (bs'.map V.bl)) ∧ bs' = (s'.cps.toList.take (i + 1)).map tx := fun b hb2 => by
      refine ⟨Xk.same_mut s2 hD, bs ++ [b], by rw [upd_same, Xk.snoc_map], ?_⟩
      rw [List.take_add_one, hi, hb, List.map_append, hb2]
      rfl
    refine Xk.x_itd (fun h => ?_) (fun h => ?_)
    · exact ⟨_, h2, sz, nx true (by unfold tx; rw [decide_eq_true (show c ∈ lowS.cps.toList from h)]; rfl)⟩
    · wtm_at "xs"
      exact ⟨_, h2, sz, nx _ (by unfold tx; rw [decide_eq_false (show ¬ c ∈ lowS.cps.toList from h)]; rfl)⟩
  · rintro Dl H' hD ⟨s2, bs, h2, hb⟩
    wtm_at "xs"
    refine Xk.x_all (bs := bs) (by wtm_at "sq") ?_
    have e : bs.all id = Xk.AllC tx s' := by
      rw [hb, List.take_of_length_le (show s'.cps.toList.length ≤ s'.length from Nat.le_refl _), List.all_map]
      rfl
    rw [e]
    exact q _ s2
def sp_is_key (K : PySem.W.Frag) : Sp := fun vs H Q _ => ∃ v, vs = [v] ∧ Kd H v ∧ ∀ H', Same H H' → Q (.bl (isKey v)) H'
theorem ok_is_key (T : Txt K mg) : FnOk P w K mg base CX0 1 T.f_is_key T.d_is_key ["data"] (sp_is_key K) := by
  refine T.F_is_key.ok sc_is_key (fun vs H Q E h => ?_) (fun cdv A outer s H vs Q E hr h => ?_)
  · obtain ⟨v, rfl, _⟩ := h
    rfl
  obtain ⟨v, rfl, hk, q⟩ := h
  refine ⟨_, (Evl.pss_cut (ps_if (PW.pt (pw_or (pt_not (pt_val (pe_callB (Xk.k_isi (K := K) (by rfl)) (by rfl) T.m_isinstance (by decide +kernel) (pa_cons (pv 0) (pa_cons (pe_bltn (v := .ty "str") (u := .type "str") (by rfl) T.m_str (by decide +kernel) Xk.rel_ty) pa_nil))))) (pw_or1 (pt_not (pt_chain op_le op_le (pe_int) (pe_callB Xk.call_nLenS (by rfl) T.m_len PySem.boot_len (pa_cons (pv 0) pa_nil)) (pe_glob (by rfl) T.g_KEY_SIGNS Xk.rel_int)))))) (pss_one (ps_ret (pe_bl))) pss_nil)
      (pss_one (ps_ret (pe_callB (Xk.k_all (K := K) rfl (by rfl)) (by rfl) T.m_all (by decide +kernel) (pa_cons (pe_lc (own := [("sign", 1)]) (g := gName 1) (tt := tYes) rfl sc_is_key.nd  (pi_str (pv 0)) (blkOk_by (N := N_is_key) (sc := defScope s_is_key) (own := [("sign", 1)]) (by decide +kernel)) (fun _ _ _ _ _ => pg_name (i := 1) sc_is_key.nd rfl (Or.inl rfl)) (fun _ _ _ _ _ => pts_nil) (fun _ _ _ _ _ => (pe_cmpR Xk.op_nInS (pv 1) (pe_glob (by rfl) T.g_KEY_ALPHABET Xk.rel_str) (by rfl)))) pa_nil))))), ?_⟩
  wtm_at "x0"
  refine Xk.x_nocut ?_
  rcases hk with rfl | ⟨i, rfl⟩ | ⟨s', rfl, hl⟩ | ⟨a, xs, rfl, ha, hl⟩
  · wtm_at "xs"
    exact q _ (Same.refl _)
  · wtm_at "xs"
    exact q _ (Same.refl _)
  · wtm_at "xs"
    refine Xk.x_itd (fun h1 => ?_) (fun h1 => ?_)
    · wtm_at "xs"
      refine Xk.x_itnb (fun h2 => ?_) (fun h2 => ?_)
      · wtm_at "xs"
        have e : isKey (.str s') = false := by
          have h3 := of_decide_eq_false h2
          show (decide (1 ≤ s'.length) && (decide (s'.length ≤ 8) && _)) = false
          rw [show decide (s'.length ≤ 8) = false from decide_eq_false (by omega)]
          simp
        rw [e] at q
        exact q _ (Same.refl _)
      · have h3 := of_decide_eq_true h2
        wtm_at "xs"
        refine Xk.x_lcS (fun Dl i H' => Same H H' ∧ ∃ bs : List Bool, H' Dl = some (.lst (bs.map V.bl)) ∧ bs = (s'.cps.toList.take i).map al) ?_ ?_ ?_
        · intro Dl hD
          exact ⟨Xk.same_fr hD, [], upd_same, rfl⟩
        · rintro Dl hD i c H' hi ⟨s2, bs, h4, hb⟩
          have hi2 := Xk.at_lt hi
          wtm_at "xs"
          refine ⟨rfl, ?_⟩
          wtm_at "xs"
          have sz : (bs.map V.bl).length < sizeLine := Xk.size_lt (by rw [hb]; simp only [List.length_map, List.length_take]; have : s'.length = s'.cps.toList.length := rfl; omega)
          refine ⟨_, h4, sz, Xk.same_mut s2 hD, bs ++ [al c], by rw [upd_same, Xk.snoc_map]; rfl, ?_⟩
          rw [List.take_add_one, hi, hb, List.map_append]
          rfl
        · rintro Dl H' hD ⟨s2, bs, h4, hb⟩
          wtm_at "xs"
          refine Xk.x_all (bs := bs) (by wtm_at "sq") ?_
          have e : bs.all id = isKey (.str s') := by
            rw [hb, List.take_of_length_le (show s'.cps.toList.length ≤ s'.length from Nat.le_refl _), List.all_map]
            show _ = (decide (1 ≤ s'.length) && (decide (s'.length ≤ 8) && Xk.AllC al s'))
            rw [show decide (1 ≤ s'.length) = true from decide_eq_true (by omega), show decide (s'.length ≤ 8) = true from decide_eq_true (by omega)]
            rfl
          rw [e]
          exact q _ s2
    · wtm_at "xs"
      have e : isKey (.str s') = false := by
        show (decide (1 ≤ s'.length) && (decide (s'.length ≤ 8) && _)) = false
        rw [show decide (1 ≤ s'.length) = false from decide_eq_false (by omega)]
        rfl
      rw [e] at q
      exact q _ (Same.refl _)
  · wtm_at "xs"
    exact q _ (Same.refl _)
def isI : V → Bool
  | .int _ => true
  | _ => false
def sp_is_integer (K : PySem.W.Frag) : Sp := fun vs H Q _ => ∃ v, vs = [v] ∧ Kd H v ∧ Q (.bl (isI v)) H
theorem ok_is_integer (T : Txt K mg) : FnOk P w K mg base CX0 1 T.f_is_integer T.d_is_integer ["data"] (sp_is_integer K) := by
  refine T.F_is_integer.ok sc_is_integer (fun vs H Q E h => ?_) (fun cdv A outer s H vs Q E hr h => ?_)
  · obtain ⟨v, rfl, _⟩ := h
    rfl
  obtain ⟨v, rfl, hk, q⟩ := h
  refine ⟨_, (pss_one (ps_ret ((pe_and (pe_callB (Xk.k_isi (K := K) (by rfl)) (by rfl) T.m_isinstance (by decide +kernel) (pa_cons (pv 0) (pa_cons (pe_bltn (v := .ty "int") (u := .type "int") (by rfl) T.m_int (by decide +kernel) Xk.rel_ty) pa_nil))) (pe_one (pe_not (pe_callB (Xk.k_isi (K := K) (by rfl)) (by rfl) T.m_isinstance (by decide +kernel) (pa_cons (pv 0) (pa_cons (pe_bltn (v := .ty "bool") (u := .type "bool") (by rfl) T.m_bool (by decide +kernel) Xk.rel_ty) pa_nil))))))))), ?_⟩
  wtm_at "x0"
  rcases hk with rfl | ⟨i, rfl⟩ | ⟨s', rfl, hl⟩ | ⟨a, xs, rfl, ha, hl⟩
  · wtm_at "xs"
    exact q
  · wtm_at "xs"
    exact q
  · wtm_at "xs"
    exact q
  · wtm_at "xs"
    exact q
def sp_is_integer_within (K : PySem.W.Frag) : Sp := fun vs H Q _ => ∃ v m, vs = [v, .int m] ∧ Kd H v ∧ Q (.bl (isInt m v)) H
theorem ok_is_integer_within (T : Txt K mg) : FnOk P w K mg base CX0 2 T.f_is_integer_within T.d_is_integer_within ["data", "most"] (sp_is_integer_within K) := by
  refine T.F_is_integer_within.ok sc_is_integer_within (fun vs H Q E h => ?_) (fun cdv A outer s H vs Q E hr h => ?_)
  · obtain ⟨v, m, rfl, _⟩ := h
    rfl
  obtain ⟨v, m, rfl, hk, q⟩ := h
  refine ⟨_, (pss_one (ps_ret ((pe_and (pe_call (ok_is_integer T) (hr.mono (by decide)) (by rfl) T.g_is_integer T.F_is_integer.kp T.b_is_integer .nil pass0 (pa_cons (pv 0) pa_nil)) (pe_one (pe_chain op_le op_le (pe_un un_neg (pv 1)) (pv 0) (pv 1))))))), ?_⟩
  wtm_at "x0"
  rcases hk with rfl | ⟨i, rfl⟩ | ⟨s', rfl, hl⟩ | ⟨a, xs, rfl, ha, hl⟩
  · wtm_at "xs"
    refine ⟨_, rfl, .inl rfl, ?_⟩
    dsimp only [isI]
    wtm_at "xs"
    exact q
  · wtm_at "xs"
    refine ⟨_, rfl, .inr (.inl ⟨_, rfl⟩), ?_⟩
    dsimp only [isI]
    wtm_at "xs"
    refine Xk.x_itd (fun h1 => ?_) (fun h1 => ?_)
    · wtm_at "xs"
      have e : isInt m (.int i) = decide (i ≤ m) := by
        show (decide (-m ≤ i) && decide (i ≤ m)) = _
        rw [decide_eq_true h1]
        rfl
      rw [e] at q
      exact q
    · have e : isInt m (.int i) = false := by
        show (decide (-m ≤ i) && decide (i ≤ m)) = _
        rw [decide_eq_false h1]
        rfl
      rw [e] at q
      exact q
  · wtm_at "xs"
    refine ⟨_, rfl, .inr (.inr (.inl ⟨_, rfl, hl⟩)), ?_⟩
    dsimp only [isI]
    wtm_at "xs"
    exact q
  · wtm_at "xs"
    refine ⟨_, rfl, .inr (.inr (.inr ⟨_, _, rfl, ha, hl⟩)), ?_⟩
    dsimp only [isI]
    wtm_at "xs"
    exact q
def sp_is_value (K : PySem.W.Frag) : Sp := fun vs H Q _ => ∃ v, vs = [v] ∧ Kd H v ∧ ∀ H', Same H H' → Q (.bl (isVal v)) H'
theorem ok_is_value (T : Txt K mg) : FnOk P w K mg base CX0 3 T.f_is_value T.d_is_value ["data"] (sp_is_value K) := by
  refine T.F_is_value.ok sc_is_value (fun vs H Q E h => ?_) (fun cdv A outer s H vs Q E hr h => ?_)
  · obtain ⟨v, rfl, _⟩ := h
    rfl
  obtain ⟨v, rfl, hk, q⟩ := h
  refine ⟨_, (Evl.pss_cut (ps_if (pt_val (pe_callB (Xk.k_isi (K := K) (by rfl)) (by rfl) T.m_isinstance (by decide +kernel) (pa_cons (pv 0) (pa_cons (pe_bltn (v := .ty "str") (u := .type "str") (by rfl) T.m_str (by decide +kernel) Xk.rel_ty) pa_nil)))) (pss_one (ps_ret ((pe_and (pe_cmpR op_le (pe_callB Xk.call_nLenS (by rfl) T.m_len PySem.boot_len (pa_cons (pv 0) pa_nil)) (pe_glob (by rfl) T.g_VALUE_SIGNS Xk.rel_int) (nomark _)) (pe_one (pe_call (ok_is_text T) (hr.mono (by decide)) (by rfl) T.g_is_text T.F_is_text.kp T.b_is_text .nil pass0 (pa_cons (pv 0) pa_nil))))))) pss_nil)
      (pss_one (ps_ret (pe_call (ok_is_integer_within T) (hr.mono (by decide)) (by rfl) T.g_is_integer_within T.F_is_integer_within.kp T.b_is_integer_within .nil pass0 (pa_cons (pv 0) (pa_cons (pe_glob (by rfl) T.g_MOST_VALUE Xk.rel_int) pa_nil)))))), ?_⟩
  wtm_at "x0"
  refine Xk.x_nocut ?_
  rcases hk with rfl | ⟨i, rfl⟩ | ⟨s', rfl, hl⟩ | ⟨a, xs, rfl, ha, hl⟩
  · wtm_at "xs"
    exact ⟨_, _, rfl, .inl rfl, q _ (Same.refl _)⟩
  · wtm_at "xs"
    exact ⟨_, _, rfl, .inr (.inl ⟨_, rfl⟩), q _ (Same.refl _)⟩
  · wtm_at "xs"
    refine Xk.x_itd (fun h1 => ?_) (fun h1 => ?_)
    · wtm_at "xs"
      refine ⟨_, rfl, hl, fun H' s1 => ?_⟩
      have e : isVal (.str s') = Xk.AllC tx s' := by
        show (decide (s'.length ≤ 20) && Xk.AllC tx s') = _
        rw [decide_eq_true (show s'.length ≤ 20 by omega)]
        rfl
      rw [e] at q
      exact q _ s1
    · have e : isVal (.str s') = false := by
        show (decide (s'.length ≤ 20) && Xk.AllC tx s') = _
        rw [decide_eq_false (show ¬ s'.length ≤ 20 by omega)]
        rfl
      rw [e] at q
      exact q _ (Same.refl _)
  · wtm_at "xs"
    exact ⟨_, _, rfl, .inr (.inr (.inr ⟨a, xs, rfl, ha, hl⟩)), q _ (Same.refl _)⟩
--CUT--
def signS : Str := " !\"#$&'()*+,-./0123456789:;<=>?@ABCDEFGHIJKLMNOPQRSTUVWXYZ[\\]^_`abcdefghijklmnopqrstuvwxyz{|}~"
def sp__law_sign (K : PySem.W.Frag) : Sp := fun vs H Q _ => ∃ n : Int, vs = [.int n] ∧ 0 ≤ n ∧ ∀ c, tx c = true → Q (.str ⟨#[c]⟩) H
theorem ok__law_sign (T : Txt K mg) : FnOk P w K mg base CX0 1 T.f__law_sign T.d__law_sign ["number"] (sp__law_sign K) := by
  refine T.F__law_sign.ok sc__law_sign (fun vs H Q E h => ?_) (fun cdv A outer s H vs Q E hr h => ?_)
  · obtain ⟨n, rfl, _⟩ := h
    rfl
  obtain ⟨n, rfl, hn, q⟩ := h
  refine ⟨_, (pss_cons (ps_set (i := 1) sc__law_sign.nd rfl (Or.inl rfl) (pe_str))
      (pss_one (ps_ret (pe_ix ix_str (pv 1) (pe_op op_mod (pe_callTy Xk.call_nInt (by rfl) T.m_int (by decide +kernel) (pa_cons (pv 0) pa_nil)) (pe_int)) (fun _ _ => rfl))))), ?_⟩
  wtm_at "x0"
  wtm_at "xs"
  obtain ⟨j, hj⟩ := Int.eq_ofNat_of_zero_le (Int.emod_nonneg n (show (94 : Int) ≠ 0 by decide))
  have hj2 := Int.emod_lt_of_pos n (show (0 : Int) < 94 by decide)
  obtain ⟨c, hc⟩ := Xk.lt_at (xs := signS.cps.toList) (j := j) (by rw [show signS.cps.toList.length = 94 by decide +kernel]; omega)
  refine Xk.x_ixS (c := c) (by decide +kernel) (show atI signS.cps.toList _ = some c from Xk.at_nat hj hc) ?_
  exact q c (List.all_eq_true.mp (show signS.cps.toList.all tx = true by decide +kernel) c (List.mem_of_getElem? hc))
theorem one_len (c : Nat) : (⟨#[c]⟩ : Str).length = 1 := rfl
theorem one_all {p : Nat → Bool} {c : Nat} (h : p c = true) : Xk.AllC p ⟨#[c]⟩ = true := by
  unfold Xk.AllC
  simp [h]
theorem nil_all (p : Nat → Bool) : Xk.AllC p "" = true := rfl
def sp__law_text (K : PySem.W.Frag) : Sp := fun vs H Q _ => ∃ n c : Int, vs = [.int n, .int c] ∧ 0 ≤ n ∧ 0 ≤ c ∧ c ≤ 100 ∧ ∀ s, Xk.AllC tx s = true → (s.length : Int) = c → Q (.str s) H
theorem ok__law_text (T : Txt K mg) : FnOk P w K mg base CX0 2 T.f__law_text T.d__law_text ["row", "count"] (sp__law_text K) := by
  refine T.F__law_text.ok sc__law_text (fun vs H Q E h => ?_) (fun cdv A outer s H vs Q E hr h => ?_)
  · obtain ⟨n, c, rfl, _⟩ := h
    rfl
  obtain ⟨n, c, rfl, hn, h0, h1, q⟩ := h
  refine ⟨_, (pss_cons (ps_set (i := 2) sc__law_text.nd rfl (Or.inl rfl) (pe_str))
      (pss_cons (ps_set (i := 3) sc__law_text.nd rfl (Or.inl rfl) (pe_callTy Xk.call_nInt (by rfl) T.m_int (by decide +kernel) (pa_cons (pv 0) pa_nil)))
      (pss_cons (ps_for PassesOwn.never rfl (pi_range1 (by rfl) T.m_range (pa_cons (pv 1) pa_nil)) (pg_name (i := 4) sc__law_text.nd rfl (Or.inl rfl)) (pss_cons (ps_set (i := 2) sc__law_text.nd rfl (Or.inl rfl) (pe_op Xk.op_nAddS (pv 2) (pe_call (ok__law_sign T) (hr.mono (by decide)) (by rfl) T.g__law_sign T.F__law_sign.kp T.b__law_sign .nil pass0 (pa_cons (pe_op op_fdiv (pv 3) (pe_int)) pa_nil))))
      (pss_one (ps_set (i := 3) sc__law_text.nd rfl (Or.inl rfl) (pe_op op_add (pe_op op_add (pe_op op_fdiv (pv 3) (pe_int)) (pe_op op_mul (pe_op op_mod (pv 3) (pe_int)) (pe_int))) (pv 4))))))
      (pss_one (ps_ret (pv 2)))))), ?_⟩
  wtm_at "x0"
  wtm_at "xs"
  refine Xk.x_range (fun i σ' H' => ∃ (s : Str) (r : Int) (y : Option V), σ' = [some (.int n), some (.int c), some (.str s), some (.int r), y] ∧ H = H' ∧ Xk.AllC tx s = true ∧ s.length = i ∧ 0 ≤ r) ⟨by omega, by omega⟩ ⟨_, _, _, rfl, rfl, nil_all _, rfl, hn⟩ ?_ ?_
  · rintro i σ' H' hi ⟨s', r, y, rfl, rfl, hs, hl, hr0⟩
    wtm_at "xs"
    refine ⟨_, rfl, by omega, fun ch hch => ?_⟩
    refine Xk.x_nAddS (by rw [one_len]; omega) ?_
    wtm_at "xs"
    exact ⟨_, _, _, rfl, rfl, Xk.allC_add hs (one_all hch), by rw [Xk.len_add, one_len, hl], by omega⟩
  · rintro σ' H' ⟨s', r, y, rfl, rfl, hs, hl, hr0⟩
    wtm_at "xs"
    exact q s' hs (by omega)
def sp__law_key (K : PySem.W.Frag) : Sp := fun vs H Q _ => ∃ n m : Int, vs = [.int n, .int m] ∧ 0 ≤ n ∧ 1 ≤ m ∧ m ≤ 8 ∧ ∀ s, Xk.AllC al s = true → 1 ≤ s.length → (s.length : Int) ≤ m → Q (.str s) H
theorem ok__law_key (T : Txt K mg) : FnOk P w K mg base CX0 1 T.f__law_key T.d__law_key ["row", "most"] (sp__law_key K) := by
  refine T.F__law_key.ok sc__law_key (fun vs H Q E h => ?_) (fun cdv A outer s H vs Q E hr h => ?_)
  · obtain ⟨n, m, rfl, _⟩ := h
    rfl
  obtain ⟨n, m, rfl, hn, h0, h1, q⟩ := h
  refine ⟨_, (pss_cons (ps_set (i := 2) sc__law_key.nd rfl (Or.inl rfl) (pe_str))
      (pss_cons (ps_set (i := 3) sc__law_key.nd rfl (Or.inl rfl) (pe_op op_add (pe_int) (pe_op op_mod (pe_callTy Xk.call_nInt (by rfl) T.m_int (by decide +kernel) (pa_cons (pv 0) pa_nil)) (pv 1))))
      (pss_cons (ps_set (i := 4) sc__law_key.nd rfl (Or.inl rfl) (pe_op op_fdiv (pe_callTy Xk.call_nInt (by rfl) T.m_int (by decide +kernel) (pa_cons (pv 0) pa_nil)) (pe_int)))
      (pss_cons (ps_set (i := 5) sc__law_key.nd rfl (Or.inl rfl) (pe_str))
      (pss_cons (ps_for PassesOwn.never rfl (pi_range1 (by rfl) T.m_range (pa_cons (pv 3) pa_nil)) (pg_name (i := 6) sc__law_key.nd rfl (Or.inl rfl)) (pss_cons (ps_set (i := 5) sc__law_key.nd rfl (Or.inl rfl) (pe_op Xk.op_nAddS (pv 5) (pe_ix ix_str (pv 2) (pe_op op_mod (pe_callTy Xk.call_nInt (by rfl) T.m_int (by decide +kernel) (pa_cons (pv 4) pa_nil)) (pe_int)) (fun _ _ => rfl))))
      (pss_one (ps_set (i := 4) sc__law_key.nd rfl (Or.inl rfl) (pe_op op_add (pe_op op_fdiv (pv 4) (pe_int)) (pe_op op_mul (pe_int) (pv 6)))))))
      (pss_one (ps_ret (pv 5)))))))), ?_⟩
  wtm_at "x0"
  wtm_at "xs"
  have e1 := Int.emod_nonneg n (show m ≠ 0 by omega)
  have e2 := Int.emod_lt_of_pos n (show 0 < m by omega)
  refine Xk.x_range (fun i σ' H' => ∃ (s : Str) (r : Int) (y : Option V), σ' = [some (.int n), some (.int m), some (.str alphS), some (.int (1 + n % m)), some (.int r), some (.str s), y] ∧ H = H' ∧ Xk.AllC al s = true ∧ s.length = i ∧ 0 ≤ r) ⟨by omega, by omega⟩ ⟨_, _, _, rfl, rfl, nil_all _, rfl, by omega⟩ ?_ ?_
  · rintro i σ' H' hi ⟨s', r, y, rfl, rfl, hs, hl, hr0⟩
    wtm_at "xs"
    obtain ⟨j, hj⟩ := Int.eq_ofNat_of_zero_le (Int.emod_nonneg r (show (36 : Int) ≠ 0 by decide))
    have hj2 := Int.emod_lt_of_pos r (show (0 : Int) < 36 by decide)
    obtain ⟨c, hc⟩ := Xk.lt_at (xs := alphS.cps.toList) (j := j) (by rw [show alphS.cps.toList.length = 36 by decide +kernel]; omega)
    refine Xk.x_ixS (c := c) (by decide +kernel) (show atI alphS.cps.toList _ = some c from Xk.at_nat hj hc) ?_
    have hch : al c = true := decide_eq_true (List.mem_of_getElem? hc)
    refine Xk.x_nAddS (by rw [one_len]; omega) ?_
    wtm_at "xs"
    exact ⟨_, _, _, rfl, rfl, Xk.allC_add hs (one_all hch), by rw [Xk.len_add, one_len, hl], by omega⟩
  · rintro σ' H' ⟨s', r, y, rfl, rfl, hs, hl, hr0⟩
    wtm_at "xs"
    exact q s' hs (by omega) (by omega)
--CUT--
/-! ### ranges -/
def isRng (u v : V) : Bool := (decide (u = .str "") || isKey u) && (decide (v = .non) || isKey v)
theorem eqv_empty {H : Hp} {u : V} {d : PyData} (h : Dp K H u d) : PyData.eqv d (.str "") = decide (u = .str "") := by
  cases h with
  | str x =>
    show (x == "") = _
    by_cases e : x = ""
    · subst e
      simp
    · rw [decide_eq_false (fun z => e (V.str.inj z))]
      exact beq_eq_false_iff_ne.mpr e
  | non => rfl
  | bl b => rfl
  | int i => rfl
  | lst _ _ => rfl
  | tup _ _ => rfl
theorem x_eqE {H : Hp} {Q : VK} {u : V} {d : PyData} (h : Xk.Pk K H 3 u d) (q : Q (.bl (decide (u = .str ""))) H) : rEqD K u (.str "") H Q := by
  have k2 : Xk.Pk K H 3 (.str "") (.str "") := Xk.pk_str (Xk.lay_str rfl)
  refine ⟨_, _, h.1, k2.1, Xk.shaped_of h.lay (Nat.le_trans h.2.2 (by decide)), Xk.shaped_of k2.lay (Nat.le_trans k2.2.2 (by decide)), ?_⟩
  rw [eqv_empty h.1]
  exact q
def sp_is_range (K : PySem.W.Frag) : Sp := fun vs H Q _ => ∃ u v d, vs = [u, v] ∧ Kd H u ∧ Xk.Pk K H 3 u d ∧ Kd H v ∧ ∀ H', Same H H' → Q (.bl (isRng u v)) H'
theorem ok_is_range (T : Txt K mg) : FnOk P w K mg base CX0 2 T.f_is_range T.d_is_range ["start", "end"] (sp_is_range K) := by
  refine T.F_is_range.ok sc_is_range (fun vs H Q E h => ?_) (fun cdv A outer s H vs Q E hr h => ?_)
  · obtain ⟨u, v, d, rfl, _⟩ := h
    rfl
  obtain ⟨u, v, d, rfl, hu, hd, hv, q⟩ := h
  refine ⟨_, (pss_one (ps_ret ((pe_and ((pe_or (pe_cmpR (Xk.k_eqD (K := K) hr.units (by rfl)) (pv 0) (pe_str) (nomark _)) (pe_one (pe_call (ok_is_key T) (hr.mono (by decide)) (by rfl) T.g_is_key T.F_is_key.kp T.b_is_key .nil pass0 (pa_cons (pv 0) pa_nil))))) (pe_one ((pe_or (pe_cmpR Xk.op_nIsN (pv 1) (pe_non) (nomark _)) (pe_one (pe_call (ok_is_key T) (hr.mono (by decide)) (by rfl) T.g_is_key T.F_is_key.kp T.b_is_key .nil pass0 (pa_cons (pv 1) pa_nil)))))))))), ?_⟩
  wtm_at "x0"
  wtm_at "xs"
  refine x_eqE hd ?_
  have snd : ∀ H1, Same H H1 → (decide (u = .str "") || isKey u) = true → tOrV (tOp Xk.nIsN (tVar 1) (tC .non)) (tCall (sp_is_key K) [] E0 (tCons (tVar 1) tNil)) [some u, some v] H1 Q := fun H1 s1 hu2 => by
    have go : ∀ w, w = v → isKey w = isRng u v ∨ w = .non := fun w e => by
      subst e
      by_cases hn : w = .non
      · exact .inr hn
      · refine .inl ?_
        unfold isRng
        rw [hu2, decide_eq_false hn]
        rfl
    rcases hv with rfl | ⟨i, rfl⟩ | ⟨s', rfl, hl⟩ | ⟨a, xs, rfl, ha, hl⟩
    · have e : isRng u .non = true := by
        unfold isRng
        rw [hu2]
        rfl
      rw [e] at q
      wtm_at "xs"
      exact q _ s1
    · have e := (go _ rfl).resolve_right (fun z => by cases z)
      wtm_at "xs"
      refine ⟨_, rfl, .inr (.inl ⟨_, rfl⟩), fun H' s2 => ?_⟩
      rw [e]
      exact q _ (s1.trans s2)
    · have e := (go _ rfl).resolve_right (fun z => by cases z)
      wtm_at "xs"
      refine ⟨_, rfl, .inr (.inr (.inl ⟨_, rfl, hl⟩)), fun H' s2 => ?_⟩
      rw [e]
      exact q _ (s1.trans s2)
    · have e := (go _ rfl).resolve_right (fun z => by cases z)
      wtm_at "xs"
      refine ⟨_, rfl, .inr (.inr (.inr ⟨a, xs, rfl, s1 _ _ ha, hl⟩)), fun H' s2 => ?_⟩
      rw [e]
      exact q _ (s1.trans s2)
  refine ⟨_, rfl, Xk.x_itd (fun e => ?_) (fun e => ?_)⟩
  · refine ⟨_, rfl, ?_⟩
    rw [if_pos rfl]
    exact snd H (Same.refl _) (by rw [decide_eq_true e]; rfl)
  · wtm_at "xs"
    refine ⟨_, rfl, hu, fun H' s1 => ?_⟩
    refine ⟨_, rfl, Xk.x_itb (fun h => ?_) (fun h => ?_)⟩
    · exact snd H' s1 (by rw [h, Bool.or_true])
    · have e2 : isRng u v = false := by
        unfold isRng
        rw [h, decide_eq_false e]
        rfl
      rw [e2] at q
      exact q _ s1
def kin (k s : Str) : V → Bool
  | .str t => !decide (k.cps.toList < s.cps.toList) && decide (k.cps.toList < t.cps.toList)
  | _ => !decide (k.cps.toList < s.cps.toList)
def sp_key_in (K : PySem.W.Frag) : Sp := fun vs H Q _ => ∃ k s e, vs = [.str k, .str s, e] ∧ (e = .non ∨ ∃ t, e = .str t) ∧ Q (.bl (kin k s e)) H
theorem ok_key_in (T : Txt K mg) : FnOk P w K mg base CX0 1 T.f_key_in T.d_key_in ["key", "start", "end"] (sp_key_in K) := by
  refine T.F_key_in.ok sc_key_in (fun vs H Q E h => ?_) (fun cdv A outer s H vs Q E hr h => ?_)
  · obtain ⟨k, s, e, rfl, _⟩ := h
    rfl
  obtain ⟨k, s', e, rfl, he, q⟩ := h
  refine ⟨_, (pss_one (ps_ret ((pe_and (pe_cmpR Xk.op_nLeS (pv 1) (pv 0) (nomark _)) (pe_one ((pe_or (pe_cmpR Xk.op_nIsN (pv 2) (pe_non) (nomark _)) (pe_one (pe_cmpR Xk.op_nLtS (pv 0) (pv 2) (nomark _)))))))))), ?_⟩
  wtm_at "x0"
  wtm_at "xs"
  refine Xk.x_itn (fun h1 => ?_) (fun h1 => ?_)
  · rcases he with rfl | ⟨t, rfl⟩
    · wtm_at "xs"
      have e : kin k s' .non = true := by
        show (!decide _) = true
        rw [decide_eq_false h1]
        rfl
      rw [e] at q
      exact q
    · wtm_at "xs"
      have e : kin k s' (.str t) = decide (k.cps.toList < t.cps.toList) := by
        show (!decide _ && _) = _
        rw [decide_eq_false h1]
        rfl
      rw [e] at q
      exact q
  · have e1 : kin k s' e = false := by
      rcases he with rfl | ⟨t, rfl⟩
      · show (!decide _) = false
        rw [decide_eq_true h1]
        rfl
      · show (!decide _ && _) = _
        rw [decide_eq_true h1]
        rfl
    rw [e1] at q
    exact q
def sp__law_is (K : PySem.W.Frag) : Sp := fun vs H Q _ => ∃ b, vs = [.bl b, .bl b] ∧ Q (.bl true) H
theorem ok__law_is (T : Txt K mg) : FnOk P w K mg base CX0 1 T.f__law_is T.d__law_is ["actual", "due"] (sp__law_is K) := by
  refine T.F__law_is.ok sc__law_is (fun vs H Q E h => ?_) (fun cdv A outer s H vs Q E hr h => ?_)
  · obtain ⟨b, rfl, _⟩ := h
    rfl
  obtain ⟨b, rfl, q⟩ := h
  refine ⟨_, (pss_one (ps_ret ((pe_and (pe_callB (Xk.k_isi (K := K) (by rfl)) (by rfl) T.m_isinstance (by decide +kernel) (pa_cons (pv 0) (pa_cons (pe_bltn (v := .ty "bool") (u := .type "bool") (by rfl) T.m_bool (by decide +kernel) Xk.rel_ty) pa_nil))) (pe_one (pe_cmpR op_eq (pv 0) (pv 1) (nomark _))))))), ?_⟩
  wtm_at "x0"
  wtm_at "xs"
  rw [decide_eq_true rfl]
  exact q
theorem al_cs (c : Nat) : al c = (decide (97 ≤ c ∧ c ≤ 122) || decide (48 ≤ c ∧ c ≤ 57)) := by
  by_cases h : c < 128
  · exact of_decide_eq_true (List.all_eq_true.mp (show (List.range 128).all (fun c => decide (al c = (decide (97 ≤ c ∧ c ≤ 122) || decide (48 ≤ c ∧ c ≤ 57)))) = true by decide +kernel) c (List.mem_range.mpr h))
  · have h1 : al c = false := by
      unfold al
      refine decide_eq_false fun m => ?_
      have := of_decide_eq_true (List.all_eq_true.mp (show alphS.cps.toList.all (fun c => decide (c < 128)) = true by decide +kernel) c m)
      exact h this
    rw [h1, decide_eq_false (by omega), decide_eq_false (by omega)]
    rfl
def sp__law_is_key (K : PySem.W.Frag) : Sp := fun vs H Q _ => ∃ v, vs = [v] ∧ Kd H v ∧ Q (.bl (isKey v)) H
theorem ok__law_is_key (T : Txt K mg) : FnOk P w K mg base CX0 1 T.f__law_is_key T.d__law_is_key ["data"] (sp__law_is_key K) := by
  refine T.F__law_is_key.ok sc__law_is_key (fun vs H Q E h => ?_) (fun cdv A outer s H vs Q E hr h => ?_)
  · obtain ⟨v, rfl, _⟩ := h
    rfl
  obtain ⟨v, rfl, hk, q⟩ := h
  refine ⟨_, (Evl.pss_cut (ps_if (PW.pt (pw_or (pt_not (pt_val (pe_callB (Xk.k_isi (K := K) (by rfl)) (by rfl) T.m_isinstance (by decide +kernel) (pa_cons (pv 0) (pa_cons (pe_bltn (v := .ty "str") (u := .type "str") (by rfl) T.m_str (by decide +kernel) Xk.rel_ty) pa_nil))))) (pw_or (pt_cmpR op_lt (pe_callB Xk.call_nLenS (by rfl) T.m_len PySem.boot_len (pa_cons (pv 0) pa_nil)) (pe_int) (nomark _)) (pw_or1 (pt_cmpR op_gt (pe_callB Xk.call_nLenS (by rfl) T.m_len PySem.boot_len (pa_cons (pv 0) pa_nil)) (pe_int) (nomark _)))))) (pss_one (ps_ret (pe_bl))) pss_nil)
      (pss_cons (ps_for PassesOwn.never rfl (pi_str (pv 0)) (pg_name (i := 1) sc__law_is_key.nd rfl (Or.inl rfl)) (pss_cons (ps_set (i := 2) sc__law_is_key.nd rfl (Or.inl rfl) (pe_callB Xk.k_ord (by rfl) T.m_ord (by decide +kernel) (pa_cons (pv 1) pa_nil)))
      (pss_one (ps_if (pt_not (PW.pt (pw_or (pt_chain op_le op_le (pe_int) (pv 2) (pe_int)) (pw_or1 (pt_chain op_le op_le (pe_int) (pv 2) (pe_int)))))) (pss_one (ps_ret (pe_bl))) pss_nil))))
      (pss_one (ps_ret (pe_bl))))), ?_⟩
  wtm_at "x0"
  refine Xk.x_nocut ?_
  rcases hk with rfl | ⟨i, rfl⟩ | ⟨s', rfl, hl⟩ | ⟨a, xs, rfl, ha, hl⟩
  · wtm_at "xs"
    exact q
  · wtm_at "xs"
    exact q
  · wtm_at "xs"
    refine Xk.x_itd (fun h => ?_) (fun h => ?_)
    · have e : isKey (.str s') = false := by
        show (decide (1 ≤ s'.length) && _) = false
        rw [decide_eq_false (by omega)]
        rfl
      rw [e] at q
      rw [if_pos rfl]
      wtm_at "xs"
      exact q
    · wtm_at "xs"
      refine Xk.x_itd (fun h2 => ?_) (fun h2 => ?_)
      · have e : isKey (.str s') = false := by
          show (decide (1 ≤ s'.length) && (decide (s'.length ≤ 8) && _)) = false
          rw [show decide (s'.length ≤ 8) = false from decide_eq_false (by omega)]
          simp
        rw [e] at q
        wtm_at "xs"
        exact q
      · wtm_at "xs"
        refine Xk.x_forS (fun i σ' H' => H' = H ∧ ∃ y1 y2 : Option V, σ' = [some (.str s'), y1, y2] ∧ (s'.cps.toList.take i).all al = true) ⟨rfl, _, _, rfl, rfl⟩ ?_ ?_
        · rintro i c σ' H' hi ⟨rfl, y1, y2, rfl, hal⟩
          have good : al c = true → (s'.cps.toList.take (i + 1)).all al = true := fun hc => by
            rw [List.take_add_one, hi, List.all_append, hal]
            simp [hc]
          have bad : al c = false → isKey (.str s') = false := fun hc => by
            have e : s'.cps.toList.all al = false := by
              rw [Bool.eq_false_iff]
              intro z
              rw [List.all_eq_true.mp z c (List.mem_of_getElem? hi)] at hc
              cases hc
            show (decide (1 ≤ s'.length) && (decide (s'.length ≤ 8) && s'.cps.toList.all al)) = false
            rw [e]
            simp
          rw [al_cs] at good bad
          wtm_at "xs"
          refine Xk.x_itd (fun a1 => ?_) (fun a1 => ?_)
          · wtm_at "xs"
            refine Xk.x_itd (fun a2 => ?_) (fun a2 => ?_)
            · wtm_at "xs"
              exact ⟨rfl, _, _, rfl, good (by rw [decide_eq_true (show 97 ≤ c ∧ c ≤ 122 by omega)]; rfl)⟩
            · wtm_at "xs"
              rw [bad (by rw [decide_eq_false (show ¬ (97 ≤ c ∧ c ≤ 122) by omega), decide_eq_false (show ¬ (48 ≤ c ∧ c ≤ 57) by omega)]; rfl)] at q
              exact q
          · wtm_at "xs"
            refine Xk.x_itd (fun a3 => ?_) (fun a3 => ?_)
            · wtm_at "xs"
              refine Xk.x_itn (fun a4 => ?_) (fun a4 => ?_)
              · wtm_at "xs"
                rw [bad (by rw [decide_eq_false (show ¬ (97 ≤ c ∧ c ≤ 122) by omega), decide_eq_false (show ¬ (48 ≤ c ∧ c ≤ 57) by omega)]; rfl)] at q
                exact q
              · wtm_at "xs"
                exact ⟨rfl, _, _, rfl, good (by rw [decide_eq_true (show 48 ≤ c ∧ c ≤ 57 by omega), Bool.or_true])⟩
            · wtm_at "xs"
              rw [bad (by rw [decide_eq_false (show ¬ (97 ≤ c ∧ c ≤ 122) by omega), decide_eq_false (show ¬ (48 ≤ c ∧ c ≤ 57) by omega)]; rfl)] at q
              exact q
        · rintro σ' H' ⟨rfl, y1, y2, rfl, hal⟩
          rw [List.take_of_length_le (show s'.cps.toList.length ≤ s'.length from Nat.le_refl _)] at hal
          have e : isKey (.str s') = true := by
            show (decide (1 ≤ s'.length) && (decide (s'.length ≤ 8) && s'.cps.toList.all al)) = true
            rw [show decide (1 ≤ s'.length) = true from decide_eq_true (by omega), show decide (s'.length ≤ 8) = true from decide_eq_true (by omega), hal]
            rfl
          rw [e] at q
          wtm_at "xs"
          exact q
  · wtm_at "xs"
    exact q
def codes (s : Str) : List Int := s.cps.toList.map fun c => ((c : Nat) : Int)
def sp__law_codes (K : PySem.W.Frag) : Sp := fun vs H Q _ => ∃ s : Str, vs = [.str s] ∧ s.length ≤ 1000 ∧ ∀ H' p, Same H H' → Xk.Fr p H → H' p = some (.lst ((codes s).map V.int)) → Q (.ref p) H'
theorem ok__law_codes (T : Txt K mg) : FnOk P w K mg base CX0 1 T.f__law_codes T.d__law_codes ["key"] (sp__law_codes K) := by
  refine T.F__law_codes.ok sc__law_codes (fun vs H Q E h => ?_) (fun cdv A outer s H vs Q E hr h => ?_)
  · obtain ⟨s, rfl, _⟩ := h
    rfl
  obtain ⟨s', rfl, hl, q⟩ := h
  refine ⟨_, (pss_one (ps_ret (pe_lc (own := [("sign", 1)]) (g := gName 1) (tt := tYes) rfl sc__law_codes.nd  (pi_str (pv 0)) (blkOk_by (N := N__law_codes) (sc := defScope s__law_codes) (own := [("sign", 1)]) (by decide +kernel)) (fun _ _ _ _ _ => pg_name (i := 1) sc__law_codes.nd rfl (Or.inl rfl)) (fun _ _ _ _ _ => pts_nil) (fun _ _ _ _ _ => (pe_callB Xk.k_ord (by rfl) T.m_ord (by decide +kernel) (pa_cons (pv 1) pa_nil)))))), ?_⟩
  wtm_at "x0"
  wtm_at "xs"
  refine Xk.x_lcS (fun Dl i H' => Same H H' ∧ H' Dl = some (.lst (((s'.cps.toList.take i).map fun c => ((c : Nat) : Int)).map V.int))) ?_ ?_ ?_
  · intro Dl hD
    exact ⟨Xk.same_fr hD, upd_same⟩
  · rintro Dl hD i c H' hi ⟨s2, h2⟩
    have hi2 := Xk.at_lt hi
    wtm_at "xs"
    refine ⟨rfl, ?_⟩
    wtm_at "xs"
    exact ⟨_, h2, Xk.size_lt (by simp only [List.length_map, List.length_take]; have : s'.length = s'.cps.toList.length := rfl; omega), Xk.same_mut s2 hD, by rw [upd_same, List.take_add_one, hi]; simp⟩
  · rintro Dl H' hD ⟨s2, h2⟩
    rw [List.take_of_length_le (show s'.cps.toList.length ≤ s'.length from Nat.le_refl _)] at h2
    wtm_at "xs"
    exact q H' Dl s2 hD h2
def sp__law_number (K : PySem.W.Frag) : Sp := fun vs H Q _ => ∃ n : Int, vs = [.int n] ∧ 0 ≤ n ∧ ∀ H' i, Same H H' → Q (.int i) H'
theorem ok__law_number (T : Txt K mg) : FnOk P w K mg base CX0 2 T.f__law_number T.d__law_number ["row"] (sp__law_number K) := by
  refine T.F__law_number.ok sc__law_number (fun vs H Q E h => ?_) (fun cdv A outer s H vs Q E hr h => ?_)
  · obtain ⟨n, rfl, _⟩ := h
    rfl
  obtain ⟨n, rfl, hn, q⟩ := h
  refine ⟨_, (pss_cons (ps_asg (pe_call (ok__law_digits T) (hr.mono (by decide)) (by rfl) T.g__law_digits T.F__law_digits.kp T.b__law_digits .nil pass0 (pa_cons (pv 0) (pa_cons (pe_lst (pa_cons (pe_int) (pa_cons (pe_int) (pa_cons (pe_op op_pow (pe_int) (pe_int)) pa_nil)))) pa_nil))) (pg_lst rfl (pgs_cons (pg_name (i := 1) sc__law_number.nd rfl (Or.inl rfl)) (pgs_cons (pg_name (i := 2) sc__law_number.nd rfl (Or.inl rfl)) (pgs_cons (pg_name (i := 3) sc__law_number.nd rfl (Or.inl rfl)) pgs_nil)))))
      (pss_cons (ps_set (i := 4) sc__law_number.nd rfl (Or.inl rfl) (pe_ix (Xk.k_ixL (K := K) (by rfl)) (pe_lst (pa_cons (pe_op op_mod (pv 3) (pe_int)) (pa_cons (pv 3) (pa_cons (pe_op op_add (pe_op op_sub (pe_op op_pow (pe_int) (pe_int)) (pe_int)) (pe_op op_mod (pv 3) (pe_int))) (pa_cons (pe_op op_add (pe_op op_pow (pe_int) (pe_int)) (pv 3)) pa_nil))))) (pv 1) (fun _ _ => rfl)))
      (Evl.pss_cut (ps_if (pt_cmpR op_eq (pv 2) (pe_int) (nomark _)) (pss_one (ps_ret (pe_un un_neg (pv 4)))) pss_nil)
      (pss_one (ps_ret (pv 4)))))), ?_⟩
  wtm_at "x0"
  wtm_at "xs"
  intro p1 H1 hp1 s1 h1
  wtm_at "xs"
  refine ⟨_, _, [4, 2, 1000000000000000], rfl, Xk.sq_of h1, Nat.le_of_ble_eq_true rfl, ?_, fun p2 H2 ds hp2 s2 h2 hd hw => ?_⟩
  · intro z hz
    simp only [List.mem_cons, List.not_mem_nil, or_false] at hz
    omega
  obtain ⟨kd, sg, mo, rfl⟩ : ∃ a b c, ds = [a, b, c] := by
    match ds, hd with
    | [a, b, c], _ => exact ⟨a, b, c, rfl⟩
  have b1 := hw 0 _ _ rfl rfl
  have b2 := hw 1 _ _ rfl rfl
  have b3 := hw 2 _ _ rfl rfl
  replace h2 : H2 p2 = some (.lst [.int kd, .int sg, .int mo]) := h2
  have s02 := s1.trans s2
  clear hw hd s1 s2 hp1 hp2 h1
  wtm_at "xs"
  intro p3 H3 hp3 s3 h3
  obtain ⟨j, hj⟩ := Int.eq_ofNat_of_zero_le b1.1
  obtain ⟨x, hx⟩ := Xk.lt_at (xs := [mo % 100, mo, 1000000000000000 - 1 + mo % 3, 100000000000000000 + mo]) (j := j) (by simp only [List.length_cons, List.length_nil]; omega)
  wtm_at "xs"
  refine Xk.x_ixL (Xk.sq_of h3) (Xk.at_nat hj (show ([mo % 100, mo, 1000000000000000 - 1 + mo % 3, 100000000000000000 + mo].map V.int)[j]? = _ from Xk.map_at hx)) ?_
  wtm_at "xs"
  refine Xk.x_nocut ?_
  wtm_at "xs"
  refine Xk.x_itd (fun h4 => ?_) (fun h4 => ?_)
  · wtm_at "xs"
    exact q _ _ (s02.trans s3)
  · wtm_at "xs"
    exact q _ _ (s02.trans s3)
theorem al_tx (c : Nat) (h : al c = true) : tx c = true :=
  List.all_eq_true.mp (show alphS.cps.toList.all tx = true by decide +kernel) c (of_decide_eq_true h)
def sp__law_drawn_key (K : PySem.W.Frag) : Sp := fun vs H Q _ => ∃ n : Int, vs = [.int n] ∧ 0 ≤ n ∧ ∀ H' s, Same H H' → Xk.AllC tx s = true → s.length ≤ 100 → Q (.str s) H'
theorem ok__law_drawn_key (T : Txt K mg) : FnOk P w K mg base CX0 2 T.f__law_drawn_key T.d__law_drawn_key ["row"] (sp__law_drawn_key K) := by
  refine T.F__law_drawn_key.ok sc__law_drawn_key (fun vs H Q E h => ?_) (fun cdv A outer s H vs Q E hr h => ?_)
  · obtain ⟨n, rfl, _⟩ := h
    rfl
  obtain ⟨n, rfl, hn, q⟩ := h
  refine ⟨_, (pss_cons (ps_asg (pe_call (ok__law_digits T) (hr.mono (by decide)) (by rfl) T.g__law_digits T.F__law_digits.kp T.b__law_digits .nil pass0 (pa_cons (pv 0) (pa_cons (pe_lst (pa_cons (pe_int) (pa_cons (pe_int) (pa_cons (pe_int) (pa_cons (pe_int) (pa_cons (pe_op op_pow (pe_int) (pe_int)) pa_nil)))))) pa_nil))) (pg_lst rfl (pgs_cons (pg_name (i := 1) sc__law_drawn_key.nd rfl (Or.inl rfl)) (pgs_cons (pg_name (i := 2) sc__law_drawn_key.nd rfl (Or.inl rfl)) (pgs_cons (pg_name (i := 3) sc__law_drawn_key.nd rfl (Or.inl rfl)) (pgs_cons (pg_name (i := 4) sc__law_drawn_key.nd rfl (Or.inl rfl)) (pgs_cons (pg_name (i := 5) sc__law_drawn_key.nd rfl (Or.inl rfl)) pgs_nil)))))))
      (pss_cons (ps_set (i := 6) sc__law_drawn_key.nd rfl (Or.inl rfl) (pe_slice sl_str (pe_op Xk.op_nAddS (pe_call (ok__law_key T) (hr.mono (by decide)) (by rfl) T.g__law_key T.F__law_key.kp T.b__law_key .nil pass0 (pa_cons (pe_op op_add (pe_op op_mul (pv 5) (pe_int)) (pe_int)) (pa_cons (pe_int) pa_nil))) (pe_str)) po_none (po_some (pv 1))))
      (Evl.pss_cut (ps_if (PW.pt (pw_and (pt_cmpR op_eq (pv 2) (pe_int) (nomark _)) (pw_and1 (pt_cmpR op_gt (pv 1) (pe_int) (nomark _))))) (pss_one (ps_set (i := 6) sc__law_drawn_key.nd rfl (Or.inl rfl) (pe_op Xk.op_nAddS (pe_op Xk.op_nAddS (pe_slice sl_str (pv 6) po_none (po_some (pe_op op_mod (pv 3) (pv 1)))) (pe_call (ok__law_sign T) (hr.mono (by decide)) (by rfl) T.g__law_sign T.F__law_sign.kp T.b__law_sign .nil pass0 (pa_cons (pv 4) pa_nil))) (pe_slice sl_str (pv 6) (po_some (pe_op op_add (pe_op op_mod (pv 3) (pv 1)) (pe_int))) po_none)))) pss_nil)
      (pss_one (ps_ret (pv 6)))))), ?_⟩
  wtm_at "x0"
  wtm_at "xs"
  intro p1 H1 hp1 s1 h1
  wtm_at "xs"
  refine ⟨_, _, [10, 3, 9, 94, 1000000000000], rfl, Xk.sq_of h1, Nat.le_of_ble_eq_true rfl, ?_, fun p2 H2 ds hp2 s2 h2 hd hw => ?_⟩
  · intro z hz
    simp only [List.mem_cons, List.not_mem_nil, or_false] at hz
    omega
  obtain ⟨co, od, at_, ot, re, rfl⟩ : ∃ a b c d e, ds = [a, b, c, d, e] := by
    match ds, hd with
    | [a, b, c, d, e], _ => exact ⟨a, b, c, d, e, rfl⟩
  have b1 := hw 0 _ _ rfl rfl
  have b2 := hw 1 _ _ rfl rfl
  have b3 := hw 2 _ _ rfl rfl
  have b4 := hw 3 _ _ rfl rfl
  have b5 := hw 4 _ _ rfl rfl
  replace h2 : H2 p2 = some (.lst [.int co, .int od, .int at_, .int ot, .int re]) := h2
  have s02 := s1.trans s2
  clear hw hd s1 s2 hp1 hp2 h1
  wtm_at "xs"
  refine ⟨_, _, rfl, by omega, by decide, by decide, fun s' hs1 hs2 hs3 => ?_⟩
  have hst : Xk.AllC tx s' = true := Xk.allC_mono hs1 al_tx
  have hlq : (s' ++ "q").length ≤ 9 := by
    rw [Xk.len_add]
    show s'.length + 1 ≤ 9
    omega
  have hqt : Xk.AllC tx (s' ++ "q") = true := Xk.allC_add hst (by decide +kernel)
  wtm_at "xs"
  refine Xk.x_nAddS (by show s'.length + 1 ≤ 100000; omega) ?_
  wtm_at "xs"
  generalize s' ++ "q" = z at *
  have hzl := Xk.len_cut z none (some co)
  have hzt : Xk.AllC tx (cutS z none (some co)) = true := Xk.allC_cut hqt
  generalize cutS z none (some co) = k at *
  refine Xk.x_nocut ?_
  wtm_at "xs"
  have fin : Q (.str k) H2 := q _ _ s02 hzt (by omega)
  refine Xk.x_itd (fun h3 => ?_) (fun h3 => ?_)
  · wtm_at "xs"
    refine Xk.x_itd (fun h4 => ?_) (fun h4 => ?_)
    · have c1 := Xk.len_cut k none (some (at_ % co))
      have c2 := Xk.len_cut k (some (at_ % co + 1)) none
      wtm_at "xs"
      refine ⟨_, rfl, b4.1, fun c hc => ?_⟩
      have l1 : (cutS k none (some (at_ % co)) ++ (⟨#[c]⟩ : Str)).length ≤ 10 := by
        rw [Xk.len_add, one_len]
        omega
      wtm_at "xs"
      refine Xk.x_nAddS (by rw [one_len]; omega) ?_
      wtm_at "xs"
      exact q _ _ s02 (Xk.allC_add (Xk.allC_add (Xk.allC_cut hzt) (one_all hc)) (Xk.allC_cut hzt)) (by rw [Xk.len_add]; omega)
    · wtm_at "xs"
      exact fin
  · wtm_at "xs"
    exact fin
--CUT--
theorem keep_tup {H : Hp} {a c : Addr} {xs ys : List V} {o : HO} (h : H a = some (.tup xs)) (h' : H c = some (.lst ys)) : upd H c o a = some (.tup xs) :=
  (upd_ne (fun z => by subst z; rw [h'] at h; cases h)).trans h
structure WsAt (H : Hp) (q : Addr) (es : List (Addr × Str × V)) : Prop where
  tp : H q = some (.tup (es.map fun e => V.ref e.1))
  it : ∀ e ∈ es, H e.1 = some (.tup [.str e.2.1, e.2.2])
theorem WsAt.same {H H' : Hp} {q : Addr} {es : List (Addr × Str × V)} (h : WsAt H q es) (s : Same H H') : WsAt H' q es := ⟨s _ _ h.tp, fun e he => s _ _ (h.it e he)⟩
def gv (kvs : List (Key × V)) (k : Str) : V := (valV kvs (Sum.inr k)).getD .non
def rSortD (xs : List V) (H : Hp) (Q : VK) : Prop := ∃ (a : Addr) (kvs : List (Key × V)) (ks : List Str), xs = [.ref a] ∧ Rd H a (.dK kvs) ∧ kvs.map (·.1) = ks.map Sum.inr ∧ ks.length < 64 ∧
    ∀ ys p, ys.Perm ks → sortedS ys = true → H p = none → Q (.ref p) (upd H p (.lst (ys.map V.str)))
theorem k_sortedE {X : Cx} (h : X.calm = true) : CallR X (.builtin "sorted") rSortD := call_sortedD h
theorem x_rSortD {a : Addr} {H : Hp} {Q : VK} {kvs : List (Key × V)} {ts : List Str} (h : H a = some (.dK kvs)) (e : kvs.map (·.1) = ts.map Sum.inr) (hl : ts.length < 64)
    (q : ∀ p H2 ys, ys.Perm ts → sortedS ys = true → Xk.Fr p H → Same H H2 → H2 p = some (.lst (ys.map V.str)) → Q (.ref p) H2) : rSortD [.ref a] H Q :=
  ⟨a, kvs, ts, rfl, .inl h, e, hl, fun ys p h1 h2 h3 => q p _ ys h1 h2 ⟨h3⟩ (Xk.same_new h3) upd_same⟩
theorem filt_at {f : Str → Bool} {ys : List Str} {i : Nat} {t : Str} (h : ys[i]? = some t) : (ys.take (i + 1)).filter f = (ys.take i).filter f ++ (if f t = true then [t] else []) := by
  rw [List.take_add_one, h, List.filter_append]
  cases e : f t <;> simp [e]
theorem has_val {kvs : List (Key × V)} {us : List Str} (e : kvs.map (·.1) = us.map Sum.inr) {k : Str} (h : k ∈ us) : valV kvs (Sum.inr k) = some (gv kvs k) := by
  unfold gv
  cases c : valV kvs (Sum.inr k) with
  | some v => rfl
  | none =>
    exfalso
    have m : (Sum.inr k : Key) ∈ kvs.map (·.1) := by rw [e]; exact List.mem_map_of_mem h
    obtain ⟨p, hp, e2⟩ := List.mem_map.mp m
    unfold valV at c
    rw [Option.map_eq_none_iff, List.find?_eq_none] at c
    exact c p hp (decide_eq_true e2)
def sp_rows_in (K : PySem.W.Frag) : Sp := fun vs H Q _ => ∃ r kvs us s e, vs = [.ref r, .str s, e] ∧ H r = some (.dK kvs) ∧ kvs.map (·.1) = us.map Sum.inr ∧ us.length < 64 ∧ (e = .non ∨ ∃ t, e = .str t) ∧
  ∀ H' q es ys, Same H H' → ys.Perm us → sortedS ys = true → WsAt H' q es → es.map (·.2) = (ys.filter fun k => kin k s e).map (fun k => (k, gv kvs k)) → Q (.ref q) H'
theorem ok_rows_in (T : Txt K mg) : FnOk P w K mg base CX0 2 T.f_rows_in T.d_rows_in ["rows", "start", "end"] (sp_rows_in K) := by
  refine T.F_rows_in.ok sc_rows_in (fun vs H Q E h => ?_) (fun cdv A outer s H vs Q E hr h => ?_)
  · obtain ⟨r, kvs, us, s, e, rfl, _⟩ := h
    rfl
  obtain ⟨r, kvs, us, s', e, rfl, hr0, hus, hul, he, q⟩ := h
  refine ⟨_, (pss_one (ps_ret (pe_callTy (Xk.k_tuple (K := K) (by rfl)) (by rfl) T.m_tuple (by decide +kernel) (pa_cons (pe_lc (own := [("key", 3)]) (g := gName 3) rfl sc_rows_in.nd  (pi_list (pe_callB (k_sortedE rfl) (by rfl) T.m_sorted (by decide +kernel) (pa_cons (pv 0) pa_nil))) (blkOk_by (N := N_rows_in) (sc := defScope s_rows_in) (own := [("key", 3)]) (by decide +kernel)) (fun _ _ _ _ _ => pg_name (i := 3) sc_rows_in.nd rfl (Or.inl rfl)) (fun _ _ _ _ _ => pts_one (pt_val (pe_call (ok_key_in T) (hr.mono (by decide)) (by rfl) T.g_key_in T.F_key_in.kp T.b_key_in .nil pass0 (pa_cons (pv 3) (pa_cons (pv 1) (pa_cons (pv 2) pa_nil)))))) (fun _ _ _ _ _ => (pe_tup (pa_cons (pv 3) (pa_cons (pe_dget (hu_of hr) (pv 0) (pv 3) (fun _ _ => rfl)) pa_nil))))) pa_nil)))), ?_⟩
  wtm_at "x0"
  wtm_at "xs"
  refine x_rSortD hr0 hus hul fun p H1 ys hy so hp s1 h1 => ?_
  have hr1 := s1 _ _ hr0
  have hyl : ys.length < 64 := by
    rw [hy.length_eq]
    exact hul
  wtm_at "xs"
  refine Xk.x_lcL (xs := ys.map V.str) (fun Dl i H' => Same H1 H' ∧ ∃ es : List (Addr × Str × V), H' Dl = some (.lst (es.map fun e => V.ref e.1)) ∧ (∀ x ∈ es, H' x.1 = some (.tup [.str x.2.1, x.2.2])) ∧ es.length ≤ i ∧ es.map (·.2) = ((ys.take i).filter fun k => kin k s' e).map (fun k => (k, gv kvs k))) (Xk.sq_of h1) ?_ ?_ ?_ ?_
  · intro Dl hD
    exact ⟨Xk.same_fr hD, [], upd_same, fun x hx => (by cases hx), Nat.le_refl _, rfl⟩
  · rintro Dl i H' hD ⟨s2, _⟩
    exact Xk.sq_of (s2 _ _ h1)
  · rintro Dl hD i x H' hx ⟨s2, es, h2, h3, h4, h5⟩
    rw [List.getElem?_map] at hx
    obtain ⟨k, hk, rfl⟩ := Option.map_eq_some_iff.mp hx
    have hil := Xk.at_lt hk
    have hv := has_val hus (hy.mem_iff.mp (List.mem_of_getElem? hk))
    have hr2 := s2 _ _ hr1
    wtm_at "xs"
    refine ⟨rfl, ?_⟩
    wtm_at "xs"
    refine ⟨k, s', e, rfl, he, ?_⟩
    have z := filt_at (f := fun k => kin k s' e) hk
    refine ⟨_, rfl, Xk.x_itb (fun hk2 => ?_) (fun hk2 => ?_)⟩
    · rw [if_pos hk2] at z
      wtm_at "xs"
      intro t1 H3 ht1 s3 hh1
      have hD3 := s3 _ _ h2
      refine ⟨_, hD3, Xk.size_lt (by rw [List.length_map]; omega), Xk.same_mut (s2.trans s3) hD, es ++ [(t1, k, gv kvs k)], by rw [upd_same, List.map_append]; rfl, fun x hx => ?_, by rw [List.length_append]; show es.length + 1 ≤ i + 1; omega, ?_⟩
      · rcases List.mem_append.mp hx with hx | hx
        · exact keep_tup (s3 _ _ (h3 x hx)) hD3
        · rw [List.mem_singleton.mp hx]
          exact keep_tup hh1 hD3
      · rw [z, List.map_append, List.map_append, h5]
        rfl
    · rw [hk2, if_neg (by decide), List.append_nil] at z
      exact ⟨s2, es, h2, h3, by omega, by rw [z]; exact h5⟩
  · rintro Dl H' hD ⟨s2, es, h2, h3, h4, h5⟩
    rw [List.length_map, List.take_of_length_le (Nat.le_refl _)] at h5
    wtm_at "xs"
    intro q1 H2 hq1 s3 hq2
    exact q _ q1 es ys ((s1.trans s2).trans s3) hy so ⟨hq2, fun x hx => s3 _ _ (h3 x hx)⟩ h5
--CUT--
theorem tx_ok (c : Nat) (h : tx c = true) : Xk.okC c = true := by
  unfold tx at h
  rcases Bool.or_eq_true _ _ ▸ h with h | h
  · exact List.all_eq_true.mp (show lowS.cps.toList.all Xk.okC = true by decide +kernel) c (of_decide_eq_true h)
  · exact List.all_eq_true.mp (show highS.cps.toList.all Xk.okC = true by decide +kernel) c (of_decide_eq_true h)
/-- data of the law -/
def Dt (K : PySem.W.Frag) (H : Hp) (x : V) : Prop := Kd H x ∧ (∃ d, Xk.Pk K H 3 x d) ∧ ∀ s : Str, x = .str s → Xk.AllC tx s = true
theorem Dt.same {H H' : Hp} {x : V} (h : Dt K H x) (s : Same H H') : Dt K H' x := ⟨h.1.same s, h.2.1.elim fun d hd => ⟨d, hd.same s⟩, h.2.2⟩
def s20 : V → Bool
  | .str s => decide ((s.length : Int) ≤ 20)
  | _ => false
def isS : V → Bool
  | .str _ => true
  | _ => false
theorem x_isiS {H : Hp} {Q : VK} {x : V} (hk : Kd H x) (q : Q (.bl (isS x)) H) : rIsi K [x, .ty "str"] H Q := by
  rcases hk with rfl | ⟨j, rfl⟩ | ⟨s', rfl, hsl⟩ | ⟨c, xs, rfl, hc, hcl⟩
  · wtm_at "xs"
    exact q
  · wtm_at "xs"
    exact q
  · wtm_at "xs"
    exact q
  · wtm_at "xs"
    exact q
theorem x_lenS {H : Hp} {Q : VK} {x : V} {s : Str} (e : x = .str s) (hl : s.length ≤ 1000) (q : Q (.int s.length) H) : Xk.nLenS [x] H Q := by
  subst e
  exact Xk.x_nLenS (by omega) q
theorem x_isN {H : Hp} {Q : VK} {x : V} (hk : Kd H x) (q : Q (.bl (decide (x = .non))) H) : Xk.nIsN x .non H Q := by
  rcases hk with rfl | ⟨j, rfl⟩ | ⟨s', rfl, hsl⟩ | ⟨c, xs, rfl, hc, hcl⟩
  · wtm_at "xs"
    exact q
  · wtm_at "xs"
    exact q
  · wtm_at "xs"
    exact q
  · wtm_at "xs"
    exact q
def sp__law_kinds_hold (K : PySem.W.Frag) : Sp := fun vs H Q _ => ∃ (a : Addr) (k : Int) (ns : List Int), vs = [.ref a, .int k] ∧ SqL K H a (ns.map V.int) ∧ ns.length ≤ 63 ∧ 0 ≤ k ∧ k ≤ 100 ∧ ∀ H', Same H H' → Q (.bl true) H'
theorem ok__law_kinds_hold (T : Txt K mg) : FnOk P w K mg base CX0 4 T.f__law_kinds_hold T.d__law_kinds_hold ["script", "k"] (sp__law_kinds_hold K) := by
  refine T.F__law_kinds_hold.ok sc__law_kinds_hold (fun vs H Q E h => ?_) (fun cdv A outer s H vs Q E hr h => ?_)
  · obtain ⟨a, k, ns, rfl, _⟩ := h
    rfl
  obtain ⟨a, k, ns, rfl, ha, hl, h0, h1, q⟩ := h
  refine ⟨_, (pss_cons (ps_set (i := 2) sc__law_kinds_hold.nd rfl (Or.inl rfl) (pe_call (ok__law_drawn_key T) (hr.mono (by decide)) (by rfl) T.g__law_drawn_key T.F__law_drawn_key.kp T.b__law_drawn_key .nil pass0 (pa_cons (pe_call (ok__law_row T) (hr.mono (by decide)) (by rfl) T.g__law_row T.F__law_row.kp T.b__law_row .nil pass0 (pa_cons (pv 0) (pa_cons (pv 1) pa_nil))) pa_nil)))
      (pss_cons (ps_asg (pe_call (ok__law_digits T) (hr.mono (by decide)) (by rfl) T.g__law_digits T.F__law_digits.kp T.b__law_digits .nil pass0 (pa_cons (pe_call (ok__law_row T) (hr.mono (by decide)) (by rfl) T.g__law_row T.F__law_row.kp T.b__law_row .nil pass0 (pa_cons (pv 0) (pa_cons (pe_op op_add (pe_int) (pv 1)) pa_nil))) (pa_cons (pe_lst (pa_cons (pe_int) (pa_cons (pe_op op_pow (pe_int) (pe_int)) pa_nil))) pa_nil))) (pg_lst rfl (pgs_cons (pg_name (i := 3) sc__law_kinds_hold.nd rfl (Or.inl rfl)) (pgs_cons (pg_name (i := 4) sc__law_kinds_hold.nd rfl (Or.inl rfl)) pgs_nil))))
      (pss_cons (ps_set (i := 5) sc__law_kinds_hold.nd rfl (Or.inl rfl) (pe_call (ok__law_text T) (hr.mono (by decide)) (by rfl) T.g__law_text T.F__law_text.kp T.b__law_text .nil pass0 (pa_cons (pv 4) (pa_cons (pv 3) pa_nil))))
      (pss_cons (ps_set (i := 6) sc__law_kinds_hold.nd rfl (Or.inl rfl) (pe_call (ok__law_number T) (hr.mono (by decide)) (by rfl) T.g__law_number T.F__law_number.kp T.b__law_number .nil pass0 (pa_cons (pe_call (ok__law_row T) (hr.mono (by decide)) (by rfl) T.g__law_row T.F__law_row.kp T.b__law_row .nil pass0 (pa_cons (pv 0) (pa_cons (pe_op op_add (pe_int) (pv 1)) pa_nil))) pa_nil)))
      (pss_cons (ps_for PassesOwn.never rfl (pi_list (pe_lst (pa_cons (pv 2) (pa_cons (pv 5) (pa_cons (pv 6) (pa_cons (pe_non) (pa_cons (pe_tup pa_nil) (pa_cons (pe_tup (pa_cons (pv 2) pa_nil)) (pa_cons (pe_tup (pa_cons (pv 6) (pa_cons (pv 5) pa_nil))) pa_nil))))))))) (pg_name (i := 7) sc__law_kinds_hold.nd rfl (Or.inl rfl)) (Evl.pss_cut (ps_if (pt_not (pt_val (pe_call (ok__law_is T) (hr.mono (by decide)) (by rfl) T.g__law_is T.F__law_is.kp T.b__law_is .nil pass0 (pa_cons (pe_call (ok_is_key T) (hr.mono (by decide)) (by rfl) T.g_is_key T.F_is_key.kp T.b_is_key .nil pass0 (pa_cons (pv 7) pa_nil)) (pa_cons (pe_call (ok__law_is_key T) (hr.mono (by decide)) (by rfl) T.g__law_is_key T.F__law_is_key.kp T.b__law_is_key .nil pass0 (pa_cons (pv 7) pa_nil)) pa_nil))))) (pss_one (ps_ret (pe_bl))) pss_nil)
      (pss_cons (ps_set (i := 8) sc__law_kinds_hold.nd rfl (Or.inl rfl) ((pe_and (pe_callB (Xk.k_isi (K := K) (by rfl)) (by rfl) T.m_isinstance (by decide +kernel) (pa_cons (pv 7) (pa_cons (pe_bltn (v := .ty "str") (u := .type "str") (by rfl) T.m_str (by decide +kernel) Xk.rel_ty) pa_nil))) (pe_one (pe_cmpR op_le (pe_callB Xk.call_nLenS (by rfl) T.m_len PySem.boot_len (pa_cons (pv 7) pa_nil)) (pe_int) (nomark _))))))
      (Evl.pss_cut (ps_if (pt_val (pe_callB (Xk.k_isi (K := K) (by rfl)) (by rfl) T.m_isinstance (by decide +kernel) (pa_cons (pv 7) (pa_cons (pe_bltn (v := .ty "int") (u := .type "int") (by rfl) T.m_int (by decide +kernel) Xk.rel_ty) pa_nil)))) (pss_one (ps_set (i := 8) sc__law_kinds_hold.nd rfl (Or.inl rfl) (pe_chain op_le op_le (pe_un un_neg (pe_op op_pow (pe_int) (pe_int))) (pv 7) (pe_op op_pow (pe_int) (pe_int))))) pss_nil)
      (Evl.pss_cut (ps_if (pt_not (pt_val (pe_call (ok__law_is T) (hr.mono (by decide)) (by rfl) T.g__law_is T.F__law_is.kp T.b__law_is .nil pass0 (pa_cons (pe_call (ok_is_value T) (hr.mono (by decide)) (by rfl) T.g_is_value T.F_is_value.kp T.b_is_value .nil pass0 (pa_cons (pv 7) pa_nil)) (pa_cons (pv 8) pa_nil))))) (pss_one (ps_ret (pe_bl))) pss_nil)
      (pss_one (ps_for PassesOwn.never rfl (pi_list (pe_lst (pa_cons (pe_non) (pa_cons (pv 2) (pa_cons (pv 5) (pa_cons (pv 6) (pa_cons (pe_str) pa_nil))))))) (pg_name (i := 9) sc__law_kinds_hold.nd rfl (Or.inl rfl)) (pss_cons (ps_set (i := 8) sc__law_kinds_hold.nd rfl (Or.inl rfl) ((pe_and ((pe_or (pe_cmpR (Xk.k_eqD (K := K) hr.units (by rfl)) (pv 7) (pe_str) (nomark _)) (pe_one (pe_call (ok__law_is_key T) (hr.mono (by decide)) (by rfl) T.g__law_is_key T.F__law_is_key.kp T.b__law_is_key .nil pass0 (pa_cons (pv 7) pa_nil))))) (pe_one ((pe_or (pe_cmpR Xk.op_nIsN (pv 9) (pe_non) (nomark _)) (pe_one (pe_call (ok__law_is_key T) (hr.mono (by decide)) (by rfl) T.g__law_is_key T.F__law_is_key.kp T.b__law_is_key .nil pass0 (pa_cons (pv 9) pa_nil)))))))))
      (pss_one (ps_if (pt_not (pt_val (pe_call (ok__law_is T) (hr.mono (by decide)) (by rfl) T.g__law_is T.F__law_is.kp T.b__law_is .nil pass0 (pa_cons (pe_call (ok_is_range T) (hr.mono (by decide)) (by rfl) T.g_is_range T.F_is_range.kp T.b_is_range .nil pass0 (pa_cons (pv 7) (pa_cons (pv 9) pa_nil))) (pa_cons (pv 8) pa_nil))))) (pss_one (ps_ret (pe_bl))) pss_nil))))))))))
      (pss_one (ps_ret (pe_bl)))))))), ?_⟩
  wtm_at "x0"
  wtm_at "xs"
  refine ⟨_, _, ns, rfl, ha, hl, by omega, by omega, fun n1 hn1 => ?_⟩
  wtm_at "xs"
  refine ⟨_, rfl, hn1, fun H1 key s1 hk1 hk2 => ?_⟩
  have ha1 := Xk.sq_same ha s1
  wtm_at "xs"
  refine ⟨_, _, ns, rfl, ha1, hl, by omega, by omega, fun n2 hn2 => ?_⟩
  wtm_at "xs"
  intro p1 H2 hp1 s2 h2
  wtm_at "xs"
  refine ⟨_, _, [25, 1000000000000000], rfl, Xk.sq_of h2, Nat.le_of_ble_eq_true rfl, ?_, fun p2 H3 ds hp2 s3 h3 hd hw => ?_⟩
  · intro z hz
    simp only [List.mem_cons, List.not_mem_nil, or_false] at hz
    omega
  obtain ⟨co, mo, rfl⟩ : ∃ a b, ds = [a, b] := by
    match ds, hd with
    | [a, b], _ => exact ⟨a, b, rfl⟩
  have b1 := hw 0 _ _ rfl rfl
  have b2 := hw 1 _ _ rfl rfl
  replace h3 : H3 p2 = some (.lst [.int co, .int mo]) := h3
  have s03 := s1.trans (s2.trans s3)
  have ha3 := Xk.sq_same ha s03
  clear hw hd s1 s2 s3 hp1 hp2 h2 ha1
  wtm_at "xs"
  refine ⟨_, _, rfl, b2.1, b1.1, by omega, fun txt hx1 hx2 => ?_⟩
  wtm_at "xs"
  refine ⟨_, _, ns, rfl, ha3, hl, by omega, by omega, fun n3 hn3 => ?_⟩
  wtm_at "xs"
  refine ⟨_, rfl, hn3, fun H4 num s4 => ?_⟩
  have s04 := s03.trans s4
  clear ha3 h3 s03 s4
  wtm_at "xs"
  intro t0 H5 ht0 s5 h5
  wtm_at "xs"
  intro t1 H6 ht1 s6 h6
  wtm_at "xs"
  intro t2 H7 ht2 s7 h7
  wtm_at "xs"
  intro lp H8 hlp s8 h8
  have h58 := (s6.trans (s7.trans s8)) _ _ h5
  have h68 := (s7.trans s8) _ _ h6
  have h78 := s8 _ _ h7
  have s08 := s04.trans (s5.trans (s6.trans (s7.trans s8)))
  have pkk : Xk.Pk K H8 2 (.str key) (.str key) := Xk.pk_str (Xk.lay_str (Xk.allC_mono hk1 tx_ok))
  have pkt : Xk.Pk K H8 2 (.str txt) (.str txt) := Xk.pk_str (Xk.lay_str (Xk.allC_mono hx1 tx_ok))
  have hall : ∀ x ∈ [V.str key, V.str txt, V.int num, V.non, V.ref t0, V.ref t1, V.ref t2], Dt K H8 x := fun x hx => by
    simp only [List.mem_cons, List.not_mem_nil, or_false] at hx
    rcases hx with rfl | rfl | rfl | rfl | rfl | rfl | rfl
    · exact ⟨.inr (.inr (.inl ⟨_, rfl, by omega⟩)), ⟨_, Xk.pk_str (Xk.lay_str (Xk.allC_mono hk1 tx_ok))⟩, fun s e => by cases e; exact hk1⟩
    · exact ⟨.inr (.inr (.inl ⟨_, rfl, by omega⟩)), ⟨_, Xk.pk_str (Xk.lay_str (Xk.allC_mono hx1 tx_ok))⟩, fun s e => by cases e; exact hx1⟩
    · exact ⟨.inr (.inl ⟨_, rfl⟩), ⟨_, Xk.pk_int⟩, fun s e => by cases e⟩
    · exact ⟨.inl rfl, ⟨_, Xk.pk_non⟩, fun s e => by cases e⟩
    · exact ⟨.inr (.inr (.inr ⟨t0, _, rfl, h58, by decide⟩)), ⟨_, Xk.pk_tup (n := 2) (Xk.st_of h58) Xk.pk_nil⟩, fun s e => by cases e⟩
    · exact ⟨.inr (.inr (.inr ⟨t1, _, rfl, h68, Nat.le_of_ble_eq_true rfl⟩)), ⟨_, Xk.pk_tup (n := 2) (Xk.st_of h68) (Xk.pk_cons pkk Xk.pk_nil)⟩, fun s e => by cases e⟩
    · exact ⟨.inr (.inr (.inr ⟨t2, _, rfl, h78, Nat.le_of_ble_eq_true rfl⟩)), ⟨_, Xk.pk_tup (n := 2) (Xk.st_of h78) (Xk.pk_cons Xk.pk_int (Xk.pk_cons pkt Xk.pk_nil))⟩, fun s e => by cases e⟩
  refine Xk.x_forL (xs := [V.str key, V.str txt, V.int num, V.non, V.ref t0, V.ref t1, V.ref t2]) (fun i σ' H' => ∃ y7 y8 y9 : Option V, σ' = [some (.ref a), some (.int k), some (.str key), some (.int co), some (.int mo), some (.str txt), some (.int num), y7, y8, y9] ∧ Same H8 H') (Xk.sq_of h8)
    ⟨_, _, _, rfl, Same.refl _⟩ (fun i σ' H' _ ⟨_, _, _, _, s9⟩ => Xk.sq_of (s9 _ _ h8)) ?_ ?_
  · rintro i x σ' H9 hx ⟨y7, y8, y9, rfl, s9⟩
    obtain ⟨hk, ⟨d, hd⟩, hs⟩ := (hall x (List.mem_of_getElem? hx)).same s9
    clear hx h8 h58 h68 h78 pkk pkt
    wtm_at "xs"
    refine Xk.x_nocut ?_
    wtm_at "xs"
    refine ⟨x, rfl, hk, fun H10 s10 => ?_⟩
    have hk10 := hk.same s10
    have hd10 := hd.same s10
    wtm_at "xs"
    refine ⟨x, rfl, hk10, ?_⟩
    wtm_at "xs"
    refine ⟨_, rfl, ?_⟩
    wtm_at "xs"
    refine x_isiS hk10 ?_
    have cut : ∀ b : Bool, b = s20 x → ∀ y9 : Option V, ∀ D : Ends, (∀ H', Same H10 H' → D.nx [some (.ref a), some (.int k), some (.str key), some (.int co), some (.int mo), some (.str txt), some (.int num), some x, some (.bl (isVal x)), y9] H') →
        tIfS (tB (tCB (rIsi K) (tCons (tVar 7) (tCons (tC (V.ty "int")) tNil)))) (tAsg (tChain (rI0 fun i j => V.bl (decide (i ≤ j))) (rI0 fun i j => V.bl (decide (i ≤ j))) (tUn (rU fun i => V.int (-i)) (tOp (rI CPow fun i j => V.int (i ^ j.toNat)) (tC (V.int 10)) (tC (V.int 15)))) (tVar 7) (tOp (rI CPow fun i j => V.int (i ^ j.toNat)) (tC (V.int 10)) (tC (V.int 15)))) (gName 8)) tNext
          D [some (.ref a), some (.int k), some (.str key), some (.int co), some (.int mo), some (.str txt), some (.int num), some x, some (.bl b), y9] H10 := fun b hb y9 D dn => by
      subst hb
      have dn := dn H10 (Same.refl _)
      rcases hk10 with rfl | ⟨j, rfl⟩ | ⟨s', rfl, hsl⟩ | ⟨c, xs, rfl, hc, hcl⟩
      · wtm_at "xs"
        exact dn
      · wtm_at "xs"
        have e15 : (10 : Int) ^ Int.toNat 15 = 10 ^ 15 := rfl
        rw [e15]
        have e : isVal (.int j) = (decide (-(10 ^ 15) ≤ j) && decide (j ≤ 10 ^ 15)) := rfl
        rw [e] at dn
        refine Xk.x_itd (fun a3 => ?_) (fun a3 => ?_)
        · rw [decide_eq_true a3, Bool.true_and] at dn
          wtm_at "xs"
          exact dn
        · rw [decide_eq_false a3, Bool.false_and] at dn
          exact dn
      · have e : isVal (.str s') = s20 (.str s') := by
          show (decide (s'.length ≤ 20) && Xk.AllC tx s') = decide ((s'.length : Int) ≤ 20)
          rw [hs _ rfl, Bool.and_true]
          exact decide_eq_decide.mpr (by omega)
        rw [e] at dn
        wtm_at "xs"
        exact dn
      · wtm_at "xs"
        exact dn
    refine ⟨_, rfl, Xk.x_itb (fun hx => ?_) (fun hx => ?_)⟩
    · obtain ⟨s', hxs⟩ : ∃ s' : Str, x = .str s' := by
        cases x <;> first | exact ⟨_, rfl⟩ | cases hx
      have hsl : s'.length ≤ 1000 := by
        rcases hk10 with e | ⟨j, e⟩ | ⟨t, e, hsl⟩ | ⟨c, xs, e, hc, hcl⟩
        · rw [hxs] at e
          cases e
        · rw [hxs] at e
          cases e
        · rw [hxs] at e
          cases e
          exact hsl
        · rw [hxs] at e
          cases e
      wtm_at "xs"
      refine x_lenS hxs hsl ?_
      wtm_at "xs"
      refine Xk.x_cut (fun σ' H' => Same H10 H' ∧ σ' = [some (.ref a), some (.int k), some (.str key), some (.int co), some (.int mo), some (.str txt), some (.int num), some x, some (.bl (isVal x)), y9]) (cut _ (by rw [hxs]; rfl) _ _ fun H' s => ⟨s, rfl⟩) ?_
      clear hxs
      rintro σ' H11 ⟨s11, rfl⟩
      have hk11 := hk10.same s11
      have hd11 := hd10.same s11
      refine Xk.x_nocut ?_
      wtm_at "xs"
      refine ⟨_, rfl, hk11, fun H12 s12 => ?_⟩
      wtm_at "xs"
      refine ⟨_, rfl, ?_⟩
      wtm_at "xs"
      intro ep H13 hep s13 h13
      have hk13 := hk11.same (s12.trans s13)
      have hd13 := hd11.same (s12.trans s13)
      have s8d := ((s9.trans s10).trans s11).trans (s12.trans s13)
      clear hk11 hd11 s12 s13 s11 cut
      refine Xk.x_forL (xs := [.non, .str key, .str txt, .int num, .str ""]) (fun i σ' H' => ∃ y8 y9 : Option V, σ' = [some (.ref a), some (.int k), some (.str key), some (.int co), some (.int mo), some (.str txt), some (.int num), some x, y8, y9] ∧ Same H13 H') (Xk.sq_of h13)
        ⟨_, _, rfl, Same.refl _⟩ (fun i σ' H' _ ⟨_, _, _, s⟩ => Xk.sq_of (s _ _ h13)) ?_ ?_
      · rintro i2 e σ' H14 he ⟨y8, y9, rfl, s14⟩
        have hke : Kd H14 e := by
          have he := List.mem_of_getElem? he
          simp only [List.mem_cons, List.not_mem_nil, or_false] at he
          rcases he with rfl | rfl | rfl | rfl | rfl
          · exact .inl rfl
          · exact .inr (.inr (.inl ⟨_, rfl, by omega⟩))
          · exact .inr (.inr (.inl ⟨_, rfl, by omega⟩))
          · exact .inr (.inl ⟨_, rfl⟩)
          · exact .inr (.inr (.inl ⟨_, rfl, by decide⟩))
        have hk14 := hk13.same s14
        have hd14 := hd13.same s14
        have fin : ∀ b : Bool, b = isRng x e → ∀ D : Ends, (∀ H', Same H14 H' → D.nx [some (.ref a), some (.int k), some (.str key), some (.int co), some (.int mo), some (.str txt), some (.int num), some x, some (.bl b), some e] H') →
            tIfS (tNot (tB (tCall (sp__law_is K) [] E0 (tCons (tCall (sp_is_range K) [] E0 (tCons (tVar 7) (tCons (tVar 9) tNil))) (tCons (tVar 8) tNil))))) (tRet (tC (V.bl false))) tNext
              D [some (.ref a), some (.int k), some (.str key), some (.int co), some (.int mo), some (.str txt), some (.int num), some x, some (.bl b), some e] H14 := fun b hb D dn => by
          subst hb
          wtm_at "xs"
          refine ⟨x, e, d, rfl, hk14, hd14, hke, fun H15 s15 => ?_⟩
          wtm_at "xs"
          refine ⟨_, rfl, ?_⟩
          wtm_at "xs"
          exact dn _ s15
        wtm_at "xs"
        refine x_eqE hd14 ?_
        refine ⟨_, rfl, Xk.x_itd (fun h1 => ?_) (fun h1 => ?_)⟩
        · refine ⟨_, rfl, ?_⟩
          rw [if_pos rfl]
          wtm_at "xs"
          refine Xk.x_itd (fun h3 => ?_) (fun h3 => ?_)
          · exact fin _ (by unfold isRng; rw [decide_eq_true h1, Bool.true_or, decide_eq_true h3]; rfl) _ fun H' s => ⟨_, _, rfl, s14.trans s⟩
          · wtm_at "xs"
            refine ⟨e, rfl, hke, ?_⟩
            exact fin _ (by unfold isRng; rw [decide_eq_true h1, Bool.true_or, decide_eq_false h3, Bool.false_or, Bool.true_and]) _ fun H' s => ⟨_, _, rfl, s14.trans s⟩
        · wtm_at "xs"
          refine ⟨x, rfl, hk14, ?_⟩
          refine ⟨_, rfl, Xk.x_itb (fun h2 => ?_) (fun h2 => ?_)⟩
          · wtm_at "xs"
            refine Xk.x_itd (fun h3 => ?_) (fun h3 => ?_)
            · exact fin _ (by unfold isRng; rw [h2, Bool.or_true, decide_eq_true h3]; rfl) _ fun H' s => ⟨_, _, rfl, s14.trans s⟩
            · wtm_at "xs"
              refine ⟨e, rfl, hke, ?_⟩
              exact fin _ (by unfold isRng; rw [h2, Bool.or_true, decide_eq_false h3, Bool.false_or, Bool.true_and]) _ fun H' s => ⟨_, _, rfl, s14.trans s⟩
          · exact fin _ (by unfold isRng; rw [h2, decide_eq_false h1]; rfl) _ fun H' s => ⟨_, _, rfl, s14.trans s⟩
      · rintro σ' H14 ⟨y8, y9, rfl, s14⟩
        exact ⟨_, _, _, rfl, s8d.trans s14⟩
    · wtm_at "xs"
      refine Xk.x_cut (fun σ' H' => Same H10 H' ∧ σ' = [some (.ref a), some (.int k), some (.str key), some (.int co), some (.int mo), some (.str txt), some (.int num), some x, some (.bl (isVal x)), y9]) (cut _ (by cases x <;> first | rfl | cases hx) _ _ fun H' s => ⟨s, rfl⟩) ?_
      rintro σ' H11 ⟨s11, rfl⟩
      have hk11 := hk10.same s11
      have hd11 := hd10.same s11
      refine Xk.x_nocut ?_
      wtm_at "xs"
      refine ⟨_, rfl, hk11, fun H12 s12 => ?_⟩
      wtm_at "xs"
      refine ⟨_, rfl, ?_⟩
      wtm_at "xs"
      intro ep H13 hep s13 h13
      have hk13 := hk11.same (s12.trans s13)
      have hd13 := hd11.same (s12.trans s13)
      have s8d := ((s9.trans s10).trans s11).trans (s12.trans s13)
      clear hk11 hd11 s12 s13 s11 cut
      refine Xk.x_forL (xs := [.non, .str key, .str txt, .int num, .str ""]) (fun i σ' H' => ∃ y8 y9 : Option V, σ' = [some (.ref a), some (.int k), some (.str key), some (.int co), some (.int mo), some (.str txt), some (.int num), some x, y8, y9] ∧ Same H13 H') (Xk.sq_of h13)
        ⟨_, _, rfl, Same.refl _⟩ (fun i σ' H' _ ⟨_, _, _, s⟩ => Xk.sq_of (s _ _ h13)) ?_ ?_
      · rintro i2 e σ' H14 he ⟨y8, y9, rfl, s14⟩
        have hke : Kd H14 e := by
          have he := List.mem_of_getElem? he
          simp only [List.mem_cons, List.not_mem_nil, or_false] at he
          rcases he with rfl | rfl | rfl | rfl | rfl
          · exact .inl rfl
          · exact .inr (.inr (.inl ⟨_, rfl, by omega⟩))
          · exact .inr (.inr (.inl ⟨_, rfl, by omega⟩))
          · exact .inr (.inl ⟨_, rfl⟩)
          · exact .inr (.inr (.inl ⟨_, rfl, by decide⟩))
        have hk14 := hk13.same s14
        have hd14 := hd13.same s14
        have fin : ∀ b : Bool, b = isRng x e → ∀ D : Ends, (∀ H', Same H14 H' → D.nx [some (.ref a), some (.int k), some (.str key), some (.int co), some (.int mo), some (.str txt), some (.int num), some x, some (.bl b), some e] H') →
            tIfS (tNot (tB (tCall (sp__law_is K) [] E0 (tCons (tCall (sp_is_range K) [] E0 (tCons (tVar 7) (tCons (tVar 9) tNil))) (tCons (tVar 8) tNil))))) (tRet (tC (V.bl false))) tNext
              D [some (.ref a), some (.int k), some (.str key), some (.int co), some (.int mo), some (.str txt), some (.int num), some x, some (.bl b), some e] H14 := fun b hb D dn => by
          subst hb
          wtm_at "xs"
          refine ⟨x, e, d, rfl, hk14, hd14, hke, fun H15 s15 => ?_⟩
          wtm_at "xs"
          refine ⟨_, rfl, ?_⟩
          wtm_at "xs"
          exact dn _ s15
        wtm_at "xs"
        refine x_eqE hd14 ?_
        refine ⟨_, rfl, Xk.x_itd (fun h1 => ?_) (fun h1 => ?_)⟩
        · refine ⟨_, rfl, ?_⟩
          rw [if_pos rfl]
          wtm_at "xs"
          refine Xk.x_itd (fun h3 => ?_) (fun h3 => ?_)
          · exact fin _ (by unfold isRng; rw [decide_eq_true h1, Bool.true_or, decide_eq_true h3]; rfl) _ fun H' s => ⟨_, _, rfl, s14.trans s⟩
          · wtm_at "xs"
            refine ⟨e, rfl, hke, ?_⟩
            exact fin _ (by unfold isRng; rw [decide_eq_true h1, Bool.true_or, decide_eq_false h3, Bool.false_or, Bool.true_and]) _ fun H' s => ⟨_, _, rfl, s14.trans s⟩
        · wtm_at "xs"
          refine ⟨x, rfl, hk14, ?_⟩
          refine ⟨_, rfl, Xk.x_itb (fun h2 => ?_) (fun h2 => ?_)⟩
          · wtm_at "xs"
            refine Xk.x_itd (fun h3 => ?_) (fun h3 => ?_)
            · exact fin _ (by unfold isRng; rw [h2, Bool.or_true, decide_eq_true h3]; rfl) _ fun H' s => ⟨_, _, rfl, s14.trans s⟩
            · wtm_at "xs"
              refine ⟨e, rfl, hke, ?_⟩
              exact fin _ (by unfold isRng; rw [h2, Bool.or_true, decide_eq_false h3, Bool.false_or, Bool.true_and]) _ fun H' s => ⟨_, _, rfl, s14.trans s⟩
          · exact fin _ (by unfold isRng; rw [h2, decide_eq_false h1]; rfl) _ fun H' s => ⟨_, _, rfl, s14.trans s⟩
      · rintro σ' H14 ⟨y8, y9, rfl, s14⟩
        exact ⟨_, _, _, rfl, s8d.trans s14⟩
  · rintro σ' H9 ⟨y7, y8, y9, rfl, s9⟩
    wtm_at "xs"
    exact q _ (s08.trans s9)
--CUT--
abbrev Kvs := List (Key × V)
def VOk (v : V) : Prop := (∃ i, v = .int i) ∨ ∃ s : Str, v = .str s ∧ s.length ≤ 20 ∧ Xk.AllC tx s = true
/-- rows of the keys that the law draws -/
structure KvOk (ks : List Str) (kvs : Kvs) : Prop where
  nd : (kvs.map (·.1)).Nodup
  ok : ∀ p ∈ kvs, (∃ k ∈ ks, p.1 = Sum.inr k) ∧ VOk p.2
theorem val_mem {kvs : Kvs} {k : Key} {v : V} (h : valV kvs k = some v) : (k, v) ∈ kvs := by
  unfold valV at h
  obtain ⟨p, hp, rfl⟩ := Option.map_eq_some_iff.mp h
  have h1 := List.mem_of_find?_eq_some hp
  have h2 := List.find?_some hp
  have h3 : p.1 = k := of_decide_eq_true h2
  rw [← h3]
  exact h1
theorem KvOk.val {ks : List Str} {kvs : Kvs} (h : KvOk ks kvs) {k : Key} {v : V} (e : valV kvs k = some v) : VOk v := (h.ok _ (val_mem e)).2
theorem KvOk.put {ks : List Str} {kvs : Kvs} (h : KvOk ks kvs) {k : Str} {v : V} (hk : k ∈ ks) (hv : VOk v) : KvOk ks (putK kvs (Sum.inr k) v) ∧ (putK kvs (Sum.inr k) v).length ≤ kvs.length + 1 := by
  cases e : valV kvs (Sum.inr k) with
  | none =>
    refine ⟨⟨nd_putK v h.nd e, ?_⟩, ?_⟩
    · rw [putK_new v e]
      intro p hp
      rcases List.mem_append.mp hp with hp | hp
      · exact h.ok p hp
      · rw [List.mem_singleton.mp hp]
        exact ⟨⟨k, hk, rfl⟩, hv⟩
    · rw [putK_new v e, List.length_append]
      exact Nat.le_refl _
  | some u =>
    have e2 : putK kvs (Sum.inr k) v = kvs.map fun kv => if kv.1 = Sum.inr k then (kv.1, v) else kv := by
      unfold putK
      rw [valV_any, e]
      rfl
    rw [e2]
    refine ⟨⟨?_, ?_⟩, by rw [List.length_map]; omega⟩
    · rw [List.map_map]
      have e3 : ((fun x : Key × V => x.1) ∘ fun kv : Key × V => if kv.1 = Sum.inr k then (kv.1, v) else kv) = fun x => x.1 := by
        funext x
        simp only [Function.comp]
        split <;> rfl
      rw [e3]
      exact h.nd
    · intro p hp
      obtain ⟨q, hq, rfl⟩ := List.mem_map.mp hp
      have h4 := h.ok q hq
      split
      · exact ⟨h4.1, hv⟩
      · exact h4
theorem put_get (kvs : Kvs) (k : Str) (v : V) : valV (putK kvs (Sum.inr k) v) (Sum.inr k) = some v := by
  rw [valV_put, if_pos rfl]
theorem KvOk.keys {ks : List Str} : ∀ {kvs : Kvs}, (∀ p ∈ kvs, (∃ k ∈ ks, p.1 = Sum.inr k) ∧ VOk p.2) → ∃ ts : List Str, kvs.map (·.1) = ts.map Sum.inr ∧ ∀ t ∈ ts, t ∈ ks
  | [], _ => ⟨[], rfl, fun t z => by cases z⟩
  | p :: r, h => by
    obtain ⟨ts, e, m⟩ := KvOk.keys (kvs := r) fun p hp => h p (List.mem_cons_of_mem _ hp)
    obtain ⟨⟨k, hk, e2⟩, _⟩ := h p (List.mem_cons_self ..)
    refine ⟨k :: ts, by rw [List.map_cons, List.map_cons, e, e2], fun t ht => ?_⟩
    rcases List.mem_cons.mp ht with rfl | ht
    · exact hk
    · exact m t ht
theorem KvOk.few {ks : List Str} {kvs : Kvs} (h : KvOk ks kvs) : kvs.length ≤ ks.length := by
  obtain ⟨ts, e, m⟩ := KvOk.keys h.ok
  have nd := h.nd
  rw [e] at nd
  have nd2 : ts.Nodup := by
    rw [List.nodup_iff_pairwise_ne] at nd ⊢
    exact (List.pairwise_map.mp nd).imp fun h z => h (congrArg _ z)
  have hl := congrArg List.length e
  rw [List.length_map, List.length_map] at hl
  rw [hl]
  exact nd2.length_le_of_subset m
theorem rise_pair : ∀ {l : List Str} {p : Str}, risingS p l = true → (p :: l).Pairwise (fun a b : Str => a.cps.toList ≤ b.cps.toList)
  | [], p, _ => List.pairwise_singleton _ _
  | x :: r, p, h => by
    have h2 : (!ltCps x.cps.toList p.cps.toList && risingS x r) = true := h
    rw [Bool.and_eq_true, ltCps_eq, Bool.not_eq_true', decide_eq_false_iff_not] at h2
    have h3 := rise_pair h2.2
    have h4 : p.cps.toList ≤ x.cps.toList := List.not_lt.mp h2.1
    refine List.pairwise_cons.mpr ⟨fun y hy => ?_, h3⟩
    rcases List.mem_cons.mp hy with rfl | hy
    · exact h4
    · exact List.le_trans h4 ((List.pairwise_cons.mp h3).1 y hy)
theorem srtS_pair {l : List Str} (h : sortedS l = true) : l.Pairwise (fun a b : Str => a.cps.toList ≤ b.cps.toList) := by
  cases l with
  | nil => exact .nil
  | cons p r => exact rise_pair h
theorem srtS_eq {xs ys : List Str} (p : xs.Perm ys) (h1 : sortedS xs = true) (h2 : sortedS ys = true) : xs = ys :=
  p.eq_of_pairwise (fun a b _ _ h h' => by
    have e := List.le_antisymm h h'
    cases a
    cases b
    exact congrArg Str.mk (Array.toList_inj.mp e)) (srtS_pair h1) (srtS_pair h2)
theorem pair_rise : ∀ {l : List Str} {p : Str}, (p :: l).Pairwise (fun a b : Str => a.cps.toList ≤ b.cps.toList) → risingS p l = true
  | [], p, _ => rfl
  | x :: r, p, h => by
    obtain ⟨h1, h2⟩ := List.pairwise_cons.mp h
    show (!ltCps x.cps.toList p.cps.toList && risingS x r) = true
    rw [pair_rise h2, Bool.and_true, ltCps_eq, Bool.not_eq_true', decide_eq_false_iff_not]
    exact List.not_lt.mpr (h1 x (List.mem_cons_self ..))
theorem pair_srtS {l : List Str} (h : l.Pairwise (fun a b : Str => a.cps.toList ≤ b.cps.toList)) : sortedS l = true := by
  cases l with
  | nil => rfl
  | cons p r => exact pair_rise h
theorem pk_strs {H : Hp} {n : Nat} : ∀ ts : List Str, (∀ t ∈ ts, Xk.AllC Xk.okC t = true) → Xk.PkAll K H n (ts.map V.str) (ts.map PyData.str)
  | [], _ => Xk.pk_nil
  | t :: r, h => Xk.pk_cons (Xk.pk_str (Xk.lay_str (h t (List.mem_cons_self ..)))) (pk_strs r fun t ht => h t (List.mem_cons_of_mem _ ht))
theorem vok_flat {v : V} (h : VOk v) : flatB v = true := by
  rcases h with ⟨i, rfl⟩ | ⟨s', rfl, _⟩ <;> rfl
theorem alike_sub {ks : List Str} {a b : Kvs} (ha : KvOk ks a) (h : ∀ t, valV a (Sum.inr t) = valV b (Sum.inr t)) : ∀ k ∈ a.map (·.1), k ∈ b.map (·.1) := fun k hk => by
  obtain ⟨p, hp, rfl⟩ := List.mem_map.mp hk
  obtain ⟨⟨t, _, e⟩, _⟩ := ha.ok p hp
  have h1 := val_nodup ha.nd p hp
  rw [e, h t] at h1
  rw [e]
  exact List.mem_map.mpr ⟨_, val_mem h1, rfl⟩
theorem alike_len {ks : List Str} {a b : Kvs} (ha : KvOk ks a) (hb : KvOk ks b) (h : ∀ t, valV a (Sum.inr t) = valV b (Sum.inr t)) : a.length = b.length := by
  have h1 := ha.nd.length_le_of_subset (alike_sub ha h)
  have h2 := hb.nd.length_le_of_subset (alike_sub hb fun t => (h t).symm)
  rw [List.length_map, List.length_map] at h1 h2
  omega
theorem nodup_inr : ∀ {u : List Str}, (u.map (Sum.inr : Str → Key)).Nodup → u.Nodup
  | [], _ => .nil
  | x :: r, h => by
    obtain ⟨h1, h2⟩ := List.nodup_cons.mp h
    exact List.nodup_cons.mpr ⟨fun z => h1 (List.mem_map_of_mem z), nodup_inr h2⟩
theorem keys_perm {ks : List Str} {a b : Kvs} (ha : KvOk ks a) (hb : KvOk ks b) (h : ∀ t, valV a (Sum.inr t) = valV b (Sum.inr t)) {u v : List Str} (hu : a.map (·.1) = u.map Sum.inr) (hv : b.map (·.1) = v.map Sum.inr) : u.Perm v := by
  have n1 : u.Nodup := by
    have z := ha.nd
    rw [hu] at z
    exact nodup_inr z
  have n2 : v.Nodup := by
    have z := hb.nd
    rw [hv] at z
    exact nodup_inr z
  refine (List.perm_ext_iff_of_nodup n1 n2).mpr fun t => ⟨fun m => ?_, fun m => ?_⟩
  · have z := alike_sub ha h (Sum.inr t) (by rw [hu]; exact List.mem_map_of_mem m)
    rw [hv] at z
    obtain ⟨x, hx, e⟩ := List.mem_map.mp z
    cases e
    exact hx
  · have z := alike_sub hb (fun t => (h t).symm) (Sum.inr t) (by rw [hv]; exact List.mem_map_of_mem m)
    rw [hu] at z
    obtain ⟨x, hx, e⟩ := List.mem_map.mp z
    cases e
    exact hx
theorem lt_map : ∀ a b : List Nat, (a.map (fun c => ((c : Nat) : Int)) < b.map (fun c => ((c : Nat) : Int))) ↔ a < b
  | [], [] => ⟨fun h => absurd h (List.not_lt_nil _), fun h => absurd h (List.not_lt_nil _)⟩
  | [], y :: s => ⟨fun _ => List.nil_lt_cons .., fun _ => List.nil_lt_cons ..⟩
  | x :: r, [] => ⟨fun h => absurd h (List.not_lt_nil _), fun h => absurd h (List.not_lt_nil _)⟩
  | x :: r, y :: s => by
    simp only [List.map_cons, List.cons_lt_cons_iff, lt_map r s, Int.ofNat_lt, Int.ofNat_inj]
theorem lt_codes (a b : Str) : (codes a < codes b) ↔ (a.cps.toList < b.cps.toList) := lt_map _ _
theorem le_codes (a b : Str) : (codes a ≤ codes b) ↔ (a.cps.toList ≤ b.cps.toList) := by
  rw [← List.not_lt, ← List.not_lt, lt_codes]
theorem codes_inj {a b : Str} (h : codes a = codes b) : a = b := by
  have e : a.cps.toList = b.cps.toList := by
    unfold codes at h
    exact (List.map_inj_right (fun x y z => Int.ofNat.inj z)).mp h
  cases a
  cases b
  exact congrArg Str.mk (Array.toList_inj.mp e)
theorem sort_codes {L : List (Addr × Str)} {ys : List Str} (hp : ys.Perm (L.map (·.2))) (hs : sortedS ys = true) : ∃ zs : List (Addr × Str), ((L.map fun e => (V.ref e.1, PyData.list ((codes e.2).map .int))).mergeSort (PySem.W.dataLe false (·.2))).map (·.1) = zs.map (fun e => V.ref e.1) ∧ zs.Perm L ∧ zs.map (·.2) = ys := by
  have e : (L.map fun e : Addr × Str => (V.ref e.1, PyData.list ((codes e.2).map .int))).mergeSort (PySem.W.dataLe false (·.2)) = (L.mergeSort fun a b => decide (codes a.2 ≤ codes b.2)).map fun e => (V.ref e.1, PyData.list ((codes e.2).map .int)) := by
    refine (List.map_mergeSort fun a _ b _ => ?_).symm
    exact (congrFun (congrFun (PySem.W.dataLe_rows (fun e : Addr × Str => codes e.2)) a) b).symm
  refine ⟨L.mergeSort fun a b => decide (codes a.2 ≤ codes b.2), ?_, List.mergeSort_perm .., ?_⟩
  · rw [e, List.map_map]
    rfl
  · refine srtS_eq (((List.mergeSort_perm L _).map _).trans hp.symm) (pair_srtS ?_) hs
    rw [List.pairwise_map]
    refine (List.pairwise_mergeSort (fun a b c h1 h2 => ?_) (fun a b => ?_) L).imp fun h => (le_codes _ _).mp (of_decide_eq_true h)
    · have h1 := (le_codes _ _).mp (of_decide_eq_true h1)
      have h2 := (le_codes _ _).mp (of_decide_eq_true h2)
      exact decide_eq_true ((le_codes _ _).mpr (List.le_trans h1 h2))
    · rw [Bool.or_eq_true]
      rcases List.le_total a.2.cps.toList b.2.cps.toList with h | h
      · exact .inl (decide_eq_true ((le_codes _ _).mpr h))
      · exact .inr (decide_eq_true ((le_codes _ _).mpr h))
theorem lt_data (a b : Str) : PySem.W.dataLt (.list ((codes a).map .int)) (.list ((codes b).map .int)) = decide (a.cps.toList < b.cps.toList) := by
  rw [PySem.W.dataLt_list]
  have h := PySem.W.dataLt_ints (codes a) (codes b)
  unfold PySem.W.rowLt at h
  rw [h]
  exact decide_eq_decide.mpr (lt_codes a b)
theorem alike_codes (a b : Str) : PySem.W.alike (.list ((codes a).map .int)) (.list ((codes b).map .int)) = true := by
  show PySem.W.alikeAll _ _ = true
  exact PySem.W.alike_ints _ _
/-- rows that the law draws: each key has its place -/
structure RwOk (ks : List Str) (kvs : Kvs) : Prop where
  kv : KvOk ks kvs
  al : ∀ k ∈ ks, (valV kvs (Sum.inr k)).isSome = true
theorem RwOk.snoc {ks : List Str} {kvs : Kvs} (h : RwOk ks kvs) (k : Str) (n : Int) : RwOk (ks ++ [k]) (putK kvs (Sum.inr k) (.int n)) := by
  have h1 : KvOk (ks ++ [k]) kvs := ⟨h.kv.nd, fun p hp => by
    obtain ⟨⟨t, ht, e⟩, v⟩ := h.kv.ok p hp
    exact ⟨⟨t, List.mem_append_left _ ht, e⟩, v⟩⟩
  refine ⟨(h1.put (List.mem_append_right _ (List.mem_singleton.mpr rfl)) (.inl ⟨n, rfl⟩)).1, fun t ht => ?_⟩
  rw [valV_put]
  by_cases e : (Sum.inr t : Key) = Sum.inr k
  · rw [if_pos e]
    rfl
  · rw [if_neg e]
    rcases List.mem_append.mp ht with m | m
    · exact h.al t m
    · exact absurd (congrArg _ (List.mem_singleton.mp m)) e
--CUT--
theorem len_take (z : Str) (n : Nat) : (cutS z none (some (n : Int))).length = min n z.length := by
  show (cutS z none (some (n : Int))).cps.size = _
  unfold cutS
  rw [HT.sIx_none, HT.sIx_nat]
  simp only [List.size_toArray, List.length_take, List.length_drop, Array.length_toList]
  have : z.length = z.cps.size := rfl
  omega
theorem dp_codes {H : Hp} {a : Addr} {s : Str} (h : H a = some (.lst ((codes s).map V.int))) : Dp K H (.ref a) (.list ((codes s).map .int)) := .lst (Xk.sq_of h) (Xk.pk_ints (n := 0) _).1
theorem depth_codes (s : Str) : (PyData.list ((codes s).map .int)).depth ≤ 9 := by
  rw [PyData.depth, PySem.W.depth_ints]
  decide
theorem x_leC {H : Hp} {Q : VK} {c d : Addr} {a b : Str} (h1 : H c = some (.lst ((codes a).map V.int))) (h2 : H d = some (.lst ((codes b).map V.int))) (q : Q (.bl (!decide (b.cps.toList < a.cps.toList))) H) : Xk.rLeD K (.ref c) (.ref d) H Q :=
  ⟨_, _, dp_codes h1, dp_codes h2, alike_codes _ _, (fun z => by cases z), Nat.le_trans (depth_codes _) (by decide), by rw [lt_data]; exact q⟩
theorem x_ltC {H : Hp} {Q : VK} {c d : Addr} {a b : Str} (h1 : H c = some (.lst ((codes a).map V.int))) (h2 : H d = some (.lst ((codes b).map V.int))) (q : Q (.bl (decide (a.cps.toList < b.cps.toList))) H) : Xk.rLtD K (.ref c) (.ref d) H Q :=
  ⟨_, _, dp_codes h1, dp_codes h2, alike_codes _ _, (fun z => by cases z), Nat.le_trans (depth_codes _) (by decide), by rw [lt_data]; exact q⟩
def pdv : V → PyData
  | .int i => .int i
  | .str s => .str s
  | _ => .none
theorem pk_vok {H : Hp} {n : Nat} {v : V} (h : VOk v) : Xk.Pk K H n v (pdv v) := by
  rcases h with ⟨i, rfl⟩ | ⟨s', rfl, _, h⟩
  · exact Xk.pk_int
  · exact Xk.pk_str (Xk.lay_str (Xk.allC_mono h tx_ok))
theorem pk_rows {H : Hp} : ∀ es : List (Addr × Str × V), (∀ e ∈ es, H e.1 = some (.tup [.str e.2.1, e.2.2]) ∧ Xk.AllC Xk.okC e.2.1 = true ∧ VOk e.2.2) → Xk.PkAll K H 3 (es.map fun e => V.ref e.1) ((es.map (·.2)).map fun p : Str × V => .tuple [.str p.1, pdv p.2])
  | [], _ => Xk.pk_nil
  | e :: r, h => by
    obtain ⟨h1, h2, h3⟩ := h e (List.mem_cons_self ..)
    exact Xk.pk_cons (Xk.pk_tup2 (n := 2) (Xk.st_of h1) (Xk.pk_str (Xk.lay_str h2)) (pk_vok h3)) (pk_rows r fun y hy => h y (List.mem_cons_of_mem _ hy))
theorem alike_all {ks : List Str} {a b : Kvs} (ha : KvOk ks a) (h : ∀ t, valV a (Sum.inr t) = valV b (Sum.inr t)) : ∀ p ∈ a, valV b p.1 = some p.2 ∧ flatB p.2 = true := fun p hp => by
  obtain ⟨⟨t, _, e⟩, v⟩ := ha.ok p hp
  have h1 := val_nodup ha.nd p hp
  rw [e, h t] at h1
  rw [e]
  exact ⟨h1, vok_flat v⟩
theorem gv_vok {ks : List Str} {kvs : Kvs} (h : RwOk ks kvs) {k : Str} (hk : k ∈ ks) : valV kvs (Sum.inr k) = some (gv kvs k) ∧ VOk (gv kvs k) := by
  have z := h.al k hk
  unfold gv
  cases e : valV kvs (Sum.inr k) with
  | none =>
    rw [e] at z
    cases z
  | some v => exact ⟨rfl, h.kv.val e⟩
theorem ex_sorted (us : List Str) : ∃ ys : List Str, ys.Perm us ∧ sortedS ys = true := by
  refine ⟨us.mergeSort fun a b => decide (a.cps.toList ≤ b.cps.toList), List.mergeSort_perm .., pair_srtS ?_⟩
  refine (List.pairwise_mergeSort (fun a b c h1 h2 => ?_) (fun a b => ?_) us).imp fun h => of_decide_eq_true h
  · exact decide_eq_true (List.le_trans (of_decide_eq_true h1) (of_decide_eq_true h2))
  · rw [Bool.or_eq_true]
    rcases List.le_total a.cps.toList b.cps.toList with h | h
    · exact .inl (decide_eq_true h)
    · exact .inr (decide_eq_true h)
theorem same_unlock {H H0 H' : Hp} {r : Addr} {o o' : HO} (hr : H r = some o) (e : H0 = upd H r o') (s : Same H0 H') : Same H (upd H' r o) := fun b u h => by
  by_cases z : b = r
  · rw [z, upd_same, ← hr, ← h, z]
  · rw [upd_ne z]
    refine s _ _ ?_
    rw [e, upd_ne z]
    exact h
theorem fr_back {p : Addr} {H H' : Hp} (h : Xk.Fr p H') (s : Same H H') : Xk.Fr p H := ⟨by
  cases e : H p with
  | none => rfl
  | some o =>
    have z := s _ _ e
    rw [h.is] at z
    cases z⟩
def sp_law (K : PySem.W.Frag) : Sp := fun vs H Q _ => ∃ (a : Addr) (ns : List Int), vs = [.ref a] ∧ SqL K H a (ns.map V.int) ∧ ns.length ≤ 63 ∧ ∀ H', Q (.bl true) H'
theorem ok_law (T : Txt K mg) : FnOk P w K mg base CX0 5 T.f_law T.d_law ["script"] (sp_law K) := by
  refine T.F_law.ok sc_law (fun vs H Q E h => ?_) (fun cdv A outer s H vs Q E hr h => ?_)
  · obtain ⟨a, ns, rfl, _⟩ := h
    rfl
  obtain ⟨a, ns, rfl, hS, hl, q⟩ := h
  refine ⟨_, (Evl.pss_cut (ps_if (pt_cmpR (Xk.k_neD (K := K) hr.units (by rfl)) (pe_lst (pa_cons (pe_glob (by rfl) T.g_KEY_SIGNS Xk.rel_int) (pa_cons (pe_glob (by rfl) T.g_VALUE_SIGNS Xk.rel_int) (pa_cons (pe_glob (by rfl) T.g_MOST_VALUE Xk.rel_int) pa_nil)))) (pe_lst (pa_cons (pe_int) (pa_cons (pe_int) (pa_cons (pe_op op_pow (pe_int) (pe_int)) pa_nil)))) (nomark _)) (pss_one (ps_ret (pe_bl))) pss_nil)
      (pss_cons (ps_for PassesOwn.never rfl (pi_range1 (by rfl) T.m_range (pa_cons (pe_int) pa_nil)) (pg_name (i := 1) sc_law.nd rfl (Or.inl rfl)) (pss_one (ps_if (pt_not (pt_val (pe_call (ok__law_kinds_hold T) (hr.mono (by decide)) (by rfl) T.g__law_kinds_hold T.F__law_kinds_hold.kp T.b__law_kinds_hold .nil pass0 (pa_cons (pv 0) (pa_cons (pv 1) pa_nil))))) (pss_one (ps_ret (pe_bl))) pss_nil)))
      (pss_cons (ps_set (i := 2) sc_law.nd rfl (Or.inl rfl) (pe_dnewK))
      (pss_cons (ps_asg (pe_call (ok__law_digits T) (hr.mono (by decide)) (by rfl) T.g__law_digits T.F__law_digits.kp T.b__law_digits .nil pass0 (pa_cons (pe_call (ok__law_row T) (hr.mono (by decide)) (by rfl) T.g__law_row T.F__law_row.kp T.b__law_row .nil pass0 (pa_cons (pv 0) (pa_cons (pe_int) pa_nil))) (pa_cons (pe_lst (pa_cons (pe_int) (pa_cons (pe_int) (pa_cons (pe_int) (pa_cons (pe_int) pa_nil))))) pa_nil))) (pg_lst rfl (pgs_cons (pg_name (i := 3) sc_law.nd rfl (Or.inl rfl)) (pgs_cons (pg_name (i := 4) sc_law.nd rfl (Or.inl rfl)) (pgs_cons (pg_name (i := 5) sc_law.nd rfl (Or.inl rfl)) (pgs_cons (pg_name (i := 6) sc_law.nd rfl (Or.inl rfl)) pgs_nil))))))
      (pss_cons (ps_set (i := 7) sc_law.nd rfl (Or.inl rfl) (pe_lst pa_nil))
      (pss_cons (ps_for PassesOwn.never rfl (pi_range1 (by rfl) T.m_range (pa_cons (pv 3) pa_nil)) (pg_name (i := 1) sc_law.nd rfl (Or.inl rfl)) (pss_cons (ps_set (i := 8) sc_law.nd rfl (Or.inl rfl) (pe_call (ok__law_key T) (hr.mono (by decide)) (by rfl) T.g__law_key T.F__law_key.kp T.b__law_key .nil pass0 (pa_cons (pe_call (ok__law_row T) (hr.mono (by decide)) (by rfl) T.g__law_row T.F__law_row.kp T.b__law_row .nil pass0 (pa_cons (pv 0) (pa_cons (pe_op op_add (pe_int) (pv 1)) pa_nil))) (pa_cons (pe_int) pa_nil))))
      (Evl.pss_cut (ps_if (PW.pt (pw_and (pt_cmpR op_gt (pv 1) (pe_int) (nomark _)) (pw_and1 (pt_cmpR op_eq (pe_op op_mod (pv 1) (pe_int)) (pe_int) (nomark _))))) (pss_one (ps_set (i := 8) sc_law.nd rfl (Or.inl rfl) (pe_slice sl_str (pe_op Xk.op_nAddS (pe_ix (Xk.k_ixL (K := K) (by rfl)) (pv 7) (pe_op op_sub (pv 1) (pe_int)) (fun _ _ => rfl)) (pv 8)) po_none (po_some (pe_int))))) pss_nil)
      (pss_cons (ps_expr (pe_bm PySem.F.plainAttrs_list PySem.F.slot_list_append PySem.F.type_list_append mt_append (pv 7) (pa_cons (pv 8) pa_nil)))
      (pss_one (ps_dput (hu_of hr) (pv 2) (pv 8) (pv 1) rfl))))))
      (pss_cons (ps_set (i := 9) sc_law.nd rfl (Or.inl rfl) (pe_str))
      (pss_cons (ps_set (i := 10) sc_law.nd rfl (Or.inl rfl) (pe_non))
      (Evl.pss_cut (ps_if (PW.pt (pw_and (pt_cmpR op_gt (pv 4) (pe_int) (nomark _)) (pw_and1 (pt_cmpR op_gt (pv 3) (pe_int) (nomark _))))) (pss_one (ps_set (i := 9) sc_law.nd rfl (Or.inl rfl) (pe_ix (Xk.k_ixL (K := K) (by rfl)) (pv 7) (pe_op op_mod (pv 5) (pv 3)) (fun _ _ => rfl)))) pss_nil)
      (Evl.pss_cut (ps_if (PW.pt (pw_and (pt_cmpR op_gt (pv 4) (pe_int) (nomark _)) (pw_and1 (pt_cmpR op_gt (pv 3) (pe_int) (nomark _))))) (pss_one (ps_set (i := 10) sc_law.nd rfl (Or.inl rfl) (pe_ix (Xk.k_ixL (K := K) (by rfl)) (pv 7) (pe_op op_mod (pv 6) (pv 3)) (fun _ _ => rfl)))) pss_nil)
      (Evl.pss_cut (ps_if (pt_cmpR op_eq (pv 4) (pe_int) (nomark _)) (pss_one (ps_set (i := 10) sc_law.nd rfl (Or.inl rfl) (pe_call (ok__law_key T) (hr.mono (by decide)) (by rfl) T.g__law_key T.F__law_key.kp T.b__law_key .nil pass0 (pa_cons (pe_call (ok__law_row T) (hr.mono (by decide)) (by rfl) T.g__law_row T.F__law_row.kp T.b__law_row .nil pass0 (pa_cons (pv 0) (pa_cons (pe_int) pa_nil))) (pa_cons (pe_int) pa_nil))))) pss_nil)
      (pss_cons (ps_set (i := 11) sc_law.nd rfl (Or.inl rfl) (pe_lst pa_nil))
      (pss_cons (ps_for PassesOwn.never rfl (pi_list (pe_callB (Xk.k_sortX (K := K) hr.units (by rfl)) (by rfl) T.m_sorted (by decide +kernel) (pa_cons (pe_lock (pe_lc (own := [("key", 8)]) (g := gName 8) (tt := tYes) rfl sc_law.nd  (pi_keys (pv 2)) (blkOk_by (N := N_law) (sc := defScope s_law) (own := [("key", 8)]) (by decide +kernel)) (fun _ _ _ _ _ => pg_name (i := 8) sc_law.nd rfl (Or.inl rfl)) (fun _ _ _ _ _ => pts_nil) (fun _ _ _ _ _ => (pe_call (ok__law_codes T) (hr.mono (by decide)) (by rfl) T.g__law_codes T.F__law_codes.kp T.b__law_codes .nil pass0 (pa_cons (pv 8) pa_nil))))) pa_nil))) (pg_name (i := 12) sc_law.nd rfl (Or.inl rfl)) (pss_one (ps_for PassesOwn.never rfl (pi_list (pe_callB (k_sortedE rfl) (by rfl) T.m_sorted (by decide +kernel) (pa_cons (pv 2) pa_nil))) (pg_name (i := 8) sc_law.nd rfl (Or.inl rfl)) (pss_cons (ps_set (i := 13) sc_law.nd rfl (Or.inl rfl) ((pe_and (pe_cmpR (Xk.k_leD (K := K) hr.units (by rfl)) (pe_call (ok__law_codes T) (hr.mono (by decide)) (by rfl) T.g__law_codes T.F__law_codes.kp T.b__law_codes .nil pass0 (pa_cons (pv 9) pa_nil)) (pv 12) (nomark _)) (pe_one ((pe_or (pe_cmpR Xk.op_nIsN (pv 10) (pe_non) (nomark _)) (pe_one (pe_cmpR (Xk.k_ltD (K := K) hr.units (by rfl)) (pv 12) (pe_call (ok__law_codes T) (hr.mono (by decide)) (by rfl) T.g__law_codes T.F__law_codes.kp T.b__law_codes .nil pass0 (pa_cons (pv 10) pa_nil)) (nomark _)))))))))
      (pss_one (ps_if (pt_cmpR (Xk.k_eqD (K := K) hr.units (by rfl)) (pe_call (ok__law_codes T) (hr.mono (by decide)) (by rfl) T.g__law_codes T.F__law_codes.kp T.b__law_codes .nil pass0 (pa_cons (pv 8) pa_nil)) (pv 12) (nomark _)) (Evl.pss_cut (ps_if (pt_not (pt_val (pe_call (ok__law_is T) (hr.mono (by decide)) (by rfl) T.g__law_is T.F__law_is.kp T.b__law_is .nil pass0 (pa_cons (pe_call (ok_key_in T) (hr.mono (by decide)) (by rfl) T.g_key_in T.F_key_in.kp T.b_key_in .nil pass0 (pa_cons (pv 8) (pa_cons (pv 9) (pa_cons (pv 10) pa_nil)))) (pa_cons (pv 13) pa_nil))))) (pss_one (ps_ret (pe_bl))) pss_nil)
      (pss_one (ps_if (pt_val (pv 13)) (pss_one (ps_expr (pe_bm PySem.F.plainAttrs_list PySem.F.slot_list_append PySem.F.type_list_append mt_append (pv 11) (pa_cons (pe_tup (pa_cons (pv 8) (pa_cons (pe_dget (hu_of hr) (pv 2) (pv 8) (fun _ _ => rfl)) pa_nil))) pa_nil)))) pss_nil))) pss_nil))))))
      (pss_cons (ps_set (i := 14) sc_law.nd rfl (Or.inl rfl) (pe_dnewK))
      (pss_cons (ps_for PassesOwn.never rfl (pi_list (pv 7)) (pg_name (i := 8) sc_law.nd rfl (Or.inl rfl)) (pss_one (ps_dput (hu_of hr) (pv 14) (pv 8) (pe_dget (hu_of hr) (pv 2) (pv 8) (fun _ _ => rfl)) rfl)))
      (pss_cons (ps_set (i := 15) sc_law.nd rfl (Or.inl rfl) (pe_call (ok_rows_in T) (hr.mono (by decide)) (by rfl) T.g_rows_in T.F_rows_in.kp T.b_rows_in .nil pass0 (pa_cons (pv 14) (pa_cons (pv 9) (pa_cons (pv 10) pa_nil)))))
      (pss_one (ps_ret ((pe_and (pe_callB (Xk.k_isi (K := K) (by rfl)) (by rfl) T.m_isinstance (by decide +kernel) (pa_cons (pv 15) (pa_cons (pe_bltn (v := .ty "tuple") (u := .type "tuple") (by rfl) T.m_tuple (by decide +kernel) Xk.rel_ty) pa_nil))) (pe_and (pe_cmpR (Xk.k_eqD (K := K) hr.units (by rfl)) (pv 15) (pe_callTy (Xk.k_tuple (K := K) (by rfl)) (by rfl) T.m_tuple (by decide +kernel) (pa_cons (pv 11) pa_nil)) (nomark _)) (pe_one (pe_cmpR (op_eq_dictA (Nat.lt_of_succ_lt (hu_of hr))) (pv 14) (pv 2) (nomark _)))))))))))))))))))))))), ?_⟩
  wtm_at "x0"
  refine Xk.x_nocut ?_
  wtm_at "xs"
  intro u1 H1 hu1 s1 h1
  wtm_at "xs"
  intro u2 H2 hu2 s2 h2
  wtm_at "xs"
  refine Xk.x_neInts (ns := [8, 20, 1000000000000000]) (ms := [8, 20, 1000000000000000]) (Xk.sq_of (s2 _ _ h1)) (Xk.sq_of h2) ?_
  have ha2 := Xk.sq_same hS (s1.trans s2)
  clear h1 h2 s1 s2 hS hu1 hu2
  wtm_at "xs"
  refine Xk.x_range (fun i σ' H' => ∃ y1 : Option V, σ' = [some (.ref a), y1, none, none, none, none, none, none, none, none, none, none, none, none, none, none] ∧ Same H2 H') ⟨by omega, by omega⟩ ⟨_, rfl, Same.refl _⟩ ?_ ?_
  · rintro i σ' H3 hi ⟨y1, rfl, s3⟩
    wtm_at "xs"
    refine ⟨a, _, ns, rfl, Xk.sq_same ha2 s3, hl, by omega, by omega, fun H4 s4 => ?_⟩
    wtm_at "xs"
    exact ⟨_, rfl, s3.trans s4⟩
  rintro σ' H3 ⟨y1, rfl, s3⟩
  have ha3 := Xk.sq_same ha2 s3
  clear ha2 s3
  wtm_at "xs"
  intro r H4 hr s4 hr4
  have ha4 := Xk.sq_same ha3 s4
  have s34 := s4
  wtm_at "xs"
  refine ⟨_, _, ns, rfl, ha4, hl, by omega, by omega, fun n1 hn1 => ?_⟩
  wtm_at "xs"
  intro p1 H5 hp1 s5 h5
  wtm_at "xs"
  refine ⟨_, _, [15, 4, 14, 14], rfl, Xk.sq_of h5, Nat.le_of_ble_eq_true rfl, ?_, fun p2 H6 ds hp2 s6 h6 hd hw => ?_⟩
  · intro z hz
    simp only [List.mem_cons, List.not_mem_nil, or_false] at hz
    omega
  obtain ⟨ma, kd, fi, se, rfl⟩ : ∃ a b c e, ds = [a, b, c, e] := by
    match ds, hd with
    | [a, b, c, e], _ => exact ⟨a, b, c, e, rfl⟩
  have b1 := hw 0 _ _ rfl rfl
  have b2 := hw 1 _ _ rfl rfl
  have b3 := hw 2 _ _ rfl rfl
  have b4 := hw 3 _ _ rfl rfl
  replace h6 : H6 p2 = some (.lst [.int ma, .int kd, .int fi, .int se]) := h6
  have ha6 := Xk.sq_same ha4 (s5.trans s6)
  have hr6 := (s5.trans s6) _ _ hr4
  have s36 := s34.trans (s5.trans s6)
  clear hw hd s5 s6 hp1 hp2 h5 ha4 s4 hr4 s34
  wtm_at "xs"
  intro kl H7 hkl s7 hkl7
  have hr7 := s7 _ _ hr6
  have s37 := s36.trans s7
  have hkl3 := fr_back hkl s36
  have nkr : kl ≠ r := fun z => by
    rw [z, hr7] at hkl7
    cases hkl7
  clear ha6 hr6 h6 s7 s36
  wtm_at "xs"
  refine Xk.x_range (fun i σ' H' => ∃ (y1 y8 : Option V) (ks : List Str) (kvs : Kvs), σ' = [some (.ref a), y1, some (.ref r), some (.int ma), some (.int kd), some (.int fi), some (.int se), some (.ref kl), y8, none, none, none, none, none, none, none] ∧ Same H3 H' ∧ H' kl = some (.lst (ks.map V.str)) ∧ H' r = some (.dK kvs) ∧ ks.length = i ∧ (∀ k ∈ ks, Xk.AllC al k = true ∧ k.length ≤ 8) ∧ RwOk ks kvs)
    ⟨by omega, by omega⟩ ⟨_, _, [], [], rfl, s37, hkl7, hr7, rfl, fun k hk => (by cases hk), ⟨⟨.nil, fun p hp => (by cases hp)⟩, fun k hk => (by cases hk)⟩⟩ ?_ ?_
  · clear s37 hr7 hkl7
    rintro i σ' H8 hi ⟨y1, y8, ks, kvs, rfl, s38, hkl8, hr8, hkn, hkk, hrw⟩
    have ha8 := Xk.sq_same ha3 s38
    have hfew := hrw.kv.few
    have few : kvs.length < 1000 := by omega
    wtm_at "xs"
    refine ⟨_, _, ns, rfl, ha8, hl, by omega, by omega, fun n2 hn2 => ?_⟩
    wtm_at "xs"
    refine ⟨_, _, rfl, hn2, by decide, by decide, fun s' hs1 hs2 hs3 => ?_⟩
    wtm_at "xs"
    refine Xk.x_cut (fun σ' H' => H' = H8 ∧ ∃ k : Str, σ' = [some (.ref a), some (.int i), some (.ref r), some (.int ma), some (.int kd), some (.int fi), some (.int se), some (.ref kl), some (.str k), none, none, none, none, none, none, none] ∧ Xk.AllC al k = true ∧ k.length ≤ 8) ?_ ?_
    · wtm_at "xs"
      refine Xk.x_itd (fun h1 => ?_) (fun h1 => ?_)
      · wtm_at "xs"
        refine Xk.x_itd (fun h2 => ?_) (fun h2 => ?_)
        · obtain ⟨k0, hk0⟩ := Xk.lt_at (xs := ks) (j := i - 1) (by omega)
          obtain ⟨hk01, hk02⟩ := hkk k0 (List.mem_of_getElem? hk0)
          wtm_at "xs"
          refine Xk.x_ixL (Xk.sq_of hkl8) (Xk.at_nat (j := i - 1) (by omega) (Xk.map_at hk0)) ?_
          have hlz : (k0 ++ s').length ≤ 100 := by
            rw [Xk.len_add]
            omega
          have hcz : (cutS (k0 ++ s') none (some 8)).length ≤ 8 := by
            have z : (cutS (k0 ++ s') none (some 8)).length = min 8 (k0 ++ s').length := len_take (k0 ++ s') 8
            rw [z]
            exact Nat.min_le_left ..
          have hcs : Xk.AllC al (cutS (k0 ++ s') none (some 8)) = true := Xk.allC_cut (Xk.allC_add hk01 hs1)
          wtm_at "xs"
          exact ⟨rfl, _, rfl, hcs, hcz⟩
        · wtm_at "xs"
          exact ⟨rfl, s', rfl, hs1, by omega⟩
      · wtm_at "xs"
        exact ⟨rfl, s', rfl, hs1, by omega⟩
    · rintro σ' H9 ⟨e9, k, rfl, hk1, hk2⟩
      subst e9
      wtm_at "xs"
      refine ⟨_, _, ks ++ [k], _, rfl, Xk.same_mut (Xk.same_mut s38 hkl3) hr, ?_, upd_same, ?_, fun t ht => ?_, hrw.snoc k i⟩
      · rw [upd_ne nkr, upd_same, List.map_append]
        rfl
      · rw [List.length_append, hkn]
        rfl
      · rcases List.mem_append.mp ht with ht | ht
        · exact hkk t ht
        · rw [List.mem_singleton.mp ht]
          exact ⟨hk1, hk2⟩
  clear s37 hr7 hkl7
  rintro σ' H8 ⟨y1, y8, ks, kvs, rfl, s38, hkl8, hr8, hkn, hkk, hrw⟩
  have ha8 := Xk.sq_same ha3 s38
  wtm_at "xs"
  have kin_s : ∀ f : Int, 0 ≤ f → 0 < ma → ∃ k : Str, k ∈ ks ∧ ks[(f % ma).toNat]? = some k := fun f hf hm => by
    obtain ⟨k, hk⟩ := Xk.lt_at (xs := ks) (j := (f % ma).toNat) (by rw [hkn]; have := Int.emod_lt_of_pos f hm; have := Int.emod_nonneg f (Int.ne_of_gt hm); omega)
    exact ⟨k, List.mem_of_getElem? hk, hk⟩
  refine Xk.x_cut (fun σ' H' => H' = H8 ∧ ∃ st : Str, σ' = [some (.ref a), y1, some (.ref r), some (.int ma), some (.int kd), some (.int fi), some (.int se), some (.ref kl), y8, some (.str st), some .non, none, none, none, none, none] ∧ Xk.AllC al st = true ∧ st.length ≤ 8) ?_ ?_
  · wtm_at "xs"
    refine Xk.x_itd (fun h1 => ?_) (fun h1 => ?_)
    · wtm_at "xs"
      refine Xk.x_itd (fun h2 => ?_) (fun h2 => ?_)
      · obtain ⟨k0, hm0, hk0⟩ := kin_s fi b3.1 h2
        wtm_at "xs"
        refine Xk.x_ixL (Xk.sq_of hkl8) (Xk.at_nat (j := (fi % ma).toNat) (Int.toNat_of_nonneg (Int.emod_nonneg _ (by omega))).symm (Xk.map_at hk0)) ?_
        exact ⟨rfl, _, rfl, hkk _ hm0⟩
      · wtm_at "xs"
        exact ⟨rfl, _, rfl, by decide +kernel, by decide +kernel⟩
    · wtm_at "xs"
      exact ⟨rfl, _, rfl, by decide +kernel, by decide +kernel⟩
  rintro σ' H9 ⟨e9, st, rfl, hst1, hst2⟩
  subst e9
  refine Xk.x_cut (fun σ' H' => H' = H9 ∧ ∃ en : V, σ' = [some (.ref a), y1, some (.ref r), some (.int ma), some (.int kd), some (.int fi), some (.int se), some (.ref kl), y8, some (.str st), some en, none, none, none, none, none] ∧ (en = .non ∨ ∃ t : Str, en = .str t ∧ Xk.AllC al t = true ∧ t.length ≤ 8)) ?_ ?_
  · wtm_at "xs"
    refine Xk.x_itd (fun h1 => ?_) (fun h1 => ?_)
    · wtm_at "xs"
      refine Xk.x_itd (fun h2 => ?_) (fun h2 => ?_)
      · obtain ⟨k0, hm0, hk0⟩ := kin_s se b4.1 h2
        wtm_at "xs"
        refine Xk.x_ixL (Xk.sq_of hkl8) (Xk.at_nat (j := (se % ma).toNat) (Int.toNat_of_nonneg (Int.emod_nonneg _ (by omega))).symm (Xk.map_at hk0)) ?_
        exact ⟨rfl, _, rfl, .inr ⟨_, rfl, hkk _ hm0⟩⟩
      · wtm_at "xs"
        exact ⟨rfl, _, rfl, .inl rfl⟩
    · wtm_at "xs"
      exact ⟨rfl, _, rfl, .inl rfl⟩
  rintro σ' H10 ⟨e9, en, rfl, hen⟩
  subst e9
  refine Xk.x_cut (fun σ' H' => H' = H10 ∧ ∃ en : V, σ' = [some (.ref a), y1, some (.ref r), some (.int ma), some (.int kd), some (.int fi), some (.int se), some (.ref kl), y8, some (.str st), some en, none, none, none, none, none] ∧ (en = .non ∨ ∃ t : Str, en = .str t ∧ Xk.AllC al t = true ∧ t.length ≤ 8)) ?_ ?_
  · wtm_at "xs"
    refine Xk.x_itd (fun h1 => ?_) (fun h1 => ?_)
    · wtm_at "xs"
      refine ⟨_, _, ns, rfl, ha8, hl, by omega, by omega, fun n2 hn2 => ?_⟩
      wtm_at "xs"
      refine ⟨_, _, rfl, hn2, by decide, by decide, fun s' hs1 hs2 hs3 => ?_⟩
      exact ⟨rfl, _, rfl, .inr ⟨_, rfl, hs1, by omega⟩⟩
    · wtm_at "xs"
      exact ⟨rfl, _, rfl, hen⟩
  rintro σ' H11 ⟨e9, en, rfl, hen⟩
  subst e9
  clear ha3 s38 ha8 kin_s hkl3 hr hkl nkr
  obtain ⟨us, hus, husk⟩ := KvOk.keys hrw.kv.ok
  have hul : us.length ≤ 14 := by
    have z := congrArg List.length hus
    rw [List.length_map, List.length_map] at z
    have := hrw.kv.few
    omega
  have hen2 : en = .non ∨ ∃ t, en = .str t := hen.imp_right fun ⟨t, e, _⟩ => ⟨t, e⟩
  wtm_at "xs"
  intro dl H12 hdl s12 hdl12
  have hkl12 := s12 _ _ hkl8
  have ndk : kl ≠ dl := Xk.ne_new hdl hkl8
  have hr12 := s12 _ _ hr8
  clear hkl8 hr8 s12
  wtm_at "xs"
  obtain ⟨ys, hyp, hyo⟩ := ex_sorted us
  have huk : ∀ t ∈ us, Xk.AllC al t = true ∧ t.length ≤ 8 := fun t ht => hkk t (husk t ht)
  refine Xk.x_lcK rfl hr12 fun od H0 hH0 => ⟨fun Dl i H' => Same H0 H' ∧ ∃ L : List (Addr × Str), H' Dl = some (.lst (L.map fun e => V.ref e.1)) ∧ (∀ e ∈ L, Xk.Fr e.1 H0 ∧ e.1 ≠ Dl ∧ H' e.1 = some (.lst ((codes e.2).map V.int))) ∧ L.map (·.2) = us.take i, ?_, ?_, ?_, ?_⟩
  · intro Dl hD
    exact ⟨Xk.same_fr hD, [], upd_same, fun e he => (by cases he), rfl⟩
  · rintro Dl i H' hD ⟨s, _⟩
    exact s _ _ (by rw [hH0]; exact upd_same)
  · rintro Dl hD i k v H' hi ⟨s2, L, h2, h3, h4⟩
    have z := congrArg (fun l => l[i]?) hus
    simp only [List.getElem?_map, hi, Option.map_some] at z
    obtain ⟨t, ht, e⟩ := Option.map_eq_some_iff.mp z.symm
    subst e
    have hLl := congrArg List.length h4
    rw [List.length_map, List.length_take] at hLl
    have htl := (huk t (List.mem_of_getElem? ht)).2
    wtm_at "xs"
    refine ⟨rfl, ?_⟩
    wtm_at "xs"
    refine ⟨t, rfl, by omega, fun H5 p s5 hp h5 => ?_⟩
    have npD : p ≠ Dl := (Xk.ne_new hp h2).symm
    refine ⟨_, s5 _ _ h2, Xk.size_lt (by rw [List.length_map]; omega), Xk.same_mut (s2.trans s5) hD, L ++ [(p, t)], by rw [upd_same, List.map_append]; rfl, fun e he => ?_, ?_⟩
    · rcases List.mem_append.mp he with he | he
      · obtain ⟨g1, g2, g3⟩ := h3 e he
        exact ⟨g1, g2, (upd_ne g2).trans (s5 _ _ g3)⟩
      · rw [List.mem_singleton.mp he]
        exact ⟨fr_back hp s2, npD, (upd_ne npD).trans h5⟩
    · rw [List.map_append, h4, List.take_add_one, ht]
      rfl
  · rintro Dl H' hD ⟨s2, L, h2, h3, h4⟩
    have hkul : kvs.length = us.length := by
      have z := congrArg List.length hus
      rw [List.length_map, List.length_map] at z
      exact z
    rw [hkul, List.take_length] at h4
    have sU := same_unlock hr12 hH0 s2
    have hr0 : H0 r = some (.frz od (.dK kvs)) := by rw [hH0]; exact upd_same
    have nDr : Dl ≠ r := (Xk.ne_new hD hr0).symm
    have h2U : upd H' r (.dK kvs) Dl = some (.lst (L.map fun e => V.ref e.1)) := (upd_ne nDr).trans h2
    have hdl0 : H0 dl = some (.lst []) := by
      rw [hH0]
      exact (upd_ne (fun z => by rw [z, hr12] at hdl12; cases hdl12)).trans hdl12
    have h3U : ∀ e ∈ L, e.1 ≠ dl ∧ upd H' r (.dK kvs) e.1 = some (.lst ((codes e.2).map V.int)) := fun e he => by
      obtain ⟨g1, g2, g3⟩ := h3 e he
      exact ⟨(Xk.ne_new g1 hdl0).symm, (upd_ne (Xk.ne_new g1 hr0).symm).trans g3⟩
    have nDd : Dl ≠ dl := (Xk.ne_new hD hdl0).symm
    have hrU := sU _ _ hr12
    have hklU := sU _ _ hkl12
    have hdlU := sU _ _ hdl12
    generalize upd H' r (.dK kvs) = H13 at *
    clear h2 h3 s2 hH0 hr0 hdl0 sU hr12 hkl12 hdl12 hD
    have hLp : ys.Perm (L.map (·.2)) := by rw [h4]; exact hyp
    obtain ⟨zs, hz1, hz2, hz3⟩ := sort_codes hLp hyo
    wtm_at "xs"
    refine ⟨Dl, L.map fun e => (V.ref e.1, PyData.list ((codes e.2).map .int)), rfl, Xk.sq_of (by rw [List.map_map]; exact h2U), fun b hb => ?_, ?_, ?_, fun p hp => ?_⟩
    · obtain ⟨e, he, rfl⟩ := List.mem_map.mp hb
      exact ⟨dp_codes (h3U e he).2, depth_codes _⟩
    · intro d hd d' hd'
      rw [List.map_map] at hd hd'
      obtain ⟨e, _, rfl⟩ := List.mem_map.mp hd
      obtain ⟨e', _, rfl⟩ := List.mem_map.mp hd'
      exact alike_codes _ _
    · refine .inr fun d hd => ?_
      rw [List.map_map] at hd
      obtain ⟨e, _, rfl⟩ := List.mem_map.mp hd
      exact ⟨fun z => (by cases z), fun xs z => by cases z⟩
    · rw [hz1]
      have sP : Same H13 (upd H13 p (.lst (zs.map fun e => V.ref e.1))) := Xk.same_new hp
      have hpl : upd H13 p (.lst (zs.map fun e => V.ref e.1)) p = some (.lst (zs.map fun e => V.ref e.1)) := upd_same
      have npd : p ≠ dl := fun z => by
        rw [z, hdlU] at hp
        cases hp
      generalize upd H13 p (.lst (zs.map fun e => V.ref e.1)) = H14 at *
      have hr14 := sP _ _ hrU
      have hkl14 := sP _ _ hklU
      have hdl14 := sP _ _ hdlU
      have hc14 : ∀ e ∈ zs, e.1 ≠ dl ∧ H14 e.1 = some (.lst ((codes e.2).map V.int)) := fun e he => by
        obtain ⟨g1, g2⟩ := h3U e (hz2.mem_iff.mp he)
        exact ⟨g1, sP _ _ g2⟩
      clear sP hrU hklU hdlU h3U hp h2U
      have nrd : r ≠ dl := fun z => by
        rw [z, hdl14] at hr14
        cases hr14
      have nkd : kl ≠ dl := ndk
      have usn : us.Nodup := by
        have z := hrw.kv.nd
        rw [hus] at z
        exact nodup_inr z
      have ysn : ys.Nodup := hyp.nodup_iff.mpr usn
      have hyl : ys.length ≤ 14 := by
        rw [hyp.length_eq]
        exact hul
      have hyk : ∀ t ∈ ys, t ∈ ks := fun t ht => husk t (hyp.mem_iff.mp ht)
      refine Xk.x_forL (xs := zs.map fun e => V.ref e.1) (fun i σ' H' => ∃ (y8 y12 y13 : Option V) (es : List (Addr × Str × V)), σ' = [some (.ref a), y1, some (.ref r), some (.int ma), some (.int kd), some (.int fi), some (.int se), some (.ref kl), y8, some (.str st), some en, some (.ref dl), y12, y13, none, none] ∧ Xk.But dl H14 H' ∧ H' dl = some (.lst (es.map fun e => V.ref e.1)) ∧ (∀ e ∈ es, H' e.1 = some (.tup [.str e.2.1, e.2.2])) ∧ es.map (·.2) = ((ys.take i).filter fun k => kin k st en).map (fun k => (k, gv kvs k))) (Xk.sq_of hpl)
        ⟨_, _, _, [], rfl, Xk.But.refl _ _, hdl14, fun e he => (by cases he), rfl⟩ (fun i σ' H' _ ⟨_, _, _, _, _, b, _⟩ => Xk.sq_of (b _ _ npd hpl)) ?_ ?_
      · rintro i x σ' H15 hx ⟨y8', y12, y13, es, rfl, b15, hd15, he15, hes⟩
        rw [List.getElem?_map] at hx
        obtain ⟨e, hze, rfl⟩ := Option.map_eq_some_iff.mp hx
        obtain ⟨ne1, hc⟩ := hc14 e (List.mem_of_getElem? hze)
        have hye : ys[i]? = some e.2 := by
          rw [← hz3, List.getElem?_map, hze]
          rfl
        have hc15 := b15 _ _ ne1 hc
        have hr15 := b15 _ _ nrd hr14
        have hek := hkk _ (hyk _ (List.mem_of_getElem? hye))
        have hil := Xk.at_lt hye
        wtm_at "xs"
        refine x_rSortD hr15 hus (by omega) fun q1 H16 ys' hy' so' hq1 s16 h16 => ?_
        rw [srtS_eq (hy'.trans hyp.symm) so' hyo] at h16
        have hc16 := s16 _ _ hc15
        have hr16 := s16 _ _ hr15
        have hd16 := s16 _ _ hd15
        have he16 : ∀ e ∈ es, H16 e.1 = some (.tup [.str e.2.1, e.2.2]) := fun e he => s16 _ _ (he15 e he)
        have b16 := Xk.but_trans b15 (Xk.but_same s16)
        have nq1 : q1 ≠ dl := (Xk.ne_new hq1 hd15).symm
        clear hc15 hr15 hd15 he15 b15 s16 hq1 so' hy'
        wtm_at "xs"
        refine Xk.x_forL (xs := ys.map V.str) (fun j σ' H' => ∃ (y8 y13 : Option V) (es : List (Addr × Str × V)), σ' = [some (.ref a), y1, some (.ref r), some (.int ma), some (.int kd), some (.int fi), some (.int se), some (.ref kl), y8, some (.str st), some en, some (.ref dl), some (.ref e.1), y13, none, none] ∧ Xk.But dl H16 H' ∧ H' dl = some (.lst (es.map fun e => V.ref e.1)) ∧ (∀ e ∈ es, H' e.1 = some (.tup [.str e.2.1, e.2.2])) ∧ es.map (·.2) = ((ys.take i).filter fun k => kin k st en).map (fun k => (k, gv kvs k)) ++ (if i < j ∧ kin e.2 st en = true then [(e.2, gv kvs e.2)] else [])) (Xk.sq_of h16)
          ⟨_, _, es, rfl, Xk.But.refl _ _, hd16, he16, by rw [hes, if_neg (fun z => Nat.not_lt_zero _ z.1), List.append_nil]⟩ (fun j σ' H' _ ⟨_, _, _, _, b, _⟩ => Xk.sq_of (b _ _ nq1 h16)) ?_ ?_
        · clear hd16 he16 hes es
          rintro j x σ' H17 hx ⟨y8, y13, es, rfl, b17, hd17, he17, hes⟩
          rw [List.getElem?_map] at hx
          obtain ⟨k, hyk2, rfl⟩ := Option.map_eq_some_iff.mp hx
          have hks := hyk _ (List.mem_of_getElem? hyk2)
          have hkk2 := hkk _ hks
          have hc17 := b17 _ _ ne1 hc16
          have hr17 := b17 _ _ nrd hr16
          have hel : es.length ≤ 30 := by
            have z := congrArg List.length hes
            rw [List.length_map, List.length_append, List.length_map] at z
            have z2 := List.length_filter_le (fun k => kin k st en) (ys.take i)
            rw [List.length_take] at z2
            have z3 : (if i < j ∧ kin e.2 st en = true then [(e.2, gv kvs e.2)] else []).length ≤ 1 := by
              split
              · exact Nat.le_refl _
              · exact Nat.zero_le _
            omega
          wtm_at "xs"
          have hij : k = e.2 → i = j := fun z => by
            rw [z, ← hye] at hyk2
            exact ((List.getElem?_inj hil ysn).mp hyk2.symm)
          have hji : i = j → k = e.2 := fun z => by
            rw [← z, hye] at hyk2
            exact (Option.some.inj hyk2).symm
          have fin : ∀ b : Bool, b = kin e.2 st en → ∀ (y13 : Option V) (D : Ends) (HX : Hp), Same H17 HX → (∀ (es : List (Addr × Str × V)) (H' : Hp), Xk.But dl H16 H' → H' dl = some (.lst (es.map fun e => V.ref e.1)) → (∀ e ∈ es, H' e.1 = some (.tup [.str e.2.1, e.2.2])) → es.map (·.2) = ((ys.take i).filter fun k => kin k st en).map (fun k => (k, gv kvs k)) ++ (if i < j + 1 ∧ kin e.2 st en = true then [(e.2, gv kvs e.2)] else []) →
              D.nx [some (.ref a), y1, some (.ref r), some (.int ma), some (.int kd), some (.int fi), some (.int se), some (.ref kl), some (.str k), some (.str st), some en, some (.ref dl), some (.ref e.1), some (.bl b), none, none] H') →
              tIfS (tTest (tOp (rEqD K) (tCall (sp__law_codes K) [] E0 (tCons (tVar 8) tNil)) (tVar 12))) (Evl.tCut (tIfS (tNot (tB (tCall (sp__law_is K) [] E0 (tCons (tCall (sp_key_in K) [] E0 (tCons (tVar 8) (tCons (tVar 9) (tCons (tVar 10) tNil)))) (tCons (tVar 13) tNil))))) (tRet (tC (V.bl false))) tNext) (tIfS (tB (tVar 13)) (tDrop (tBM K "list" rAppend (tVar 11) (tCons (tTup (tCons (tVar 8) (tCons (tDGet (tVar 2) (tVar 8)) tNil))) tNil))) tNext)) tNext
                D [some (.ref a), y1, some (.ref r), some (.int ma), some (.int kd), some (.int fi), some (.int se), some (.ref kl), some (.str k), some (.str st), some en, some (.ref dl), some (.ref e.1), some (.bl b), none, none] HX := fun b hb _ D HX sX dn => by
            wtm_at "xs"
            refine ⟨k, rfl, by omega, fun H19 c2 s19 hc2 h19 => ?_⟩
            have sY := sX.trans s19
            have hcY := sY _ _ hc17
            have hrY := sY _ _ hr17
            have hdY := sY _ _ hd17
            have heY : ∀ e ∈ es, H19 e.1 = some (.tup [.str e.2.1, e.2.2]) := fun e he => sY _ _ (he17 e he)
            have bY := Xk.but_trans b17 (Xk.but_same sY)
            clear sX s19
            wtm_at "xs"
            refine Xk.x_eqInts (Xk.sq_of h19) (Xk.sq_of hcY) ?_
            wtm_at "xs"
            refine Xk.x_itd (fun hk => ?_) (fun hk => ?_)
            · have hke := codes_inj hk
              have hv := (gv_vok hrw hks).1
              clear h19 hcY
              wtm_at "xs"
              refine Xk.x_nocut ?_
              wtm_at "xs"
              refine ⟨k, st, en, rfl, hen2, ?_⟩
              wtm_at "xs"
              refine ⟨b, by rw [hb, hke], ?_⟩
              wtm_at "xs"
              refine Xk.x_itb (fun hb2 => ?_) (fun hb2 => ?_)
              · wtm_at "xs"
                intro t1 H20 ht1 s20 h20
                have hd20 := s20 _ _ hdY
                wtm_at "xs"
                refine dn (es ++ [(t1, k, gv kvs k)]) _ (Xk.but_mut (Xk.but_trans bY (Xk.but_same s20))) (by rw [upd_same, List.map_append]; rfl) (fun e he => ?_) ?_
                · rcases List.mem_append.mp he with he | he
                  · exact keep_tup (s20 _ _ (heY e he)) hd20
                  · rw [List.mem_singleton.mp he]
                    exact keep_tup h20 hd20
                · have hj := hij hke
                  rw [List.map_append, hes, if_neg (fun z => by have := z.1; omega), if_pos ⟨by omega, by rw [← hb, hb2]⟩, List.append_nil, ← hke]
                  rfl
              · wtm_at "xs"
                refine dn es _ bY hdY heY ?_
                rw [hes, if_neg (fun z => by rw [← hb, hb2] at z; exact Bool.noConfusion z.2), if_neg (fun z => by rw [← hb, hb2] at z; exact Bool.noConfusion z.2)]
            · have hne : i ≠ j := fun z => hk (by rw [hji z])
              clear h19 hcY
              wtm_at "xs"
              refine dn es _ bY hdY heY ?_
              rw [hes]
              by_cases c : i < j
              · by_cases c2 : kin e.2 st en = true
                · rw [if_pos ⟨c, c2⟩, if_pos ⟨by omega, c2⟩]
                · rw [if_neg (fun z => c2 z.2), if_neg (fun z => c2 z.2)]
              · rw [if_neg (fun z => c z.1), if_neg (fun z => c (by omega))]
          refine ⟨st, rfl, by omega, fun H18 c1 s18 hc1 h18 => ?_⟩
          have hc18 := s18 _ _ hc17
          wtm_at "xs"
          refine x_leC h18 hc18 ?_
          refine ⟨_, rfl, Xk.x_itn (fun h1 => ?_) (fun h1 => ?_)⟩
          · have hk0 : kin e.2 st .non = true := by
              show (!decide _) = true
              rw [decide_eq_false h1]
              rfl
            rcases hen with rfl | ⟨t, rfl, ht1, ht2⟩
            · clear h18 hc18
              wtm_at "x"
              wtm_at "x"
              wtm_at "x"
              wtm_at "x"
              wtm_at "x"
              refine ⟨_, rfl, Xk.x_itd (fun _ => ?_) (fun z => absurd rfl z)⟩
              refine fin _ hk0.symm y13 _ _ s18 ?_
              exact fun es H' g1 g2 g3 g4 => ⟨_, _, es, rfl, g1, g2, g3, g4⟩
            · wtm_at "xs"
              refine ⟨t, rfl, by omega, fun H19 c2 s19 hc2 h19 => ?_⟩
              have hc19 := s19 _ _ hc18
              wtm_at "xs"
              refine x_ltC hc19 h19 ?_
              have hk1 : kin e.2 st (.str t) = decide (e.2.cps.toList < t.cps.toList) := by
                show (!decide _ && _) = _
                rw [decide_eq_false h1]
                rfl
              refine fin _ hk1.symm y13 _ _ (s18.trans s19) ?_
              exact fun es H' g1 g2 g3 g4 => ⟨_, _, es, rfl, g1, g2, g3, g4⟩
          · have hk1 : kin e.2 st en = false := by
              rcases hen2 with rfl | ⟨t, rfl⟩
              · show (!decide _) = _
                rw [decide_eq_true h1]
                rfl
              · show (!decide _ && _) = _
                rw [decide_eq_true h1]
                rfl
            refine fin _ hk1.symm y13 _ _ s18 ?_
            exact fun es H' g1 g2 g3 g4 => ⟨_, _, es, rfl, g1, g2, g3, g4⟩
        · rintro σ' H17 ⟨y8, y13, es, rfl, b17, hd17, he17, hes⟩
          refine ⟨_, _, _, es, rfl, Xk.but_trans b16 b17, hd17, he17, ?_⟩
          have z := filt_at (f := fun k => kin k st en) hye
          rw [hes, z, List.map_append, List.length_map]
          congr 1
          by_cases hb : kin e.2 st en = true
          · rw [if_pos ⟨hil, hb⟩, if_pos hb]
            rfl
          · rw [if_neg (fun z => hb z.2), if_neg hb]
            rfl
      · rintro σ' H15 ⟨y8', y12, y13, es, rfl, b15, hd15, he15, hes⟩
        have hzl : zs.length = ys.length := by
          rw [← hz3, List.length_map]
        rw [List.length_map, hzl, List.take_length] at hes
        have hr15 := b15 _ _ nrd hr14
        have hkl15 := b15 _ _ nkd hkl14
        clear hr14 hkl14 b15 hdl14 hpl hc14
        wtm_at "xs"
        intro m H16 hm s16 hm16
        have hr16 := s16 _ _ hr15
        have hkl16 := s16 _ _ hkl15
        have hd16 := s16 _ _ hd15
        have he16 : ∀ e ∈ es, H16 e.1 = some (.tup [.str e.2.1, e.2.2]) := fun e he => s16 _ _ (he15 e he)
        have nrm : r ≠ m := Xk.ne_new hm hr15
        have nkm : kl ≠ m := Xk.ne_new hm hkl15
        have ndm : dl ≠ m := Xk.ne_new hm hd15
        have nem : ∀ e ∈ es, e.1 ≠ m := fun e he => Xk.ne_new hm (he15 e he)
        clear hr15 hkl15 hd15 he15 hm s16
        wtm_at "xs"
        refine Xk.x_forL (xs := ks.map V.str) (fun i σ' H' => ∃ (y8 : Option V) (kvs2 : Kvs), σ' = [some (.ref a), y1, some (.ref r), some (.int ma), some (.int kd), some (.int fi), some (.int se), some (.ref kl), y8, some (.str st), some en, some (.ref dl), y12, y13, some (.ref m), none] ∧ Xk.But m H16 H' ∧ H' m = some (.dK kvs2) ∧ KvOk ks kvs2 ∧ ∀ t, valV kvs2 (Sum.inr t) = if t ∈ ks.take i then valV kvs (Sum.inr t) else none) (Xk.sq_of hkl16)
          ⟨_, [], rfl, Xk.But.refl _ _, hm16, ⟨.nil, fun p hp => (by cases hp)⟩, fun t => by rw [List.take_zero, if_neg List.not_mem_nil]; rfl⟩ (fun i σ' H' _ ⟨_, _, _, b, _⟩ => Xk.sq_of (b _ _ nkm hkl16)) ?_ ?_
        · rintro i x σ' H17 hx ⟨y8, kvs2, rfl, b17, hm17, hkv2, hval⟩
          rw [List.getElem?_map] at hx
          obtain ⟨k, hk, rfl⟩ := Option.map_eq_some_iff.mp hx
          have hks := List.mem_of_getElem? hk
          obtain ⟨hv, hvo⟩ := gv_vok hrw hks
          have hr17 := b17 _ _ nrm hr16
          have hfew := hkv2.few
          have few : kvs2.length < 1000 := by omega
          wtm_at "xs"
          refine ⟨_, _, rfl, Xk.but_mut b17, upd_same, (hkv2.put hks hvo).1, fun t => ?_⟩
          rw [valV_put, List.take_add_one, hk, Option.toList_some]
          by_cases e : (Sum.inr t : Key) = Sum.inr k
          · cases e
            rw [if_pos rfl, if_pos (List.mem_append_right _ (List.mem_singleton.mpr rfl)), hv]
          · rw [if_neg e, hval]
            by_cases c : t ∈ ks.take i
            · rw [if_pos c, if_pos (List.mem_append_left _ c)]
            · rw [if_neg c, if_neg (fun z => (List.mem_append.mp z).elim c fun z => e (congrArg _ (List.mem_singleton.mp z)))]
        · rintro σ' H17 ⟨y8, kvs2, rfl, b17, hm17, hkv2, hval⟩
          rw [List.length_map, List.take_length] at hval
          have al2 : ∀ t, valV kvs2 (Sum.inr t) = valV kvs (Sum.inr t) := fun t => by
            rw [hval]
            by_cases c : t ∈ ks
            · rw [if_pos c]
            · rw [if_neg c]
              cases e : valV kvs (Sum.inr t) with
              | none => rfl
              | some v =>
                obtain ⟨⟨k, hk, e2⟩, _⟩ := hrw.kv.ok _ (val_mem e)
                cases e2
                exact absurd hk c
          obtain ⟨us2, hus2, _⟩ := KvOk.keys hkv2.ok
          have pu := keys_perm hkv2 hrw.kv al2 hus2 hus
          have hul2 : us2.length < 64 := by
            rw [pu.length_eq]
            omega
          have hr17 := b17 _ _ nrm hr16
          have hd17 := b17 _ _ ndm hd16
          have he17 : ∀ e ∈ es, H17 e.1 = some (.tup [.str e.2.1, e.2.2]) := fun e he => b17 _ _ (nem e he) (he16 e he)
          clear hr16 hkl16 hd16 he16 b17 hm16
          wtm_at "xs"
          refine ⟨m, kvs2, us2, st, en, rfl, hm17, hus2, hul2, hen2, fun H18 q1 es2 ys2 s18 hy2 so2 hw he2 => ?_⟩
          rw [srtS_eq ((hy2.trans pu).trans hyp.symm) so2 hyo] at he2
          have hgv : ∀ k, gv kvs2 k = gv kvs k := fun k => by
            unfold gv
            rw [al2]
          have hee : es2.map (·.2) = es.map (·.2) := by
            rw [he2, hes]
            refine List.map_congr_left fun k _ => ?_
            rw [hgv]
          have hw1 := hw.tp
          have hr18 := s18 _ _ hr17
          have hd18 := s18 _ _ hd17
          have hm18 := s18 _ _ hm17
          have he18 : ∀ e ∈ es, H18 e.1 = some (.tup [.str e.2.1, e.2.2]) := fun e he => s18 _ _ (he17 e he)
          have good : ∀ p ∈ es.map (·.2), Xk.AllC Xk.okC p.1 = true ∧ VOk p.2 := fun p hp => by
            rw [hes] at hp
            obtain ⟨k, hk, rfl⟩ := List.mem_map.mp hp
            have hks := hyk k (List.mem_filter.mp hk).1
            exact ⟨Xk.allC_mono (hkk k hks).1 fun c h => tx_ok c (al_tx c h), (gv_vok hrw hks).2⟩
          have hell : es.length ≤ 100 := by
            have z := congrArg List.length hes
            rw [List.length_map, List.length_map] at z
            have := List.length_filter_le (fun k => kin k st en) ys
            omega
          clear hr17 hd17 hm17 he17 s18
          wtm_at "xs"
          intro tp H19 htp s19 htp19
          wtm_at "xs"
          have p1 : Xk.Pk K H19 4 (.ref q1) (.tuple ((es2.map (·.2)).map fun p : Str × V => .tuple [.str p.1, pdv p.2])) := Xk.pk_tup (Xk.st_of (s19 _ _ hw1)) (pk_rows es2 fun e he => ⟨s19 _ _ (hw.it e he), good _ (by rw [← hee]; exact List.mem_map_of_mem (f := fun e : Addr × Str × V => e.2) he)⟩)
          have p2 : Xk.Pk K H19 4 (.ref tp) (.tuple ((es.map (·.2)).map fun p : Str × V => .tuple [.str p.1, pdv p.2])) := Xk.pk_tup (Xk.st_of htp19) (pk_rows es fun e he => ⟨s19 _ _ (he18 e he), good _ (List.mem_map_of_mem (f := fun e : Addr × Str × V => e.2) he)⟩)
          rw [hee] at p1
          refine Xk.x_eqPk p1 p2 ?_
          wtm_at "xs"
          refine ⟨m, r, kvs2, kvs, rfl, rfl, s19 _ _ hm18, s19 _ _ hr18, alike_len hkv2 hrw.kv al2, alike_all hkv2 al2, ?_⟩
          exact q _
end
theorem all_mk {l : PySem.W.OpenLaw} {w : World} {K : PySem.W.Frag} {h : Heap} {mg : Str → Option Value} {fa f_is_integer f_is_text f_is_integer_within f_is_key f_is_value f_is_range f_key_in f_rows_in f__law_row f__law_digits f__law_sign f__law_text f__law_key f__law_is f__law_is_key f__law_codes f__law_drawn_key f__law_number f__law_kinds_hold f_law : Addr} (X : K.In h) (G : h.Ns mainGlobals mg) (hfa : mg "law" = some (.ref fa))
    {od_is_integer an_is_integer od_is_text an_is_text od_is_integer_within an_is_integer_within od_is_key an_is_key od_is_value an_is_value od_is_range an_is_range od_key_in an_key_in od_rows_in an_rows_in od__law_row an__law_row od__law_digits an__law_digits od__law_sign an__law_sign od__law_text an__law_text od__law_key an__law_key od__law_is an__law_is od__law_is_key an__law_is_key od__law_codes an__law_codes od__law_drawn_key an__law_drawn_key od__law_number an__law_number od__law_kinds_hold an__law_kinds_hold od_law an_law : Option Addr} {sl_is_integer sl_is_text sl_is_integer_within sl_is_key sl_is_value sl_is_range sl_key_in sl_rows_in sl__law_row sl__law_digits sl__law_sign sl__law_text sl__law_key sl__law_is sl__law_is_key sl__law_codes sl__law_drawn_key sl__law_number sl__law_kinds_hold sl_law : Array (Option Value)} {oc_is_integer kV_is_integer dc_is_integer pm_is_integer cd_is_integer ct_is_integer oc_is_text kV_is_text dc_is_text pm_is_text cd_is_text ct_is_text oc_is_integer_within kV_is_integer_within dc_is_integer_within pm_is_integer_within cd_is_integer_within ct_is_integer_within oc_is_key kV_is_key dc_is_key pm_is_key cd_is_key ct_is_key oc_is_value kV_is_value dc_is_value pm_is_value cd_is_value ct_is_value oc_is_range kV_is_range dc_is_range pm_is_range cd_is_range ct_is_range oc_key_in kV_key_in dc_key_in pm_key_in cd_key_in ct_key_in oc_rows_in kV_rows_in dc_rows_in pm_rows_in cd_rows_in ct_rows_in oc__law_row kV__law_row dc__law_row pm__law_row cd__law_row ct__law_row oc__law_digits kV__law_digits dc__law_digits pm__law_digits cd__law_digits ct__law_digits oc__law_sign kV__law_sign dc__law_sign pm__law_sign cd__law_sign ct__law_sign oc__law_text kV__law_text dc__law_text pm__law_text cd__law_text ct__law_text oc__law_key kV__law_key dc__law_key pm__law_key cd__law_key ct__law_key oc__law_is kV__law_is dc__law_is pm__law_is cd__law_is ct__law_is oc__law_is_key kV__law_is_key dc__law_is_key pm__law_is_key cd__law_is_key ct__law_is_key oc__law_codes kV__law_codes dc__law_codes pm__law_codes cd__law_codes ct__law_codes oc__law_drawn_key kV__law_drawn_key dc__law_drawn_key pm__law_drawn_key cd__law_drawn_key ct__law_drawn_key oc__law_number kV__law_number dc__law_number pm__law_number cd__law_number ct__law_number oc__law_kinds_hold kV__law_kinds_hold dc__law_kinds_hold pm__law_kinds_hold cd__law_kinds_hold ct__law_kinds_hold oc_law kV_law dc_law pm_law cd_law ct_law : Value} {t_HIGH_SIGNS t_KEY_ALPHABET t_KEY_SIGNS t_LOW_SIGNS t_MOST_VALUE t_VALUE_SIGNS : Tok}
    (a_is_integer : PySem.W.nsIn K mainGlobals "is_integer" = some (some (.ref f_is_integer)))
    (l_is_integer : K.lookup f_is_integer = some ⟨oc_is_integer, od_is_integer, .func (PySem.W.fnOf "is_integer" "is_integer" (defArgs s_is_integer) (defBody s_is_integer) (defScope s_is_integer) .none kV_is_integer dc_is_integer pm_is_integer an_is_integer cd_is_integer ct_is_integer), sl_is_integer⟩)
    (c_is_integer : PySem.W.codeIn K cd_is_integer "is_integer" = true)
    (k_is_integer : PySem.W.keepIn K (.ref f_is_integer) = true)
    (a_is_text : PySem.W.nsIn K mainGlobals "is_text" = some (some (.ref f_is_text)))
    (l_is_text : K.lookup f_is_text = some ⟨oc_is_text, od_is_text, .func (PySem.W.fnOf "is_text" "is_text" (defArgs s_is_text) (defBody s_is_text) (defScope s_is_text) .none kV_is_text dc_is_text pm_is_text an_is_text cd_is_text ct_is_text), sl_is_text⟩)
    (c_is_text : PySem.W.codeIn K cd_is_text "is_text" = true)
    (k_is_text : PySem.W.keepIn K (.ref f_is_text) = true)
    (a_is_integer_within : PySem.W.nsIn K mainGlobals "is_integer_within" = some (some (.ref f_is_integer_within)))
    (l_is_integer_within : K.lookup f_is_integer_within = some ⟨oc_is_integer_within, od_is_integer_within, .func (PySem.W.fnOf "is_integer_within" "is_integer_within" (defArgs s_is_integer_within) (defBody s_is_integer_within) (defScope s_is_integer_within) .none kV_is_integer_within dc_is_integer_within pm_is_integer_within an_is_integer_within cd_is_integer_within ct_is_integer_within), sl_is_integer_within⟩)
    (c_is_integer_within : PySem.W.codeIn K cd_is_integer_within "is_integer_within" = true)
    (k_is_integer_within : PySem.W.keepIn K (.ref f_is_integer_within) = true)
    (a_is_key : PySem.W.nsIn K mainGlobals "is_key" = some (some (.ref f_is_key)))
    (l_is_key : K.lookup f_is_key = some ⟨oc_is_key, od_is_key, .func (PySem.W.fnOf "is_key" "is_key" (defArgs s_is_key) (defBody s_is_key) (defScope s_is_key) .none kV_is_key dc_is_key pm_is_key an_is_key cd_is_key ct_is_key), sl_is_key⟩)
    (c_is_key : PySem.W.codeIn K cd_is_key "is_key" = true)
    (k_is_key : PySem.W.keepIn K (.ref f_is_key) = true)
    (a_is_value : PySem.W.nsIn K mainGlobals "is_value" = some (some (.ref f_is_value)))
    (l_is_value : K.lookup f_is_value = some ⟨oc_is_value, od_is_value, .func (PySem.W.fnOf "is_value" "is_value" (defArgs s_is_value) (defBody s_is_value) (defScope s_is_value) .none kV_is_value dc_is_value pm_is_value an_is_value cd_is_value ct_is_value), sl_is_value⟩)
    (c_is_value : PySem.W.codeIn K cd_is_value "is_value" = true)
    (k_is_value : PySem.W.keepIn K (.ref f_is_value) = true)
    (a_is_range : PySem.W.nsIn K mainGlobals "is_range" = some (some (.ref f_is_range)))
    (l_is_range : K.lookup f_is_range = some ⟨oc_is_range, od_is_range, .func (PySem.W.fnOf "is_range" "is_range" (defArgs s_is_range) (defBody s_is_range) (defScope s_is_range) .none kV_is_range dc_is_range pm_is_range an_is_range cd_is_range ct_is_range), sl_is_range⟩)
    (c_is_range : PySem.W.codeIn K cd_is_range "is_range" = true)
    (k_is_range : PySem.W.keepIn K (.ref f_is_range) = true)
    (a_key_in : PySem.W.nsIn K mainGlobals "key_in" = some (some (.ref f_key_in)))
    (l_key_in : K.lookup f_key_in = some ⟨oc_key_in, od_key_in, .func (PySem.W.fnOf "key_in" "key_in" (defArgs s_key_in) (defBody s_key_in) (defScope s_key_in) .none kV_key_in dc_key_in pm_key_in an_key_in cd_key_in ct_key_in), sl_key_in⟩)
    (c_key_in : PySem.W.codeIn K cd_key_in "key_in" = true)
    (k_key_in : PySem.W.keepIn K (.ref f_key_in) = true)
    (a_rows_in : PySem.W.nsIn K mainGlobals "rows_in" = some (some (.ref f_rows_in)))
    (l_rows_in : K.lookup f_rows_in = some ⟨oc_rows_in, od_rows_in, .func (PySem.W.fnOf "rows_in" "rows_in" (defArgs s_rows_in) (defBody s_rows_in) (defScope s_rows_in) .none kV_rows_in dc_rows_in pm_rows_in an_rows_in cd_rows_in ct_rows_in), sl_rows_in⟩)
    (c_rows_in : PySem.W.codeIn K cd_rows_in "rows_in" = true)
    (k_rows_in : PySem.W.keepIn K (.ref f_rows_in) = true)
    (a__law_row : PySem.W.nsIn K mainGlobals "_law_row" = some (some (.ref f__law_row)))
    (l__law_row : K.lookup f__law_row = some ⟨oc__law_row, od__law_row, .func (PySem.W.fnOf "_law_row" "_law_row" (defArgs s__law_row) (defBody s__law_row) (defScope s__law_row) .none kV__law_row dc__law_row pm__law_row an__law_row cd__law_row ct__law_row), sl__law_row⟩)
    (c__law_row : PySem.W.codeIn K cd__law_row "_law_row" = true)
    (k__law_row : PySem.W.keepIn K (.ref f__law_row) = true)
    (a__law_digits : PySem.W.nsIn K mainGlobals "_law_digits" = some (some (.ref f__law_digits)))
    (l__law_digits : K.lookup f__law_digits = some ⟨oc__law_digits, od__law_digits, .func (PySem.W.fnOf "_law_digits" "_law_digits" (defArgs s__law_digits) (defBody s__law_digits) (defScope s__law_digits) .none kV__law_digits dc__law_digits pm__law_digits an__law_digits cd__law_digits ct__law_digits), sl__law_digits⟩)
    (c__law_digits : PySem.W.codeIn K cd__law_digits "_law_digits" = true)
    (k__law_digits : PySem.W.keepIn K (.ref f__law_digits) = true)
    (a__law_sign : PySem.W.nsIn K mainGlobals "_law_sign" = some (some (.ref f__law_sign)))
    (l__law_sign : K.lookup f__law_sign = some ⟨oc__law_sign, od__law_sign, .func (PySem.W.fnOf "_law_sign" "_law_sign" (defArgs s__law_sign) (defBody s__law_sign) (defScope s__law_sign) .none kV__law_sign dc__law_sign pm__law_sign an__law_sign cd__law_sign ct__law_sign), sl__law_sign⟩)
    (c__law_sign : PySem.W.codeIn K cd__law_sign "_law_sign" = true)
    (k__law_sign : PySem.W.keepIn K (.ref f__law_sign) = true)
    (a__law_text : PySem.W.nsIn K mainGlobals "_law_text" = some (some (.ref f__law_text)))
    (l__law_text : K.lookup f__law_text = some ⟨oc__law_text, od__law_text, .func (PySem.W.fnOf "_law_text" "_law_text" (defArgs s__law_text) (defBody s__law_text) (defScope s__law_text) .none kV__law_text dc__law_text pm__law_text an__law_text cd__law_text ct__law_text), sl__law_text⟩)
    (c__law_text : PySem.W.codeIn K cd__law_text "_law_text" = true)
    (k__law_text : PySem.W.keepIn K (.ref f__law_text) = true)
    (a__law_key : PySem.W.nsIn K mainGlobals "_law_key" = some (some (.ref f__law_key)))
    (l__law_key : K.lookup f__law_key = some ⟨oc__law_key, od__law_key, .func (PySem.W.fnOf "_law_key" "_law_key" (defArgs s__law_key) (defBody s__law_key) (defScope s__law_key) .none kV__law_key dc__law_key pm__law_key an__law_key cd__law_key ct__law_key), sl__law_key⟩)
    (c__law_key : PySem.W.codeIn K cd__law_key "_law_key" = true)
    (k__law_key : PySem.W.keepIn K (.ref f__law_key) = true)
    (a__law_is : PySem.W.nsIn K mainGlobals "_law_is" = some (some (.ref f__law_is)))
    (l__law_is : K.lookup f__law_is = some ⟨oc__law_is, od__law_is, .func (PySem.W.fnOf "_law_is" "_law_is" (defArgs s__law_is) (defBody s__law_is) (defScope s__law_is) .none kV__law_is dc__law_is pm__law_is an__law_is cd__law_is ct__law_is), sl__law_is⟩)
    (c__law_is : PySem.W.codeIn K cd__law_is "_law_is" = true)
    (k__law_is : PySem.W.keepIn K (.ref f__law_is) = true)
    (a__law_is_key : PySem.W.nsIn K mainGlobals "_law_is_key" = some (some (.ref f__law_is_key)))
    (l__law_is_key : K.lookup f__law_is_key = some ⟨oc__law_is_key, od__law_is_key, .func (PySem.W.fnOf "_law_is_key" "_law_is_key" (defArgs s__law_is_key) (defBody s__law_is_key) (defScope s__law_is_key) .none kV__law_is_key dc__law_is_key pm__law_is_key an__law_is_key cd__law_is_key ct__law_is_key), sl__law_is_key⟩)
    (c__law_is_key : PySem.W.codeIn K cd__law_is_key "_law_is_key" = true)
    (k__law_is_key : PySem.W.keepIn K (.ref f__law_is_key) = true)
    (a__law_codes : PySem.W.nsIn K mainGlobals "_law_codes" = some (some (.ref f__law_codes)))
    (l__law_codes : K.lookup f__law_codes = some ⟨oc__law_codes, od__law_codes, .func (PySem.W.fnOf "_law_codes" "_law_codes" (defArgs s__law_codes) (defBody s__law_codes) (defScope s__law_codes) .none kV__law_codes dc__law_codes pm__law_codes an__law_codes cd__law_codes ct__law_codes), sl__law_codes⟩)
    (c__law_codes : PySem.W.codeIn K cd__law_codes "_law_codes" = true)
    (k__law_codes : PySem.W.keepIn K (.ref f__law_codes) = true)
    (a__law_drawn_key : PySem.W.nsIn K mainGlobals "_law_drawn_key" = some (some (.ref f__law_drawn_key)))
    (l__law_drawn_key : K.lookup f__law_drawn_key = some ⟨oc__law_drawn_key, od__law_drawn_key, .func (PySem.W.fnOf "_law_drawn_key" "_law_drawn_key" (defArgs s__law_drawn_key) (defBody s__law_drawn_key) (defScope s__law_drawn_key) .none kV__law_drawn_key dc__law_drawn_key pm__law_drawn_key an__law_drawn_key cd__law_drawn_key ct__law_drawn_key), sl__law_drawn_key⟩)
    (c__law_drawn_key : PySem.W.codeIn K cd__law_drawn_key "_law_drawn_key" = true)
    (k__law_drawn_key : PySem.W.keepIn K (.ref f__law_drawn_key) = true)
    (a__law_number : PySem.W.nsIn K mainGlobals "_law_number" = some (some (.ref f__law_number)))
    (l__law_number : K.lookup f__law_number = some ⟨oc__law_number, od__law_number, .func (PySem.W.fnOf "_law_number" "_law_number" (defArgs s__law_number) (defBody s__law_number) (defScope s__law_number) .none kV__law_number dc__law_number pm__law_number an__law_number cd__law_number ct__law_number), sl__law_number⟩)
    (c__law_number : PySem.W.codeIn K cd__law_number "_law_number" = true)
    (k__law_number : PySem.W.keepIn K (.ref f__law_number) = true)
    (a__law_kinds_hold : PySem.W.nsIn K mainGlobals "_law_kinds_hold" = some (some (.ref f__law_kinds_hold)))
    (l__law_kinds_hold : K.lookup f__law_kinds_hold = some ⟨oc__law_kinds_hold, od__law_kinds_hold, .func (PySem.W.fnOf "_law_kinds_hold" "_law_kinds_hold" (defArgs s__law_kinds_hold) (defBody s__law_kinds_hold) (defScope s__law_kinds_hold) .none kV__law_kinds_hold dc__law_kinds_hold pm__law_kinds_hold an__law_kinds_hold cd__law_kinds_hold ct__law_kinds_hold), sl__law_kinds_hold⟩)
    (c__law_kinds_hold : PySem.W.codeIn K cd__law_kinds_hold "_law_kinds_hold" = true)
    (k__law_kinds_hold : PySem.W.keepIn K (.ref f__law_kinds_hold) = true)
    (a_law : PySem.W.nsIn K mainGlobals "law" = some (some (.ref f_law)))
    (l_law : K.lookup f_law = some ⟨oc_law, od_law, .func (PySem.W.fnOf "law" "law" (defArgs s_law) (defBody s_law) (defScope s_law) .none kV_law dc_law pm_law an_law cd_law ct_law), sl_law⟩)
    (c_law : PySem.W.codeIn K cd_law "law" = true)
    (k_law : PySem.W.keepIn K (.ref f_law) = true)
    (z_HIGH_SIGNS : PySem.W.nsIn K mainGlobals "HIGH_SIGNS" = some (some (.str "&'()*+,-./0123456789:;<=>?@ABCDEFGHIJKLMNOPQRSTUVWXYZ[\\]^_`abcdefghijklmnopqrstuvwxyz{|}~" t_HIGH_SIGNS)))
    (z_KEY_ALPHABET : PySem.W.nsIn K mainGlobals "KEY_ALPHABET" = some (some (.str "abcdefghijklmnopqrstuvwxyz0123456789" t_KEY_ALPHABET)))
    (z_KEY_SIGNS : PySem.W.nsIn K mainGlobals "KEY_SIGNS" = some (some (.int 8 t_KEY_SIGNS)))
    (z_LOW_SIGNS : PySem.W.nsIn K mainGlobals "LOW_SIGNS" = some (some (.str " !\"#$" t_LOW_SIGNS)))
    (z_MOST_VALUE : PySem.W.nsIn K mainGlobals "MOST_VALUE" = some (some (.int 1000000000000000 t_MOST_VALUE)))
    (z_VALUE_SIGNS : PySem.W.nsIn K mainGlobals "VALUE_SIGNS" = some (some (.int 20 t_VALUE_SIGNS)))
    (z_all : PySem.W.nsIn K mainGlobals "all" = some none)
    (z_bool : PySem.W.nsIn K mainGlobals "bool" = some none)
    (z_int : PySem.W.nsIn K mainGlobals "int" = some none)
    (z_isinstance : PySem.W.nsIn K mainGlobals "isinstance" = some none)
    (z_len : PySem.W.nsIn K mainGlobals "len" = some none)
    (z_ord : PySem.W.nsIn K mainGlobals "ord" = some none)
    (z_range : PySem.W.nsIn K mainGlobals "range" = some none)
    (z_sorted : PySem.W.nsIn K mainGlobals "sorted" = some none)
    (z_str : PySem.W.nsIn K mainGlobals "str" = some none)
    (z_tuple : PySem.W.nsIn K mainGlobals "tuple" = some none)
    : ∃ fd : FuncData, (∀ (s : Shared) (v : Value), BindsTo s fd ⟨[v], []⟩ [("script", v)]) ∧ ∀ base : Heap, K.In base → base.Ns mainGlobals mg → FnOk l.prog w K mg base CX0 5 fa fd ["script"] (sp_law K) := by
  have e := hfa.symm.trans (PySem.W.mg_of X G a_law)
  cases e
  have F_is_integer := fun_mk (st := s_is_integer) l_is_integer c_is_integer k_is_integer
  have b_is_integer := F_is_integer.binds (ps := ["data"]) fun _ _ _ _ _ _ us hl => match us, hl with | [_], _ => rfl
  have F_is_text := fun_mk (st := s_is_text) l_is_text c_is_text k_is_text
  have b_is_text := F_is_text.binds (ps := ["data"]) fun _ _ _ _ _ _ us hl => match us, hl with | [_], _ => rfl
  have F_is_integer_within := fun_mk (st := s_is_integer_within) l_is_integer_within c_is_integer_within k_is_integer_within
  have b_is_integer_within := F_is_integer_within.binds (ps := ["data", "most"]) fun _ _ _ _ _ _ us hl => match us, hl with | [_, _], _ => rfl
  have F_is_key := fun_mk (st := s_is_key) l_is_key c_is_key k_is_key
  have b_is_key := F_is_key.binds (ps := ["data"]) fun _ _ _ _ _ _ us hl => match us, hl with | [_], _ => rfl
  have F_is_value := fun_mk (st := s_is_value) l_is_value c_is_value k_is_value
  have b_is_value := F_is_value.binds (ps := ["data"]) fun _ _ _ _ _ _ us hl => match us, hl with | [_], _ => rfl
  have F_is_range := fun_mk (st := s_is_range) l_is_range c_is_range k_is_range
  have b_is_range := F_is_range.binds (ps := ["start", "end"]) fun _ _ _ _ _ _ us hl => match us, hl with | [_, _], _ => rfl
  have F_key_in := fun_mk (st := s_key_in) l_key_in c_key_in k_key_in
  have b_key_in := F_key_in.binds (ps := ["key", "start", "end"]) fun _ _ _ _ _ _ us hl => match us, hl with | [_, _, _], _ => rfl
  have F_rows_in := fun_mk (st := s_rows_in) l_rows_in c_rows_in k_rows_in
  have b_rows_in := F_rows_in.binds (ps := ["rows", "start", "end"]) fun _ _ _ _ _ _ us hl => match us, hl with | [_, _, _], _ => rfl
  have F__law_row := fun_mk (st := s__law_row) l__law_row c__law_row k__law_row
  have b__law_row := F__law_row.binds (ps := ["script", "k"]) fun _ _ _ _ _ _ us hl => match us, hl with | [_, _], _ => rfl
  have F__law_digits := fun_mk (st := s__law_digits) l__law_digits c__law_digits k__law_digits
  have b__law_digits := F__law_digits.binds (ps := ["row", "sizes"]) fun _ _ _ _ _ _ us hl => match us, hl with | [_, _], _ => rfl
  have F__law_sign := fun_mk (st := s__law_sign) l__law_sign c__law_sign k__law_sign
  have b__law_sign := F__law_sign.binds (ps := ["number"]) fun _ _ _ _ _ _ us hl => match us, hl with | [_], _ => rfl
  have F__law_text := fun_mk (st := s__law_text) l__law_text c__law_text k__law_text
  have b__law_text := F__law_text.binds (ps := ["row", "count"]) fun _ _ _ _ _ _ us hl => match us, hl with | [_, _], _ => rfl
  have F__law_key := fun_mk (st := s__law_key) l__law_key c__law_key k__law_key
  have b__law_key := F__law_key.binds (ps := ["row", "most"]) fun _ _ _ _ _ _ us hl => match us, hl with | [_, _], _ => rfl
  have F__law_is := fun_mk (st := s__law_is) l__law_is c__law_is k__law_is
  have b__law_is := F__law_is.binds (ps := ["actual", "due"]) fun _ _ _ _ _ _ us hl => match us, hl with | [_, _], _ => rfl
  have F__law_is_key := fun_mk (st := s__law_is_key) l__law_is_key c__law_is_key k__law_is_key
  have b__law_is_key := F__law_is_key.binds (ps := ["data"]) fun _ _ _ _ _ _ us hl => match us, hl with | [_], _ => rfl
  have F__law_codes := fun_mk (st := s__law_codes) l__law_codes c__law_codes k__law_codes
  have b__law_codes := F__law_codes.binds (ps := ["key"]) fun _ _ _ _ _ _ us hl => match us, hl with | [_], _ => rfl
  have F__law_drawn_key := fun_mk (st := s__law_drawn_key) l__law_drawn_key c__law_drawn_key k__law_drawn_key
  have b__law_drawn_key := F__law_drawn_key.binds (ps := ["row"]) fun _ _ _ _ _ _ us hl => match us, hl with | [_], _ => rfl
  have F__law_number := fun_mk (st := s__law_number) l__law_number c__law_number k__law_number
  have b__law_number := F__law_number.binds (ps := ["row"]) fun _ _ _ _ _ _ us hl => match us, hl with | [_], _ => rfl
  have F__law_kinds_hold := fun_mk (st := s__law_kinds_hold) l__law_kinds_hold c__law_kinds_hold k__law_kinds_hold
  have b__law_kinds_hold := F__law_kinds_hold.binds (ps := ["script", "k"]) fun _ _ _ _ _ _ us hl => match us, hl with | [_, _], _ => rfl
  have F_law := fun_mk (st := s_law) l_law c_law k_law
  have b_law := F_law.binds (ps := ["script"]) fun _ _ _ _ _ _ us hl => match us, hl with | [_], _ => rfl
  let T : Txt K mg := ⟨t_HIGH_SIGNS, PySem.W.mg_of X G z_HIGH_SIGNS, t_KEY_ALPHABET, PySem.W.mg_of X G z_KEY_ALPHABET, t_KEY_SIGNS, PySem.W.mg_of X G z_KEY_SIGNS, t_LOW_SIGNS, PySem.W.mg_of X G z_LOW_SIGNS, t_MOST_VALUE, PySem.W.mg_of X G z_MOST_VALUE, t_VALUE_SIGNS, PySem.W.mg_of X G z_VALUE_SIGNS, f_is_integer, _, F_is_integer, b_is_integer, PySem.W.mg_of X G a_is_integer, f_is_text, _, F_is_text, b_is_text, PySem.W.mg_of X G a_is_text, f_is_integer_within, _, F_is_integer_within, b_is_integer_within, PySem.W.mg_of X G a_is_integer_within, f_is_key, _, F_is_key, b_is_key, PySem.W.mg_of X G a_is_key, f_is_value, _, F_is_value, b_is_value, PySem.W.mg_of X G a_is_value, f_is_range, _, F_is_range, b_is_range, PySem.W.mg_of X G a_is_range, f_key_in, _, F_key_in, b_key_in, PySem.W.mg_of X G a_key_in, f_rows_in, _, F_rows_in, b_rows_in, PySem.W.mg_of X G a_rows_in, f__law_row, _, F__law_row, b__law_row, PySem.W.mg_of X G a__law_row, f__law_digits, _, F__law_digits, b__law_digits, PySem.W.mg_of X G a__law_digits, f__law_sign, _, F__law_sign, b__law_sign, PySem.W.mg_of X G a__law_sign, f__law_text, _, F__law_text, b__law_text, PySem.W.mg_of X G a__law_text, f__law_key, _, F__law_key, b__law_key, PySem.W.mg_of X G a__law_key, f__law_is, _, F__law_is, b__law_is, PySem.W.mg_of X G a__law_is, f__law_is_key, _, F__law_is_key, b__law_is_key, PySem.W.mg_of X G a__law_is_key, f__law_codes, _, F__law_codes, b__law_codes, PySem.W.mg_of X G a__law_codes, f__law_drawn_key, _, F__law_drawn_key, b__law_drawn_key, PySem.W.mg_of X G a__law_drawn_key, f__law_number, _, F__law_number, b__law_number, PySem.W.mg_of X G a__law_number, f__law_kinds_hold, _, F__law_kinds_hold, b__law_kinds_hold, PySem.W.mg_of X G a__law_kinds_hold, fa, _, F_law, b_law, PySem.W.mg_of X G a_law, PySem.W.mg_none_of X G z_all, PySem.W.mg_none_of X G z_bool, PySem.W.mg_none_of X G z_int, PySem.W.mg_none_of X G z_isinstance, PySem.W.mg_none_of X G z_len, PySem.W.mg_none_of X G z_ord, PySem.W.mg_none_of X G z_range, PySem.W.mg_none_of X G z_sorted, PySem.W.mg_none_of X G z_str, PySem.W.mg_none_of X G z_tuple⟩
  exact ⟨PySem.W.fnOf "law" "law" (defArgs s_law) (defBody s_law) (defScope s_law) .none kV_law dc_law pm_law an_law cd_law ct_law, fun s v => .of_eq rfl, fun base _ _ => ok_law T⟩
end K00
open PySem PySem.W PyProof.Rows
set_option maxRecDepth 100000 in
set_option maxHeartbeats 0 in
theorem PySem.Challenge.cw_crosskeep_k00_keys_values_and_ranges_holds : PySem.Challenge.rw_crosskeep_k00_keys_values_and_ranges.Holds := by
  w_on; o_law; k_head; (case hw => w_witness2)
  k_fill
  refine L2.walk_of (l := PySem.Challenge.rw_crosskeep_k00_keys_values_and_ranges) (n := 63) (k := 5) (x := "script") (CX := fun _ => L2.CX0) (sp := fun w => K00.sp_law _) rfl (by decide) rfl ⟨rfl, by decide, by decide⟩ (fun w h Y => PySem.W.kIn_of Y) ?F (fun _ _ a ns hl _ hS => ⟨a, ns, rfl, hS, hl, fun _ => rfl⟩) (fun _ _ _ _ _ h => h)
  case F =>
    intro w mg fa h KX G hmg
    refine' K00.all_mk KX G hmg ?a_is_integer ?l_is_integer ?c_is_integer ?k_is_integer ?a_is_text ?l_is_text ?c_is_text ?k_is_text ?a_is_integer_within ?l_is_integer_within ?c_is_integer_within ?k_is_integer_within ?a_is_key ?l_is_key ?c_is_key ?k_is_key ?a_is_value ?l_is_value ?c_is_value ?k_is_value ?a_is_range ?l_is_range ?c_is_range ?k_is_range ?a_key_in ?l_key_in ?c_key_in ?k_key_in ?a_rows_in ?l_rows_in ?c_rows_in ?k_rows_in ?a__law_row ?l__law_row ?c__law_row ?k__law_row ?a__law_digits ?l__law_digits ?c__law_digits ?k__law_digits ?a__law_sign ?l__law_sign ?c__law_sign ?k__law_sign ?a__law_text ?l__law_text ?c__law_text ?k__law_text ?a__law_key ?l__law_key ?c__law_key ?k__law_key ?a__law_is ?l__law_is ?c__law_is ?k__law_is ?a__law_is_key ?l__law_is_key ?c__law_is_key ?k__law_is_key ?a__law_codes ?l__law_codes ?c__law_codes ?k__law_codes ?a__law_drawn_key ?l__law_drawn_key ?c__law_drawn_key ?k__law_drawn_key ?a__law_number ?l__law_number ?c__law_number ?k__law_number ?a__law_kinds_hold ?l__law_kinds_hold ?c__law_kinds_hold ?k__law_kinds_hold ?a_law ?l_law ?c_law ?k_law ?z_HIGH_SIGNS ?z_KEY_ALPHABET ?z_KEY_SIGNS ?z_LOW_SIGNS ?z_MOST_VALUE ?z_VALUE_SIGNS ?z_all ?z_bool ?z_int ?z_isinstance ?z_len ?z_ord ?z_range ?z_sorted ?z_str ?z_tuple
    (case a_is_integer => k_is)
    (case l_is_integer => k_is)
    (case c_is_integer => k_is)
    (case k_is_integer => k_is)
    (case a_is_text => k_is)
    (case l_is_text => k_is)
    (case c_is_text => k_is)
    (case k_is_text => k_is)
    (case a_is_integer_within => k_is)
    (case l_is_integer_within => k_is)
    (case c_is_integer_within => k_is)
    (case k_is_integer_within => k_is)
    (case a_is_key => k_is)
    (case l_is_key => k_is)
    (case c_is_key => k_is)
    (case k_is_key => k_is)
    (case a_is_value => k_is)
    (case l_is_value => k_is)
    (case c_is_value => k_is)
    (case k_is_value => k_is)
    (case a_is_range => k_is)
    (case l_is_range => k_is)
    (case c_is_range => k_is)
    (case k_is_range => k_is)
    (case a_key_in => k_is)
    (case l_key_in => k_is)
    (case c_key_in => k_is)
    (case k_key_in => k_is)
    (case a_rows_in => k_is)
    (case l_rows_in => k_is)
    (case c_rows_in => k_is)
    (case k_rows_in => k_is)
    (case a__law_row => k_is)
    (case l__law_row => k_is)
    (case c__law_row => k_is)
    (case k__law_row => k_is)
    (case a__law_digits => k_is)
    (case l__law_digits => k_is)
    (case c__law_digits => k_is)
    (case k__law_digits => k_is)
    (case a__law_sign => k_is)
    (case l__law_sign => k_is)
    (case c__law_sign => k_is)
    (case k__law_sign => k_is)
    (case a__law_text => k_is)
    (case l__law_text => k_is)
    (case c__law_text => k_is)
    (case k__law_text => k_is)
    (case a__law_key => k_is)
    (case l__law_key => k_is)
    (case c__law_key => k_is)
    (case k__law_key => k_is)
    (case a__law_is => k_is)
    (case l__law_is => k_is)
    (case c__law_is => k_is)
    (case k__law_is => k_is)
    (case a__law_is_key => k_is)
    (case l__law_is_key => k_is)
    (case c__law_is_key => k_is)
    (case k__law_is_key => k_is)
    (case a__law_codes => k_is)
    (case l__law_codes => k_is)
    (case c__law_codes => k_is)
    (case k__law_codes => k_is)
    (case a__law_drawn_key => k_is)
    (case l__law_drawn_key => k_is)
    (case c__law_drawn_key => k_is)
    (case k__law_drawn_key => k_is)
    (case a__law_number => k_is)
    (case l__law_number => k_is)
    (case c__law_number => k_is)
    (case k__law_number => k_is)
    (case a__law_kinds_hold => k_is)
    (case l__law_kinds_hold => k_is)
    (case c__law_kinds_hold => k_is)
    (case k__law_kinds_hold => k_is)
    (case a_law => k_is)
    (case l_law => k_is)
    (case c_law => k_is)
    (case k_law => k_is)
    (case z_HIGH_SIGNS => k_is)
    (case z_KEY_ALPHABET => k_is)
    (case z_KEY_SIGNS => k_is)
    (case z_LOW_SIGNS => k_is)
    (case z_MOST_VALUE => k_is)
    (case z_VALUE_SIGNS => k_is)
    (case z_all => k_is)
    (case z_bool => k_is)
    (case z_int => k_is)
    (case z_isinstance => k_is)
    (case z_len => k_is)
    (case z_ord => k_is)
    (case z_range => k_is)
    (case z_sorted => k_is)
    (case z_str => k_is)
    (case z_tuple => k_is)
#print axioms PySem.Challenge.cw_crosskeep_k00_keys_values_and_ranges_holds

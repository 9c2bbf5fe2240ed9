import PyProof.Rows.All
import Wide.All
import OpenK.AllK
import Wide.FinOn
import HandS.ForMost
import HandS.TryOnly
import HandS.IsInst
import HandS.Evl
import HandS.Wide
import HandS.TupAny
import HandS.SortInts
import HandS.Style
import HandS.Strs
import HandS.SetFor
import HandS.Conv
import HandS.More
import HandS.Walk
import HandS.WideBits
import HandS.Property
import HandS.TupLe
import HandS.Defaults
import HandS.Deep
import HandS.RevRange
import PyProof.StrOps2
import HandS.TupMul
import HandS.DictComp
import KE.GoesMore
import HandS.Lambda
import HandS.EndTab
import KE.SortKeyHeap
import KE.KNest
import PySem.Challenge.RW_crosskeep_k05_whole_deal_is_its_parts
set_option Elab.async false
set_option linter.all false
set_option maxRecDepth 100000
set_option maxHeartbeats 4000000

/-! ## readings, one step at a time (a layer of our own over the hand layer) -/
namespace Xk
open PySem PySem.Spec PyProof.Rows L2

section
variable {K : PySem.W.Frag} {σ : L2.St} {H H0 H1 H2 : Hp} {Q : VK} {ta tb tc te : TE} {t u : TT} {D : Ends} {tz tu tw : TS} {g : TG} {x y z v : V} {i j : Int} {b : Bool}

/-! ### values -/
theorem rel_ref {a : Addr} : RelV (.ref a) (.ref a) := rfl
theorem rel_ty {T : String} : RelV (.ty T) (.type T) := rfl
theorem rel_int {tk : Tok} : RelV (.int i) (.int i tk) := ⟨tk, rfl⟩
theorem rel_str {s : Str} {tk : Tok} : RelV (.str s) (.str s tk) := ⟨tk, rfl⟩

/-! ### heaps -/
/-- nothing stands at p -/
structure Fr (p : Addr) (H : Hp) : Prop where
  is : H p = none
theorem same_fr {p : Addr} {o : HO} (h : Fr p H) : Same H (upd H p o) := fun c x e => by
  rw [upd_ne (ne_of_none e h.is)]
  exact e
theorem same_new {p : Addr} {o : HO} (h : H p = none) : Same H (upd H p o) := fun c x e => by
  rw [upd_ne (ne_of_none e h)]
  exact e
theorem same_mut {p : Addr} {o : HO} (e : Same H H1) (h : Fr p H) : Same H (upd H1 p o) := fun c x ha => by
  rw [upd_ne (ne_of_none ha h.is)]
  exact e c x ha
theorem same_at {a : Addr} {o : HO} (e : Same H H1) (h : H a = some o) : H1 a = some o := e a o h
theorem free_back {p : Addr} (h : Fr p H1) (e : Same H H1) : Fr p H := ⟨Same.free e h.is⟩
theorem ne_new {a p : Addr} {o : HO} (h' : Fr p H) (h : H a = some o) : a ≠ p := ne_of_none h h'.is
theorem sq_of {a : Addr} {xs : List V} (h : H a = some (.lst xs)) : SqL K H a xs := Or.inl (Or.inl h)
theorem st_of {a : Addr} {xs : List V} (h : H a = some (.tup xs)) : SqT K H a xs := Or.inl (Or.inl h)
theorem sq_same {a : Addr} {xs : List V} (h : SqL K H a xs) (e : Same H H1) : SqL K H1 a xs := e.seq h
theorem st_same {a : Addr} {xs : List V} (h : SqT K H a xs) (e : Same H H1) : SqT K H1 a xs := by
  rcases h with (h | ⟨o, h⟩) | h
  · exact .inl (.inl (e _ _ h))
  · exact .inl (.inr ⟨o, e _ _ h⟩)
  · exact .inr h
theorem size_ok {n : Nat} (h : n ≤ 100000) : n ≤ sizeLine := Nat.le_trans h (by decide)
theorem size_lt {n : Nat} (h : n < 100000) : n < sizeLine := Nat.lt_of_lt_of_le h (by decide)

/-- all that was tracked but at p is as it was -/
def But (p : Addr) (H H' : Hp) : Prop := ∀ b o, b ≠ p → H b = some o → H' b = some o
theorem But.refl (p : Addr) (H : Hp) : But p H H := fun _ _ _ h => h
theorem but_same {p : Addr} (e : Same H H1) : But p H H1 := fun b o _ h => e b o h
theorem but_trans {p : Addr} (e : But p H H1) (e' : But p H1 H2) : But p H H2 := fun b o n h => e' b o n (e b o n h)
theorem but_mut {p : Addr} {o : HO} (e : But p H H1) : But p H (upd H1 p o) := fun b u n h => by
  rw [upd_ne n]
  exact e b u n h
theorem but_new {p q : Addr} {o : HO} (e : But p H H1) (h : Fr q H) : But p H (upd H1 q o) := fun b u n g => by
  rw [upd_ne (ne_of_none g h.is)]
  exact e b u n g
theorem but_at {p a : Addr} {o : HO} (e : But p H H1) (n : a ≠ p) (h : H a = some o) : H1 a = some o := e a o n h
theorem none_but {p a : Addr} {o u : HO} (h : H p = some o) (e : But p H H1) (h1 : H1 p = some u) (ha : Fr a H1) : Fr a H := by
  refine ⟨?_⟩
  cases q : H a with
  | none => rfl
  | some v =>
    by_cases n : a = p
    · subst n
      rw [ha.is] at h1
      cases h1
    · have := e a v n q
      rw [ha.is] at this
      cases this
theorem fr_upd {p q : Addr} {o : HO} (h : Fr p (upd H q o)) : Fr p H := by
  refine ⟨?_⟩
  have h1 := h.is
  unfold upd at h1
  split at h1
  · cases h1
  · exact h1
theorem same_but {p : Addr} (e : But p H H1) (h : Fr p H0) (e0 : Same H0 H) : Same H0 H1 := fun b o g => e b o (ne_of_none g h.is) (e0 b o g)

/-! ### expressions -/
theorem x_var {n : Nat} (h : σ[n]? = some (some v)) (q : Q v H) : tVar n σ H Q := ⟨v, h, q⟩
theorem x_c (q : Q v H) : tC v σ H Q := q
theorem x_op {r : R2} (q : ta σ H fun x H1 => tb σ H1 fun y H2 => r x y H2 Q) : tOp r ta tb σ H Q := q
theorem x_un {r : V → Hp → VK → Prop} (q : ta σ H fun x H1 => r x H1 Q) : tUn r ta σ H Q := q
theorem x_I0 {f : Int → Int → V} (q : Q (f i j) H) : rI0 f (.int i) (.int j) H Q := ⟨i, j, rfl, rfl, q⟩
theorem x_I {C : Int → Int → Prop} {f : Int → Int → V} (hc : C i j) (q : Q (f i j) H) : rI C f (.int i) (.int j) H Q := ⟨i, j, rfl, rfl, hc, q⟩
theorem x_U {f : Int → V} (q : Q (f i) H) : rU f (.int i) H Q := ⟨i, rfl, q⟩
theorem x_eq (h : scal x y = true) (q : Q (.bl (decide (x = y))) H) : rEq x y H Q := ⟨h, q⟩
theorem x_ne (h : scal x y = true) (q : Q (.bl (!decide (x = y))) H) : rNe x y H Q := ⟨h, q⟩
theorem x_ixL {p : Addr} {xs : List V} (h : SqL K H p xs) (ha : atI xs i = some v) (q : Q v H) : rIxL K (.ref p) (.int i) H Q := ⟨p, xs, i, v, rfl, rfl, h, ha, q⟩
theorem x_ixT {p : Addr} {xs : List V} (h : SqT K H p xs) (ha : atI xs i = some v) (q : Q v H) : rIxT K (.ref p) (.int i) H Q := ⟨p, xs, i, v, rfl, rfl, h, ha, q⟩
theorem x_ixS {w : Str} {c : Nat} (h : w.length ≤ 100000) (ha : atI w.cps.toList i = some c) (q : Q (.str ⟨#[c]⟩) H) : rIxS (.str w) (.int i) H Q := ⟨w, i, c, rfl, rfl, size_ok h, ha, q⟩
theorem x_nil {R : List V → Hp → Prop} (q : R [] H) : tNil σ H R := q
theorem x_cons {tr : TA} {R : List V → Hp → Prop} (q : ta σ H fun x H1 => tr σ H1 fun xs H2 => R (x :: xs) H2) : tCons ta tr σ H R := q
def New (Q : VK) (o : HO) (n : Nat) (H : Hp) : Prop := n ≤ sizeLine ∧ ∀ p, H p = none → Q (.ref p) (upd H p o)
theorem x_lst {tr : TA} (q : tr σ H fun xs H1 => New Q (.lst xs) xs.length H1) : tLst tr σ H Q := q
theorem x_tup {tr : TA} (q : tr σ H fun xs H1 => New Q (.tup xs) xs.length H1) : tTup tr σ H Q := q
/-- what is new is told by what it holds; the heap gets a name -/
theorem x_new {n : Nat} {o : HO} (hl : n ≤ 100000) (k : ∀ p H2, Fr p H → Same H H2 → H2 p = some o → Q (.ref p) H2) : New Q o n H :=
  ⟨size_ok hl, fun p hp => k p _ ⟨hp⟩ (same_new hp) upd_same⟩
theorem x_new1 {o : HO} (k : ∀ p H2, Fr p H → Same H H2 → H2 p = some o → Q (.ref p) H2) : ∀ p, H p = none → Q (.ref p) (upd H p o) :=
  fun p hp => k p _ ⟨hp⟩ (same_new hp) upd_same
theorem x_cb {r : List V → Hp → VK → Prop} {tr : TA} (q : tr σ H fun vs H1 => r vs H1 Q) : tCB r tr σ H Q := q
theorem x_call {sp : Sp} {dvs : List V} {E : XK} {tr : TA} (q : tr σ H fun vs H1 => sp (vs ++ dvs) H1 Q E) : tCall sp dvs E tr σ H Q := q
theorem x_sl {r : V → Option Int → Option Int → Hp → VK → Prop} {tl th : TO} (q : te σ H fun x H1 => tl σ H1 fun l H2 => th σ H2 fun u H3 => r x l u H3 Q) : tSl r te tl th σ H Q := q
theorem x_nopart {R : Option Int → Hp → Prop} (q : R none H) : tNoPart σ H R := q
theorem x_part {R : Option Int → Hp → Prop} (q : te σ H fun x H1 => ∃ i, x = .int i ∧ R (some i) H1) : tPart te σ H R := q
theorem x_if (q : t σ H fun c H1 => if c = true then ta σ H1 Q else tb σ H1 Q) : tIf t ta tb σ H Q := q
theorem x_andV (q : ta σ H fun x H1 => ∃ c, x = .bl c ∧ if c = true then tb σ H1 Q else Q (.bl false) H1) : tAndV ta tb σ H Q := q
theorem x_orV (q : ta σ H fun x H1 => ∃ c, x = .bl c ∧ if c = true then Q (.bl true) H1 else tb σ H1 Q) : tOrV ta tb σ H Q := q
theorem x_notV (q : ta σ H fun x H1 => ∃ c, x = .bl c ∧ Q (.bl (!c)) H1) : tNotV ta σ H Q := q
theorem x_bl {R : Bool → Prop} (q : R b) : ∃ c, V.bl b = .bl c ∧ R c := ⟨b, rfl, q⟩
theorem x_isI {R : Int → Prop} (q : R i) : ∃ c, V.int i = .int c ∧ R c := ⟨i, rfl, q⟩

/-! ### built-ins by names -/
def nInt : List V → Hp → VK → Prop := fun xs H Q => (∃ i, xs = [.int i] ∧ Q (.int i) H) ∨ ∃ k, xs = [.bl k] ∧ Q (.int (if k then 1 else 0)) H
theorem call_nInt {X : Cx} : CallR X (.type "int") nInt := call_int1
theorem x_nInt (q : Q (.int i) H) : nInt [.int i] H Q := .inl ⟨i, rfl, q⟩
theorem x_nIntB (q : Q (.int (if b then 1 else 0)) H) : nInt [.bl b] H Q := .inr ⟨b, rfl, q⟩
def nLen (K : PySem.W.Frag) : List V → Hp → VK → Prop := fun xs H Q => ∃ p ys, xs = [.ref p] ∧ (SqL K H p ys ∨ SqT K H p ys) ∧ Q (.int ys.length) H
theorem call_nLen {X : Cx} : CallR X (.builtin "len") (nLen X.K) := call_len_seq
theorem x_lenL {p : Addr} {ys : List V} (h : SqL K H p ys) (q : Q (.int ys.length) H) : nLen K [.ref p] H Q := ⟨p, ys, rfl, .inl h, q⟩
theorem x_lenT {p : Addr} {ys : List V} (h : SqT K H p ys) (q : Q (.int ys.length) H) : nLen K [.ref p] H Q := ⟨p, ys, rfl, .inr h, q⟩
def nListOf (K : PySem.W.Frag) : List V → Hp → VK → Prop := fun xs H Q => ∃ p ys, xs = [.ref p] ∧ (SqL K H p ys ∨ SqT K H p ys) ∧ ∀ l, H l = none → Q (.ref l) (upd H l (.lst ys))
theorem call_nListOf {X : Cx} : CallR X (.type "list") (nListOf X.K) := call_list_of
theorem x_listL {p : Addr} {ys : List V} (h : SqL K H p ys) (k : ∀ l H2, Fr l H → Same H H2 → H2 l = some (.lst ys) → Q (.ref l) H2) : nListOf K [.ref p] H Q := ⟨p, ys, rfl, .inl h, x_new1 k⟩
theorem x_listT {p : Addr} {ys : List V} (h : SqT K H p ys) (k : ∀ l H2, Fr l H → Same H H2 → H2 l = some (.lst ys) → Q (.ref l) H2) : nListOf K [.ref p] H Q := ⟨p, ys, rfl, .inr h, x_new1 k⟩
def nTupleOf (K : PySem.W.Frag) : List V → Hp → VK → Prop := fun xs H Q => ∃ p ys, xs = [.ref p] ∧ ((SqL K H p ys ∧ ∀ l, H l = none → Q (.ref l) (upd H l (.tup ys))) ∨ (SqT K H p ys ∧ Q (.ref p) H))
theorem call_nTupleOf {X : Cx} : CallR X (.type "tuple") (nTupleOf X.K) := call_tuple_of
theorem x_tupleL {p : Addr} {ys : List V} (h : SqL K H p ys) (k : ∀ l H2, Fr l H → Same H H2 → H2 l = some (.tup ys) → Q (.ref l) H2) : nTupleOf K [.ref p] H Q := ⟨p, ys, rfl, .inl ⟨h, x_new1 k⟩⟩
theorem x_tupleT {p : Addr} {ys : List V} (h : SqT K H p ys) (q : Q (.ref p) H) : nTupleOf K [.ref p] H Q := ⟨p, ys, rfl, .inr ⟨h, q⟩⟩
theorem kit_T {a c : String} (h : kitB a c = some true) : kitB a c = some true := h
theorem kit_F {a c : String} (h : kitB a c = some false) : kitB a c = some false := h
theorem x_isi {c : String} {tt : String} {k : Bool} (ty : TyX K H x (.type tt)) (e : kitB tt c = some k) (q : Q (.bl k) H) : rIsi K [x, .ty c] H Q := ⟨x, .ty c, .type tt, .type c, k, rfl, .ty _, ty, kit_ty e, q⟩
theorem x_isiInt {c : String} {k : Bool} (e : kitB "int" c = some k) (q : Q (.bl k) H) : rIsi K [.int i, .ty c] H Q := x_isi (.base (.int i)) e q
theorem x_isiBl {c : String} {k b : Bool} (e : kitB "bool" c = some k) (q : Q (.bl k) H) : rIsi K [.bl b, .ty c] H Q := x_isi (.base (.bl b)) e q
theorem x_isiStr {c : String} {k : Bool} {s : Str} (e : kitB "str" c = some k) (q : Q (.bl k) H) : rIsi K [.str s, .ty c] H Q := x_isi (.base (.str s)) e q
theorem x_isiNon {c : String} {k : Bool} (e : kitB "NoneType" c = some k) (q : Q (.bl k) H) : rIsi K [.non, .ty c] H Q := x_isi (.base .non) e q
theorem x_isiLst {c : String} {k : Bool} {a : Addr} {xs : List V} (h : H a = some (.lst xs)) (e : kitB "list" c = some k) (q : Q (.bl k) H) : rIsi K [.ref a, .ty c] H Q := x_isi (.base (.lst h)) e q
theorem x_isiTup {c : String} {k : Bool} {a : Addr} {xs : List V} (h : H a = some (.tup xs)) (e : kitB "tuple" c = some k) (q : Q (.bl k) H) : rIsi K [.ref a, .ty c] H Q := x_isi (.base (.tup h)) e q

def nSorted (K : PySem.W.Frag) : List V → Hp → VK → Prop := fun vs H Q => ∃ (a : Addr) (ns : List Int), vs = [V.ref a] ∧ SqL K H a (ns.map V.int) ∧ ns.length < 64 ∧
  ∀ (ns' : List Int) (p : Addr), ns'.Perm ns → ns'.Pairwise (· ≤ ·) → H p = none → Q (.ref p) (upd H p (.lst (ns'.map V.int)))
theorem x_sorted {a : Addr} {ns : List Int} (h : SqL K H a (ns.map V.int)) (hl : ns.length < 64) (k : ∀ p H2 (ns' : List Int), ns'.Perm ns → ns'.Pairwise (· ≤ ·) → Fr p H → Same H H2 → H2 p = some (.lst (ns'.map V.int)) → Q (.ref p) H2) : rSorted K [.ref a] H Q :=
  ⟨a, ns, rfl, h, hl, fun ns' p h1 h2 h3 => k p _ ns' h1 h2 ⟨h3⟩ (same_new h3) upd_same⟩
/-- set(t), t a tuple of ints -/
def rSetOfI (K : PySem.W.Frag) (w : World) : List V → Hp → VK → Prop := fun vs H Q => ∃ (p : Addr) (ns : List Int), vs = [V.ref p] ∧ SqT K H p (ns.map V.int) ∧ ns.length ≤ 1000 ∧ ∀ a n, H a = none → n ≤ ns.length → Q (.ref a) (upd H a (SetO w a (fun j => decide (j ∈ ns)) n))
theorem cr_setOfI {X : Cx} (hc : X.calm = true) : CallR X (.type "set") (rSetOfI X.K X.w) := by
  intro pins s σ H xs us Q I r h
  obtain ⟨p0, ns, rfl, hq, hl, q⟩ := h
  cases r with
  | cons r rr =>
    cases rr
    cases r
    obtain ⟨its, rv, pt, hz⟩ := I.tuple hq
    have hi : IntsAre its.toArray.toList ns := ints_of_vals rv
    have hd := I.ok.hd hc
    refine call_set_tupI ns hd (show s.heap.IsTuple p0 its.toArray from pt) hi (by unfold scanBound; omega) fun h' tk c R1 hcn k => ?_
    exact ⟨.ref _, upd H s.heap.objs.size (SetO X.w s.heap.objs.size (fun j => decide (j ∈ ns)) c), I.laid (t' := tk) k (Nat.le_refl _) (setO_new R1), rfl, q _ _ (I.hok.fresh (Nat.le_refl _)) hcn⟩
theorem x_setOfI {w : World} {p : Addr} {ns : List Int} (h : SqT K H p (ns.map V.int)) (hl : ns.length ≤ 1000) (k : ∀ a H2 n, Fr a H → Same H H2 → H2 a = some (SetO w a (fun j => decide (j ∈ ns)) n) → n ≤ ns.length → Q (.ref a) H2) : rSetOfI K w [.ref p] H Q :=
  ⟨p, ns, rfl, h, hl, fun a n h1 h2 => k a _ n ⟨h1⟩ (same_new h1) upd_same h2⟩
theorem x_sortedSet {w : World} {a : Addr} {S : Int → Bool} {n : Nat} (h : H a = some (SetO w a S n)) (hl : n < 64) (k : ∀ p H2 (ns : List Int), ns.Pairwise (· < ·) → (∀ k : Int, k ∈ ns ↔ S k = true) → ns.length = n → Fr p H → Same H H2 → H2 p = some (.lst (ns.map V.int)) → Q (.ref p) H2) : rSortedSet w [.ref a] H Q :=
  ⟨a, S, n, rfl, h, hl, fun ns p h1 h2 h3 h4 => k p _ ns h1 h2 h3 ⟨h4⟩ (same_new h4) upd_same⟩
theorem x_all {a : Addr} {bs : List Bool} (h : SqL K H a (bs.map V.bl)) (q : Q (.bl (bs.all id)) H) : rAll K [.ref a] H Q := ⟨a, bs, rfl, h, q⟩
theorem x_any {a : Addr} {bs : List Bool} (h : SqL K H a (bs.map V.bl)) (q : Q (.bl (bs.any id)) H) : rAny K [.ref a] H Q := ⟨a, bs, rfl, h, q⟩
theorem x_sum {a : Addr} {ns : List Int} (h : SqL K H a (ns.map V.int)) (q : Q (.int ns.sum) H) : rSum K [.ref a] H Q := ⟨a, ns, rfl, h, q⟩
theorem x_inL {p : Addr} {xs : List V} (h : SqL K H p xs) (hx : flatV x = true) (ha : xs.all flatV = true) (q : Q (.bl (inV x xs)) H) : rIn K false x (.ref p) H Q := ⟨p, xs, rfl, .inl h, hx, ha, q⟩
theorem x_inT {p : Addr} {xs : List V} (h : SqT K H p xs) (hx : flatV x = true) (ha : xs.all flatV = true) (q : Q (.bl (inV x xs)) H) : rIn K false x (.ref p) H Q := ⟨p, xs, rfl, .inr h, hx, ha, q⟩
theorem x_niL {p : Addr} {xs : List V} (h : SqL K H p xs) (hx : flatV x = true) (ha : xs.all flatV = true) (q : Q (.bl (!inV x xs)) H) : rIn K true x (.ref p) H Q := ⟨p, xs, rfl, .inl h, hx, ha, q⟩
theorem x_niT {p : Addr} {xs : List V} (h : SqT K H p xs) (hx : flatV x = true) (ha : xs.all flatV = true) (q : Q (.bl (!inV x xs)) H) : rIn K true x (.ref p) H Q := ⟨p, xs, rfl, .inr h, hx, ha, q⟩
theorem flat_ints : ∀ ns : List Int, (ns.map V.int).all flatV = true
  | [] => rfl
  | n :: r => by
    rw [List.map_cons, List.all_cons, flat_ints r]
    rfl
theorem in_ints (i : Int) : ∀ ns : List Int, inV (.int i) (ns.map V.int) = decide (i ∈ ns)
  | [] => by simp [inV]
  | n :: r => by
    have h := in_ints i r
    unfold inV at h ⊢
    rw [List.map_cons, List.any_cons, h]
    by_cases e : n = i
    · subst e
      simp [eqV]
    · have e' : ¬ i = n := fun z => e z.symm
      simp [eqV, e, e']

def nIsN : R2 := fun x y H Q => y = .non ∧ Q (.bl (decide (x = .non))) H
def nNotN : R2 := fun x y H Q => y = .non ∧ Q (.bl (!decide (x = .non))) H
theorem op_nIsN {X : Cx} : OpR X (compareOp .Is) nIsN := op_isN
theorem op_nNotN {X : Cx} : OpR X (compareOp .IsNot) nNotN := op_notN
theorem x_nIsN (q : Q (.bl (decide (x = .non))) H) : nIsN x .non H Q := ⟨rfl, q⟩
theorem x_nNotN (q : Q (.bl (!decide (x = .non))) H) : nNotN x .non H Q := ⟨rfl, q⟩
def nAndM : R2 := fun x y H Q => ∃ (i : Int) (k : Nat), x = .int i ∧ y = .int (2 ^ k - 1) ∧ Q (.int (i % 2 ^ k)) H
theorem op_nAndM {X : Cx} : OpR X (binaryOp .BitAnd) nAndM := op_andM
theorem x_and255 (q : Q (.int (i % 256)) H) : nAndM (.int i) (.int 255) H Q := ⟨i, 8, rfl, rfl, q⟩

/-! ### the same rules, K told: within a comprehension's block too -/
section
variable {X : Cx} {w : World}
theorem k_in (e : X.K = K) : OpR X (compareOp .In) (rIn K false) := e ▸ op_in_seq
theorem k_enum {e : Expr} {ta : TA} {p pos tpos : Pos} {elts : List Expr} {kk : Nat} (hk : X.K = K) (hg : Gl X "enumerate") (hm : X.mg "enumerate" = none) (ha : PA X [e] ta) (hs : starEach [e] X.env = [(false, eval e X.env)] := by rfl) :
    PI X (.Tuple elts kk tpos) (.Call (.Name "enumerate" p) [e] [] pos) (iEnum K ta) := hk ▸ pi_enum hg hm ha hs
theorem k_gtup {es : List Expr} {k : Nat} {pos : Pos} {gs : TGs} {n : Nat} (hk : X.K = K) (hc : X.calm = true) (h : PGs X es gs)
    (hn : (assignEach es X.env).length = n := by rfl) (hst : (assignEach es X.env).findIdx? (·.1) = none := by rfl) : PG X (.Tuple es k pos) (gTup K n gs) := hk ▸ pg_tup hc h hn hst
theorem k_nin (e : X.K = K) : OpR X (compareOp .NotIn) (rIn K true) := e ▸ op_notIn_seq
theorem k_ixL (e : X.K = K) : IxR X (rIxL K) := e ▸ ix_list
theorem k_ixT (e : X.K = K) : IxR X (rIxT K) := e ▸ ix_tup
theorem k_slL (e : X.K = K) : SlR X (rSlL K) := e ▸ sl_list
theorem k_len (e : X.K = K) : CallR X (.builtin "len") (nLen K) := e ▸ call_nLen
theorem k_list (e : X.K = K) : CallR X (.type "list") (nListOf K) := e ▸ call_nListOf
theorem k_tuple (e : X.K = K) : CallR X (.type "tuple") (nTupleOf K) := e ▸ call_nTupleOf
theorem k_isi (e : X.K = K) : CallR X (.builtin "isinstance") (rIsi K) := e ▸ call_isi
theorem k_all (hc : X.calm = true) (e : X.K = K) : CallR X (.builtin "all") (rAll K) := e ▸ cr_all hc
theorem k_any (hc : X.calm = true) (e : X.K = K) : CallR X (.builtin "any") (rAny K) := e ▸ cr_any hc
theorem k_sum (hc : X.calm = true) (e : X.K = K) : CallR X (.builtin "sum") (rSum K) := e ▸ cr_sum hc
theorem k_sorted (e : X.K = K) : CallR X (.builtin "sorted") (rSorted K) := e ▸ cr_sorted
theorem k_sortedS (e : X.K = K) : CallR X (.builtin "sorted") (rSortedS K) := e ▸ cr_sortedS
theorem k_sortedSet (hc : X.calm = true) (e : X.w = w) : CallR X (.builtin "sorted") (rSortedSet w) := e ▸ cr_sortedSet hc
theorem k_setOfI (hc : X.calm = true) (e : X.K = K) (e' : X.w = w) : CallR X (.type "set") (rSetOfI K w) := e ▸ e' ▸ cr_setOfI hc
theorem k_eqD (hu : X.A.units + 64 < cLine) (e : X.K = K) : OpR X (compareOp .Eq) (rEqD K) := e ▸ op_eqD hu
theorem k_neD (hu : X.A.units + 64 < cLine) (e : X.K = K) : OpR X (compareOp .NotEq) (rNeD K) := e ▸ op_neD hu
end

/-! ### tests -/
theorem x_test {R : Bool → Hp → Prop} (q : te σ H fun x H1 => ∃ k, x = .bl k ∧ R k H1) : tTest te σ H R := q
theorem x_B {R : Bool → Hp → Prop} (q : te σ H fun x H1 => ∃ k, x = .bl k ∧ R k H1) : tB te σ H R := q
theorem x_and {R : Bool → Hp → Prop} (q : t σ H fun c H1 => if c = true then u σ H1 R else R false H1) : tAnd t u σ H R := q
theorem x_or {R : Bool → Hp → Prop} (q : t σ H fun c H1 => if c = true then R true H1 else u σ H1 R) : tOr t u σ H R := q
theorem x_not {R : Bool → Hp → Prop} (q : t σ H fun c H1 => R (!c) H1) : tNot t σ H R := q
theorem x_yes {R : Bool → Hp → Prop} (q : R true H) : tYes σ H R := q
theorem x_chain {r r' : R2} (q : ta σ H fun x H1 => tb σ H1 fun y H2 => r x y H2 fun z H3 => ∃ k, z = .bl k ∧ (if k = true then tc σ H3 fun w' H4 => r' y w' H4 Q else Q (.bl false) H3)) : tChain r r' ta tb tc σ H Q := q
theorem x_itd {p A B : Prop} [Decidable p] (h1 : p → A) (h2 : ¬p → B) : if decide p = true then A else B := by
  by_cases h : p
  · rw [if_pos (decide_eq_true h)]
    exact h1 h
  · rw [if_neg (by rw [decide_eq_false h]; decide)]
    exact h2 h
theorem x_itn {p A B : Prop} [Decidable p] (h1 : ¬p → A) (h2 : p → B) : if (!decide p) = true then A else B := by
  by_cases h : p
  · rw [decide_eq_true h, if_neg (by decide)]
    exact h2 h
  · rw [decide_eq_false h, if_pos (by decide)]
    exact h1 h
theorem x_itb {A B : Prop} (h1 : b = true → A) (h2 : b = false → B) : if b = true then A else B := by
  cases b with
  | true => rw [if_pos rfl]; exact h1 rfl
  | false => rw [if_neg (by decide)]; exact h2 rfl
theorem x_itnb {A B : Prop} (h1 : b = false → A) (h2 : b = true → B) : if (!b) = true then A else B := by
  cases b with
  | true => exact h2 rfl
  | false => exact h1 rfl

theorem x_nT {A B : Prop} (h : B) : if (!true) = true then A else B := h
theorem x_nF {A B : Prop} (h : A) : if (!false) = true then A else B := h
theorem x_dY {p A B : Prop} [Decidable p] (hp : p) (h : A) : if decide p = true then A else B := x_itd (fun _ => h) fun z => absurd hp z
theorem x_dN {p A B : Prop} [Decidable p] (hp : ¬p) (h : B) : if decide p = true then A else B := x_itd (fun z => absurd z hp) fun _ => h
theorem x_ndY {p A B : Prop} [Decidable p] (hp : p) (h : B) : if (!decide p) = true then A else B := x_itn (fun z => absurd hp z) fun _ => h
theorem x_ndN {p A B : Prop} [Decidable p] (hp : ¬p) (h : A) : if (!decide p) = true then A else B := x_itn (fun _ => h) fun z => absurd z hp

/-! ### statements -/
theorem x_seq (q : tu { D with nx := tz D } σ H) : tSeq tu tz D σ H := q
theorem x_sasg {n : Nat} (q : te σ H fun v H1 => tz D (σ.set n (some v)) H1) : tSeq (tAsg te (gName n)) tz D σ H := q
theorem x_asg {n : Nat} (q : te σ H fun v H1 => D.nx (σ.set n (some v)) H1) : tAsg te (gName n) D σ H := q
theorem x_sasgG (q : te σ H fun v H1 => g v σ H1 (tz D)) : tSeq (tAsg te g) tz D σ H := q
theorem x_asgG (q : te σ H fun v H1 => g v σ H1 D.nx) : tAsg te g D σ H := q
theorem x_ret (q : te σ H D.rt) : tRet te D σ H := q
theorem x_retN (q : D.rt .non H) : tRetN D σ H := q
theorem x_next (q : D.nx σ H) : tNext D σ H := q
theorem x_brk (q : D.bk σ H) : tBreak D σ H := q
theorem x_ct (q : D.ct σ H) : tCont D σ H := q
theorem x_sif (q : t σ H fun b H1 => if b = true then tu { D with nx := tz D } σ H1 else tw { D with nx := tz D } σ H1) : tSeq (tIfS t tu tw) tz D σ H := q
theorem x_ifS (q : t σ H fun b H1 => if b = true then tu D σ H1 else tw D σ H1) : tIfS t tu tw D σ H := q
theorem x_sdrop (q : te σ H fun _ H1 => tz D σ H1) : tSeq (tDrop te) tz D σ H := q
theorem x_drop (q : te σ H fun _ H1 => D.nx σ H1) : tDrop te D σ H := q
theorem x_saug {n : Nat} {ti : TIp} (h : σ[n]? = some (some x)) (q : te σ H fun y H1 => ti x y H1 fun z H2 => tz D (σ.set n (some z)) H2) : tSeq (tAug n te ti) tz D σ H := ⟨x, h, q⟩
theorem x_aug {n : Nat} {ti : TIp} (h : σ[n]? = some (some x)) (q : te σ H fun y H1 => ti x y H1 fun z H2 => D.nx (σ.set n (some z)) H2) : tAug n te ti D σ H := ⟨x, h, q⟩
theorem x_ipI {f : Int → Int → Int} (q : Q (.int (f i j)) H) : ipI f (.int i) (.int j) H Q := ⟨i, j, rfl, rfl, q⟩
/-- an if, then the rest: what follows is shown once -/
theorem x_cut (M : L2.St → Hp → Prop) (h : tu { D with nx := M } σ H) (k : ∀ σ' H', M σ' H' → tz D σ' H') : Evl.tCut tu tz D σ H := ⟨M, h, k⟩
theorem x_nocut (h : tu { D with nx := tz D } σ H) : Evl.tCut tu tz D σ H := ⟨_, h, fun _ _ q => q⟩

theorem x_nocutW (h : tSeq (tWhile t tu) tz D σ H) : Evl.tCut (tWhile t tu) tz D σ H := ⟨_, h, fun _ _ q => q⟩

/-! ### targets -/
theorem x_gName {n : Nat} {R : L2.St → Hp → Prop} (q : R (σ.set n (some v)) H) : gName n v σ H R := q
theorem x_gTup {n : Nat} {gs : TGs} {R : L2.St → Hp → Prop} {a : Addr} {xs : List V} (h : SqT K H a xs) (hn : xs.length = n) (q : gs xs σ H R) : gTup K n gs (.ref a) σ H R := ⟨a, xs, rfl, h, hn, q⟩
theorem x_gLst {n : Nat} {gs : TGs} {R : L2.St → Hp → Prop} {a : Addr} {xs : List V} (h : SqL K H a xs) (hn : xs.length = n) (q : gs xs σ H R) : gLst K n gs (.ref a) σ H R := ⟨a, xs, rfl, h, hn, q⟩
theorem x_gCons {gs : TGs} {R : L2.St → Hp → Prop} {vs : List V} (q : g v σ H fun σ' H' => gs vs σ' H' R) : gCons g gs (v :: vs) σ H R := ⟨v, vs, rfl, q⟩
theorem x_gNil {R : L2.St → Hp → Prop} (q : R σ H) : gNil [] σ H R := ⟨rfl, q⟩
theorem x_gSub {to ti : TE} {ts : TSet} {R : L2.St → Hp → Prop} (q : to σ H fun o H1 => ti σ H1 fun i H2 => ts o i v H2 fun H3 => R σ H3) : gSub to ti ts v σ H R := q
theorem ixN_nat {n j : Nat} (hj : j < n) : ixN n (j : Int) = some j := by
  unfold ixN
  rw [if_pos (by omega), if_pos (by omega)]
  simp
theorem ixN_of {n j : Nat} {k : Int} (e : k = (j : Int)) (hj : j < n) : ixN n k = some j := by
  rw [e]
  exact ixN_nat hj
theorem at_nat {α : Type} {xs : List α} {k : Int} {j : Nat} {v : α} (e : k = (j : Int)) (h : xs[j]? = some v) : atI xs k = some v := by
  rw [e]
  exact atI_nat h
theorem at_neg {α : Type} {xs : List α} {k : Int} {j : Nat} {v : α} (hk : k < 0) (e : k + (xs.length : Int) = (j : Int)) (h : xs[j]? = some v) : atI xs k = some v := by
  unfold atI ixN
  rw [if_neg (by omega), if_pos (by omega)]
  have e2 : (k + (xs.length : Int)).toNat = j := by omega
  rw [e2]
  exact h
theorem x_setL {p : Addr} {xs : List V} {k : Int} {j : Nat} {R : Hp → Prop} (h : H p = some (.lst xs)) (hj : ixN xs.length k = some j) (q : R (upd H p (.lst (xs.set j v)))) : rSetL (.ref p) (.int k) v H R := ⟨p, xs, k, j, rfl, rfl, h, hj, q⟩
/-- xs.append(e) -/
theorem x_bm {T : String} {r : V → List V → Hp → VK → Prop} {tr : TA} (q : te σ H fun x H1 => tyV K T x H1 ∧ tr σ H1 fun xs H2 => r x xs H2 Q) : tBM K T r te tr σ H Q := q
theorem x_bm0 {T : String} {r : V → List V → Hp → VK → Prop} (q : te σ H fun x H1 => tyV K T x H1 ∧ r x [] H1 Q) : tBM0 K T r te σ H Q := q
theorem x_tyL {a : Addr} {xs : List V} {P : Prop} (h : SqL K H a xs) (q : P) : tyV K "list" (.ref a) H ∧ P := ⟨.inl ⟨rfl, xs, h⟩, q⟩
theorem x_app {l : Addr} {xs : List V} (h : H l = some (.lst xs)) (hz : xs.length < 100000) (q : Q .non (upd H l (.lst (xs ++ [v])))) : rAppend (.ref l) [v] H Q := ⟨l, xs, v, rfl, rfl, h, size_lt hz, q⟩
theorem x_cat {a c : Addr} {xs ys : List V} (h : H a = some (.lst xs)) (h' : H c = some (.lst ys)) (hz : xs.length + ys.length ≤ 100000) (k : ∀ p H2, Fr p H → Same H H2 → H2 p = some (.lst (xs ++ ys)) → Q (.ref p) H2) : rCat (.ref a) (.ref c) H Q :=
  ⟨a, c, xs, ys, rfl, rfl, h, h', size_ok hz, x_new1 k⟩
theorem x_slL {a : Addr} {xs : List V} {lo hi : Option Int} (h : SqL K H a xs) (k : ∀ p H2, Fr p H → Same H H2 → H2 p = some (.lst (cutV xs lo hi)) → Q (.ref p) H2) : rSlL K (.ref a) lo hi H Q := ⟨a, xs, rfl, h, x_new1 k⟩

/-! ### loops -/
theorem x_forR {n : Nat} (q : te σ H fun x H1 => ∃ m : Int, x = .int m ∧ 0 ≤ m ∧ m ≤ 100000 ∧ ∃ Pv : Nat → L2.St → Hp → Prop, Pv 0 σ H1 ∧
      (∀ (i : Nat) σ' H', (i : Int) < m → Pv i σ' H' → tu { D with nx := Pv (i + 1), ct := Pv (i + 1), bk := D.nx } (σ'.set n (some (.int (i : Int)))) H') ∧ (∀ σ' H', Pv m.toNat σ' H' → D.nx σ' H'))
    (mono : ∀ Q Q' : VK, (∀ v H1, Q v H1 → Q' v H1) → te σ H Q → te σ H Q') : tFor (iRng1 (tCons te tNil)) (gName n) tu D σ H := by
  refine mono _ _ (fun v H1 h => ?_) q
  obtain ⟨m, rfl, h0, h1, Pv, p0, ps, pd⟩ := h
  refine ⟨m, rfl, by omega, by omega, for_range (lo := 0) (n := m.toNat) Pv p0 (fun i σ' H' hi p => ?_) pd⟩
  have e0 : (0 : Int) + (i : Int) = (i : Int) := Int.zero_add _
  show tu { D with nx := Pv (i + 1), ct := Pv (i + 1), bk := D.nx } (σ'.set n (some (.int ((0 : Int) + (i : Int))))) H'
  rw [e0]
  exact ps i σ' H' (by omega) p
def RRange (n : Nat) (m : Int) (tu : TS) (D : Ends) (σ : L2.St) (H : Hp) : Prop := ∃ Pv : Nat → L2.St → Hp → Prop, Pv 0 σ H ∧
      (∀ (i : Nat) σ' H', (i : Int) < m → Pv i σ' H' → tu { D with nx := Pv (i + 1), ct := Pv (i + 1), bk := D.nx } (σ'.set n (some (.int (i : Int)))) H') ∧ (∀ σ' H', Pv m.toNat σ' H' → D.nx σ' H')
def rRange (n : Nat) (tu : TS) (D : Ends) (σ : L2.St) : List V → Hp → Prop := fun vs H => ∃ j : Int, vs = [.int j] ∧ -(2 ^ 62) ≤ j ∧ j < 2 ^ 62 ∧ ∃ W : Nat → Nat → L2.St → Hp → Prop, (∃ m, W 0 m σ H) ∧ ∀ i m σ H, W i m σ H →
  ((Itr 0 j.toNat).stop i H ∧ D.nx σ H) ∨ ((Itr 0 j.toNat).go i H ∧ ∃ N : L2.St → Hp → Prop, (∀ σ' H', N σ' H' → ∃ m', m' < m ∧ W (i + 1) m' σ' H') ∧ ∀ x H', (Itr 0 j.toNat).yld i H x H' → gName n x σ H' fun σ2 H2 => tu { D with nx := N, ct := N, bk := D.nx } σ2 H2)
theorem x_forR1 {n : Nat} {tr : TA} (q : tr σ H (rRange n tu D σ)) : tFor (iRng1 tr) (gName n) tu D σ H := q
theorem x_range {n : Nat} {m : Int} (Pv : Nat → L2.St → Hp → Prop) (hm : 0 ≤ m ∧ m ≤ 100000) (p0 : Pv 0 σ H)
    (ps : ∀ (i : Nat) σ' H', (i : Int) < m → Pv i σ' H' → tu { D with nx := Pv (i + 1), ct := Pv (i + 1), bk := D.nx } (σ'.set n (some (.int (i : Int)))) H') (pd : ∀ σ' H', Pv m.toNat σ' H' → D.nx σ' H') : rRange n tu D σ [.int m] H := by
  refine ⟨m, rfl, by omega, by omega, for_range (lo := 0) (n := m.toNat) Pv p0 (fun i σ' H' hi p => ?_) pd⟩
  have e0 : (0 : Int) + (i : Int) = (i : Int) := Int.zero_add _
  show tu { D with nx := Pv (i + 1), ct := Pv (i + 1), bk := D.nx } (σ'.set n (some (.int ((0 : Int) + (i : Int))))) H'
  rw [e0]
  exact ps i σ' H' (by omega) p
def rForL (K : PySem.W.Frag) (g : TG) (tu : TS) (D : Ends) (σ : L2.St) : VK := fun x H => ∃ a, x = .ref a ∧ (∃ xs, SqL K H a xs) ∧ ∃ W : Nat → Nat → L2.St → Hp → Prop, (∃ m, W 0 m σ H) ∧ ∀ i m σ H, W i m σ H →
  ((Itl K a).stop i H ∧ D.nx σ H) ∨ ((Itl K a).go i H ∧ ∃ N : L2.St → Hp → Prop, (∀ σ' H', N σ' H' → ∃ m', m' < m ∧ W (i + 1) m' σ' H') ∧ ∀ x H', (Itl K a).yld i H x H' → g x σ H' fun σ2 H2 => tu { D with nx := N, ct := N, bk := D.nx } σ2 H2)
theorem x_forL1 (q : te σ H (rForL K g tu D σ)) : tFor (iList K te) g tu D σ H := q
theorem x_forL {a : Addr} {xs : List V} (Pv : Nat → L2.St → Hp → Prop) (hx : SqL K H a xs) (p0 : Pv 0 σ H) (hl : ∀ i σ' H', i ≤ xs.length → Pv i σ' H' → SqL K H' a xs)
    (ps : ∀ i x σ' H', xs[i]? = some x → Pv i σ' H' → g x σ' H' fun σ2 H2 => tu { D with nx := Pv (i + 1), ct := Pv (i + 1), bk := D.nx } σ2 H2) (pd : ∀ σ' H', Pv xs.length σ' H' → D.nx σ' H') : rForL K g tu D σ (.ref a) H :=
  ⟨a, rfl, ⟨xs, hx⟩, for_list Pv p0 hl ps pd⟩
def rForT (K : PySem.W.Frag) (g : TG) (tu : TS) (D : Ends) (σ : L2.St) : VK := fun x H => ∃ a, x = .ref a ∧ (∃ xs, SqT K H a xs) ∧ ∃ W : Nat → Nat → L2.St → Hp → Prop, (∃ m, W 0 m σ H) ∧ ∀ i m σ H, W i m σ H →
  ((Itt K a).stop i H ∧ D.nx σ H) ∨ ((Itt K a).go i H ∧ ∃ N : L2.St → Hp → Prop, (∀ σ' H', N σ' H' → ∃ m', m' < m ∧ W (i + 1) m' σ' H') ∧ ∀ x H', (Itt K a).yld i H x H' → g x σ H' fun σ2 H2 => tu { D with nx := N, ct := N, bk := D.nx } σ2 H2)
theorem x_forT1 (q : te σ H (rForT K g tu D σ)) : tFor (iTup K te) g tu D σ H := q
theorem x_forT {a : Addr} {xs : List V} (Pv : Nat → L2.St → Hp → Prop) (hx : SqT K H a xs) (p0 : Pv 0 σ H) (hl : ∀ i σ' H', i ≤ xs.length → Pv i σ' H' → SqT K H' a xs)
    (ps : ∀ i x σ' H', xs[i]? = some x → Pv i σ' H' → g x σ' H' fun σ2 H2 => tu { D with nx := Pv (i + 1), ct := Pv (i + 1), bk := D.nx } σ2 H2) (pd : ∀ σ' H', Pv xs.length σ' H' → D.nx σ' H') : rForT K g tu D σ (.ref a) H :=
  ⟨a, rfl, ⟨xs, hx⟩, for_tup Pv p0 hl ps pd⟩
/-- while: W by a number that falls -/
def Falls (W : Nat → L2.St → Hp → Prop) (m : Nat) : L2.St → Hp → Prop := fun σ' H' => ∃ m', m' < m ∧ W m' σ' H'
theorem x_while (W : Nat → L2.St → Hp → Prop) (m0 : Nat) (h0 : W m0 σ H) (hs : ∀ m σ' H', W m σ' H' → t σ' H' fun b H1 => if b = true then tu { D with nx := Falls W m, ct := Falls W m, bk := D.nx } σ' H1 else D.nx σ' H1)
    (mono : ∀ (σ' : L2.St) (H' : Hp) (R R' : Bool → Hp → Prop), (∀ y H4, R y H4 → R' y H4) → t σ' H' R → t σ' H' R') : tWhile t tu D σ H :=
  ⟨W, ⟨m0, h0⟩, fun m σ' H' hw => mono _ _ _ _ (fun b H1 q => by
    cases b with
    | true =>
      rw [if_pos rfl] at q ⊢
      exact ⟨Falls W m, fun _ _ h => h, q⟩
    | false =>
      rw [if_neg (by decide)] at q ⊢
      exact q) (hs m σ' H' hw)⟩
def WTurn (W : Nat → L2.St → Hp → Prop) (m : Nat) (tu : TS) (D : Ends) (σ : L2.St) : Bool → Hp → Prop := fun b H1 => if b = true then ∃ N : L2.St → Hp → Prop, (∀ σ' H', N σ' H' → ∃ m', m' < m ∧ W m' σ' H') ∧ tu { D with nx := N, ct := N, bk := D.nx } σ H1 else D.nx σ H1
theorem x_while1 (W : Nat → L2.St → Hp → Prop) (m0 : Nat) (h0 : W m0 σ H) (hs : ∀ m σ' H', W m σ' H' → t σ' H' (WTurn W m tu D σ')) : tWhile t tu D σ H := ⟨W, ⟨m0, h0⟩, hs⟩
theorem x_wT {W : Nat → L2.St → Hp → Prop} {m : Nat} (q : tu { D with nx := Falls W m, ct := Falls W m, bk := D.nx } σ H) : WTurn W m tu D σ true H := by
  unfold WTurn
  rw [if_pos rfl]
  exact ⟨Falls W m, fun _ _ h => h, q⟩
theorem x_wF {W : Nat → L2.St → Hp → Prop} {m : Nat} (q : D.nx σ H) : WTurn W m tu D σ false H := by
  unfold WTurn
  rw [if_neg (by decide)]
  exact q
theorem x_wd {W : Nat → L2.St → Hp → Prop} {m : Nat} {p : Prop} [Decidable p] (h1 : p → WTurn W m tu D σ true H) (h2 : ¬p → WTurn W m tu D σ false H) : WTurn W m tu D σ (decide p) H := by
  by_cases h : p
  · rw [decide_eq_true h]
    exact h1 h
  · rw [decide_eq_false h]
    exact h2 h
theorem x_wn {W : Nat → L2.St → Hp → Prop} {m : Nat} {p : Prop} [Decidable p] (h1 : ¬p → WTurn W m tu D σ true H) (h2 : p → WTurn W m tu D σ false H) : WTurn W m tu D σ (!decide p) H := by
  by_cases h : p
  · rw [decide_eq_true h]
    exact h2 h
  · rw [decide_eq_false h]
    exact h1 h

/-! ### comprehensions -/
def RLc (J : It) (g : TG) (tt : TT) (te : TE) (vs : List Nat) (σ : L2.St) (Q : VK) : Hp → Prop := fun H1 => ∀ D, H1 D = none → ∃ W : Nat → Nat → Hp → Prop, (∃ m, W 0 m (upd H1 D (.lst []))) ∧ ∀ i m H, W i m H →
  (J.stop i H ∧ Q (.ref D) H) ∨ (J.go i H ∧ ∃ Nx : Hp → Prop, (∀ H', Nx H' → ∃ m', m' < m ∧ W (i + 1) m' H') ∧ ∀ x H', J.yld i H x H' → g x (wipe σ vs) H' fun σ2 H2 => wipe σ2 vs = wipe σ vs ∧ tt σ2 H2 fun b H3 =>
    if b = true then te σ2 H3 fun y H4 => ∃ acc, H4 D = some (.lst acc) ∧ acc.length < sizeLine ∧ Nx (upd H4 D (.lst (acc ++ [y]))) else Nx H3)
def rLcL (K : PySem.W.Frag) (g : TG) (tt : TT) (te : TE) (vs : List Nat) (σ : L2.St) (Q : VK) : VK := fun x H1 => ∃ a, x = .ref a ∧ (∃ xs, SqL K H1 a xs) ∧ RLc (Itl K a) g tt te vs σ Q H1
def rLcT (K : PySem.W.Frag) (g : TG) (tt : TT) (te : TE) (vs : List Nat) (σ : L2.St) (Q : VK) : VK := fun x H1 => ∃ a, x = .ref a ∧ (∃ xs, SqT K H1 a xs) ∧ RLc (Itt K a) g tt te vs σ Q H1
def rLcR (g : TG) (tt : TT) (te : TE) (vs : List Nat) (σ : L2.St) (Q : VK) : List V → Hp → Prop := fun xs H1 => ∃ j : Int, xs = [.int j] ∧ -(2 ^ 62) ≤ j ∧ j < 2 ^ 62 ∧ RLc (Itr 0 j.toNat) g tt te vs σ Q H1
theorem x_lcL1 {tx : TE} {vs : List Nat} (q : tx σ H (rLcL K g t te vs σ Q)) : tLc (iList K tx) g t te vs σ H Q := q
theorem x_lcT1 {tx : TE} {vs : List Nat} (q : tx σ H (rLcT K g t te vs σ Q)) : tLc (iTup K tx) g t te vs σ H Q := q
theorem x_lcR1 {tr : TA} {vs : List Nat} (q : tr σ H (rLcR g t te vs σ Q)) : tLc (iRng1 tr) g t te vs σ H Q := q
/-- a list comprehension: Pv of the new list's place, the turn and the heap -/
theorem x_lcL {a : Addr} {xs : List V} {vs : List Nat} (Pv : Addr → Nat → Hp → Prop) (hx : SqL K H a xs) (h0 : ∀ Dl, Fr Dl H → Pv Dl 0 (upd H Dl (.lst []))) (hl : ∀ Dl i H', Fr Dl H → Pv Dl i H' → SqL K H' a xs)
    (hs : ∀ Dl, Fr Dl H → ∀ i x H', xs[i]? = some x → Pv Dl i H' → g x (wipe σ vs) H' fun σ2 H2 => wipe σ2 vs = wipe σ vs ∧ t σ2 H2 fun b H3 =>
      if b = true then te σ2 H3 fun y H4 => ∃ acc, H4 Dl = some (.lst acc) ∧ acc.length < sizeLine ∧ Pv Dl (i + 1) (upd H4 Dl (.lst (acc ++ [y]))) else Pv Dl (i + 1) H3)
    (hd : ∀ Dl H', Fr Dl H → Pv Dl xs.length H' → Q (.ref Dl) H') : rLcL K g t te vs σ Q (.ref a) H := ⟨a, rfl, ⟨xs, hx⟩, fun Dl hD =>
  lc_list (xs := xs) (Pv Dl) (h0 Dl ⟨hD⟩) (fun i H' _ p => hl Dl i H' ⟨hD⟩ p) (fun i x H' hi p => hs Dl ⟨hD⟩ i x H' hi p) (fun H' p => hd Dl H' ⟨hD⟩ p)⟩
theorem x_lcT {a : Addr} {xs : List V} {vs : List Nat} (Pv : Addr → Nat → Hp → Prop) (hx : SqT K H a xs) (h0 : ∀ Dl, Fr Dl H → Pv Dl 0 (upd H Dl (.lst []))) (hl : ∀ Dl i H', Fr Dl H → Pv Dl i H' → SqT K H' a xs)
    (hs : ∀ Dl, Fr Dl H → ∀ i x H', xs[i]? = some x → Pv Dl i H' → g x (wipe σ vs) H' fun σ2 H2 => wipe σ2 vs = wipe σ vs ∧ t σ2 H2 fun b H3 =>
      if b = true then te σ2 H3 fun y H4 => ∃ acc, H4 Dl = some (.lst acc) ∧ acc.length < sizeLine ∧ Pv Dl (i + 1) (upd H4 Dl (.lst (acc ++ [y]))) else Pv Dl (i + 1) H3)
    (hd : ∀ Dl H', Fr Dl H → Pv Dl xs.length H' → Q (.ref Dl) H') : rLcT K g t te vs σ Q (.ref a) H := ⟨a, rfl, ⟨xs, hx⟩, fun Dl hD =>
  lc_tup (xs := xs) (Pv Dl) (h0 Dl ⟨hD⟩) (fun i H' _ p => hl Dl i H' ⟨hD⟩ p) (fun i x H' hi p => hs Dl ⟨hD⟩ i x H' hi p) (fun H' p => hd Dl H' ⟨hD⟩ p)⟩
theorem x_lcR {m : Int} {vs : List Nat} (Pv : Addr → Nat → Hp → Prop) (hm : 0 ≤ m ∧ m ≤ 100000) (h0 : ∀ Dl, Fr Dl H → Pv Dl 0 (upd H Dl (.lst [])))
    (hs : ∀ Dl, Fr Dl H → ∀ (i : Nat) H', (i : Int) < m → Pv Dl i H' → g (.int (i : Int)) (wipe σ vs) H' fun σ2 H2 => wipe σ2 vs = wipe σ vs ∧ t σ2 H2 fun b H3 =>
      if b = true then te σ2 H3 fun y H4 => ∃ acc, H4 Dl = some (.lst acc) ∧ acc.length < sizeLine ∧ Pv Dl (i + 1) (upd H4 Dl (.lst (acc ++ [y]))) else Pv Dl (i + 1) H3)
    (hd : ∀ Dl H', Fr Dl H → Pv Dl m.toNat H' → Q (.ref Dl) H') : rLcR g t te vs σ Q [.int m] H := ⟨m, rfl, by omega, by omega, fun Dl hD =>
  lc_range (lo := 0) (n := m.toNat) (Pv Dl) (h0 Dl ⟨hD⟩) (fun i H' hi p => by
    have e0 : (0 : Int) + (i : Int) = (i : Int) := Int.zero_add _
    rw [e0]
    exact hs Dl ⟨hD⟩ i H' (by omega) p) (fun H' p => hd Dl H' ⟨hD⟩ p)⟩
def rLcE (K : PySem.W.Frag) (g : TG) (tt : TT) (te : TE) (vs : List Nat) (σ : L2.St) (Q : VK) : List V → Hp → Prop := fun vs' H1 => ∃ a xs, vs' = [.ref a] ∧ SqL K H1 a xs ∧ RLc (Ite K a) g tt te vs σ Q H1
theorem x_lcE1 {tr : TA} {vs : List Nat} (q : tr σ H (rLcE K g t te vs σ Q)) : tLc (iEnum K tr) g t te vs σ H Q := q
theorem x_lcE {a : Addr} {xs : List V} {vs : List Nat} (Pv : Addr → Nat → Hp → Prop) (hx : SqL K H a xs) (h0 : ∀ Dl, Fr Dl H → Pv Dl 0 (upd H Dl (.lst []))) (hl : ∀ Dl i H', Fr Dl H → Pv Dl i H' → SqL K H' a xs)
    (hs : ∀ Dl, Fr Dl H → ∀ i x H1 T H', xs[i]? = some x → Pv Dl i H1 → Fr T H1 → Same H1 H' → H' T = some (.tup [.int (i : Nat), x]) → g (.ref T) (wipe σ vs) H' fun σ2 H2 => wipe σ2 vs = wipe σ vs ∧ t σ2 H2 fun b H3 =>
      if b = true then te σ2 H3 fun y H4 => ∃ acc, H4 Dl = some (.lst acc) ∧ acc.length < sizeLine ∧ Pv Dl (i + 1) (upd H4 Dl (.lst (acc ++ [y]))) else Pv Dl (i + 1) H3)
    (hd : ∀ Dl H', Fr Dl H → Pv Dl xs.length H' → Q (.ref Dl) H') : rLcE K g t te vs σ Q [.ref a] H := ⟨a, xs, rfl, hx, fun Dl hD =>
  lc_it walk_enum (Pv Dl) (h0 Dl ⟨hD⟩) (fun i H' _ p => hl Dl i H' ⟨hD⟩ p) (fun i x H1 H' hi p y => by
    obtain ⟨T, u, v, rfl, hT, rfl, e1, e2⟩ := y
    cases Option.some.inj e1
    exact hs Dl ⟨hD⟩ i v H1 T _ e2 p ⟨hT⟩ (same_new hT) upd_same) (fun H' p => hd Dl H' ⟨hD⟩ p)⟩
/-- the end of a turn: what is kept goes into the list -/
def Keep (Dl : Addr) (N : Hp → Prop) : VK := fun y H => ∃ acc, H Dl = some (.lst acc) ∧ acc.length < sizeLine ∧ N (upd H Dl (.lst (acc ++ [y])))
theorem x_keep {Dl : Addr} {N : Hp → Prop} {acc : List V} (h : H Dl = some (.lst acc)) (hz : acc.length < 100000) (q : N (upd H Dl (.lst (acc ++ [y])))) : ∃ acc, H Dl = some (.lst acc) ∧ acc.length < sizeLine ∧ N (upd H Dl (.lst (acc ++ [y]))) := ⟨acc, h, size_lt hz, q⟩
theorem x_wiped {A : Prop} {a b : L2.St} (h : a = b) (q : A) : a = b ∧ A := ⟨h, q⟩
end

/-! ### lists -/
theorem map_at {α β : Type} {f : α → β} {xs : List α} {j : Nat} {x : α} (h : xs[j]? = some x) : (xs.map f)[j]? = some (f x) := by
  rw [List.getElem?_map, h]
  rfl
theorem of_map_at {α β : Type} {f : α → β} {xs : List α} {j : Nat} {y : β} (h : (xs.map f)[j]? = some y) : ∃ x, xs[j]? = some x ∧ y = f x := by
  rw [List.getElem?_map] at h
  obtain ⟨x, hx, rfl⟩ := Option.map_eq_some_iff.mp h
  exact ⟨x, hx, rfl⟩
theorem at_lt {α : Type} {xs : List α} {j : Nat} {x : α} (h : xs[j]? = some x) : j < xs.length := (List.getElem?_eq_some_iff.mp h).1
theorem lt_at {α : Type} {xs : List α} {j : Nat} (h : j < xs.length) : ∃ x, xs[j]? = some x := ⟨xs[j], List.getElem?_eq_getElem h⟩
theorem drop_at {α : Type} {xs : List α} {j : Nat} {x : α} (h : xs[j]? = some x) : xs.drop j = x :: xs.drop (j + 1) := by
  obtain ⟨h1, h2⟩ := List.getElem?_eq_some_iff.mp h
  rw [List.drop_eq_getElem_cons h1, h2]
theorem snoc_map {α β : Type} {f : α → β} {xs : List α} {x : α} : xs.map f ++ [f x] = (xs ++ [x]).map f := by
  rw [List.map_append]
  rfl
theorem mem_snoc {α : Type} {P : α → Prop} {xs : List α} {x : α} (h : ∀ y ∈ xs, P y) (hx : P x) : ∀ y ∈ xs ++ [x], P y := fun y hy => by
  rcases List.mem_append.mp hy with hy | hy
  · exact h y hy
  · rw [List.mem_singleton.mp hy]
    exact hx

def upto (a b : Int) : List Int := (List.range (b - a).toNat).map fun i => a + (i : Nat)
theorem rgV_ints (a b : Int) : rgV a b = (upto a b).map V.int := by
  unfold rgV upto
  rw [List.map_map]
  rfl
theorem upto_len (a b : Int) : (upto a b).length = (b - a).toNat := by
  unfold upto
  rw [List.length_map, List.length_range]
def nRg (Q : VK) : Int → Int → Hp → Prop := fun a b H1 => RgOk a b ∧ ∀ q, H1 q = none → Q (.ref q) (upd H1 q (.lst (rgV a b)))
theorem x_lstRg {σ : L2.St} {H : Hp} {Q : VK} {te : L2.St → Hp → (Int → Int → Hp → Prop) → Prop} (q : te σ H (nRg Q)) : tLstRg te σ H Q := q
theorem x_rg1 {σ : L2.St} {H : Hp} {ta : TE} {R : Int → Int → Hp → Prop} (q : ta σ H fun x H1 => ∃ n, x = .int n ∧ R 0 n H1) : tRg1 ta σ H R := q
theorem x_nRg {H : Hp} {Q : VK} {a b : Int} (h : 0 ≤ a ∧ a ≤ 100000 ∧ 0 ≤ b ∧ b ≤ 100000) (k : ∀ p H2, Fr p H → Same H H2 → H2 p = some (.lst ((upto a b).map V.int)) → Q (.ref p) H2) : nRg Q a b H :=
  ⟨RgOk.of_le (by omega) (by omega) (by omega) (by omega), fun p hp => k p _ ⟨hp⟩ (same_new hp) (by rw [upd_same, rgV_ints])⟩
theorem upto_at {a b : Int} {j : Nat} (h : (j : Int) < b - a) : (upto a b)[j]? = some (a + j) := by
  unfold upto
  rw [List.getElem?_map, List.getElem?_range (by omega)]
  rfl

/-! ### lists of lists of ints -/
/-- at a stands a list of lists of ints: L their places and what they hold -/
def LL (H : Hp) (a : Addr) (L : List (Addr × List Int)) : Prop := H a = some (.lst (L.map fun e => V.ref e.1)) ∧ ∀ e ∈ L, H e.1 = some (.lst (e.2.map V.int))
theorem ll_same {H H' : Hp} {a : Addr} {L : List (Addr × List Int)} (e : Same H H') (h : LL H a L) : LL H' a L := ⟨e _ _ h.1, fun p hp => e _ _ (h.2 p hp)⟩
theorem ll_nil {H : Hp} {a : Addr} (h : H a = some (.lst [])) : LL H a [] := ⟨h, fun _ z => absurd z List.not_mem_nil⟩
theorem ll_snoc {H H' : Hp} {a p : Addr} {ns : List Int} {L : List (Addr × List Int)} (h : LL H a L) (h1 : H' a = some (.lst ((L.map fun e => V.ref e.1) ++ [V.ref p]))) (h2 : H' p = some (.lst (ns.map V.int))) (k : ∀ e ∈ L, H' e.1 = H e.1) : LL H' a (L ++ [(p, ns)]) := by
  refine ⟨?_, fun e he => ?_⟩
  · rw [h1, List.map_append]
    rfl
  · rcases List.mem_append.mp he with he | he
    · rw [k e he]
      exact h.2 e he
    · rw [List.mem_singleton.mp he]
      exact h2

/-! ### data -/
def dInts (ns : List Int) : List PyData := ns.map PyData.int
theorem dp_ints {K : PySem.W.Frag} {H : Hp} : ∀ ns : List Int, DpAll K H (ns.map V.int) (dInts ns)
  | [] => .nil
  | n :: r => .cons (.int n) (dp_ints r)
theorem canLay_ints : ∀ ns : List Int, PyData.canLayAll0 (dInts ns) = true
  | [] => by simp [dInts, PyData.canLayAll0]
  | n :: r => by
    have h := canLay_ints r
    unfold dInts at h ⊢
    rw [List.map_cons]
    simp only [PyData.canLayAll0, PyData.canLay0, h, Bool.and_self]
theorem eqv_ints : ∀ ns ms : List Int, PyData.eqvAll (dInts ns) (dInts ms) = decide (ns = ms)
  | [], [] => by simp [dInts, PyData.eqvAll]
  | [], m :: r => by simp [dInts, PyData.eqvAll]
  | n :: r, [] => by simp [dInts, PyData.eqvAll]
  | n :: r, m :: q => by
    have h := eqv_ints r q
    unfold dInts at h ⊢
    rw [List.map_cons, List.map_cons, PyData.eqvAll, h, PyData.eqv]
    by_cases h1 : n = m <;> by_cases h2 : r = q <;> simp [h1, h2]
theorem canLayAll_map {α : Type} {f : α → PyData} : ∀ (xs : List α), (∀ x ∈ xs, (f x).canLay0 = true) → PyData.canLayAll0 (xs.map f) = true
  | [], _ => by simp [PyData.canLayAll0]
  | x :: r, h => by
    have h1 := h x List.mem_cons_self
    have h2 := canLayAll_map r fun y hy => h y (List.mem_cons_of_mem _ hy)
    rw [List.map_cons]
    simp only [PyData.canLayAll0, h1, h2, Bool.and_self]
theorem depthAll_map {α : Type} {f : α → PyData} {n : Nat} : ∀ (xs : List α), (∀ x ∈ xs, (f x).depth ≤ n) → PyData.depthAll (xs.map f) ≤ n
  | [], _ => by simp [PyData.depthAll]
  | x :: r, h => by
    have h1 := h x List.mem_cons_self
    have h2 := depthAll_map r fun y hy => h y (List.mem_cons_of_mem _ hy)
    rw [List.map_cons, PyData.depthAll]
    omega
theorem depth_ints : ∀ ns : List Int, PyData.depthAll (dInts ns) = 0
  | [] => by simp [dInts, PyData.depthAll]
  | n :: r => by
    have h := depth_ints r
    unfold dInts at h ⊢
    rw [List.map_cons, PyData.depthAll, h, PyData.depth]
    rfl
theorem shaped_lints (ns : List Int) : SeqAt.shaped (.list (dInts ns)) = true := by
  unfold SeqAt.shaped
  rw [PyData.canLay0, canLay_ints, PyData.depth, depth_ints]
  rfl
theorem shaped_tints (ns : List Int) : SeqAt.shaped (.tuple (dInts ns)) = true := by
  unfold SeqAt.shaped
  rw [PyData.canLay0, canLay_ints, PyData.depth, depth_ints]
  rfl
theorem eqv_lints (ns ms : List Int) : PyData.eqv (.list (dInts ns)) (.list (dInts ms)) = decide (ns = ms) := by
  rw [PyData.eqv]
  exact eqv_ints ns ms
theorem eqv_tints (ns ms : List Int) : PyData.eqv (.tuple (dInts ns)) (.tuple (dInts ms)) = decide (ns = ms) := by
  rw [PyData.eqv]
  exact eqv_ints ns ms
theorem shaped_of {d : PyData} (h1 : d.canLay0 = true) (h2 : d.depth ≤ 64) : SeqAt.shaped d = true := by
  unfold SeqAt.shaped
  rw [h1, decide_eq_true h2]
  rfl
theorem canLay_lints (ns : List Int) : PyData.canLay0 (.list (dInts ns)) = true := by
  rw [PyData.canLay0, canLay_ints]
theorem depth_lints (ns : List Int) : PyData.depth (.list (dInts ns)) = 1 := by
  rw [PyData.depth, depth_ints]
/-- lists of lists of ints as data -/
def dLists (ps : List (List Int)) : List PyData := ps.map fun p => .list (dInts p)
theorem canLay_lists (ps : List (List Int)) : PyData.canLayAll0 (dLists ps) = true := canLayAll_map ps fun p _ => canLay_lints p
theorem depth_lists (ps : List (List Int)) : PyData.depthAll (dLists ps) ≤ 1 := depthAll_map ps fun p _ => Nat.le_of_eq (depth_lints p)
theorem dp_list {K : PySem.W.Frag} {H : Hp} : ∀ (L : List (Addr × List Int)), (∀ e ∈ L, H e.1 = some (.lst (e.2.map V.int))) → DpAll K H (L.map fun e => V.ref e.1) (dLists (L.map (·.2)))
  | [], _ => .nil
  | e :: r, h => .cons (.lst (sq_of (h e List.mem_cons_self)) (dp_ints _)) (dp_list r fun x hx => h x (List.mem_cons_of_mem _ hx))
theorem dp_LL {K : PySem.W.Frag} {H : Hp} {a : Addr} {L : List (Addr × List Int)} (h : LL H a L) : Dp K H (.ref a) (.list (dLists (L.map (·.2)))) := .lst (sq_of h.1) (dp_list L h.2)
mutual
theorem dp_same {K : PySem.W.Frag} {H H' : Hp} (e : Same H H') : ∀ (d : PyData) (v : V), Dp K H v d → Dp K H' v d
  | .none, _, h => by cases h; exact .non
  | .bool b, _, h => by cases h; exact .bl b
  | .int i, _, h => by cases h; exact .int i
  | .str x, _, h => by cases h; exact .str x
  | .list ds, _, h => by
    cases h with
    | lst hs ha => exact .lst (sq_same hs e) (dpAll_same e ds _ ha)
  | .tuple ds, _, h => by
    cases h with
    | tup hs ha => exact .tup (st_same hs e) (dpAll_same e ds _ ha)
  | .dict _, _, h => by cases h
theorem dpAll_same {K : PySem.W.Frag} {H H' : Hp} (e : Same H H') : ∀ (ds : List PyData) (vs : List V), DpAll K H vs ds → DpAll K H' vs ds
  | [], _, h => by cases h; exact .nil
  | d :: ds, _, h => by
    cases h with
    | cons h1 h2 => exact .cons (dp_same e d _ h1) (dpAll_same e ds _ h2)
end
/-- equal data -/
theorem x_neSame {K : PySem.W.Frag} {H : Hp} {Q : VK} {x y : V} {d : PyData} (h : Dp K H x d) (h' : Dp K H y d) (c : d.canLay0 = true) (n : d.depth ≤ 64) (q : Q (.bl false) H) : rNeD K x y H Q :=
  ⟨d, d, h, h', shaped_of c n, shaped_of c n, by rw [SeqAt.eqv_refl d c]; exact q⟩
theorem x_eqSame {K : PySem.W.Frag} {H : Hp} {Q : VK} {x y : V} {d : PyData} (h : Dp K H x d) (h' : Dp K H y d) (c : d.canLay0 = true) (n : d.depth ≤ 64) (q : Q (.bl true) H) : rEqD K x y H Q :=
  ⟨d, d, h, h', shaped_of c n, shaped_of c n, by rw [SeqAt.eqv_refl d c]; exact q⟩
section
variable {K : PySem.W.Frag} {H : Hp} {Q : VK} {a c : Addr} {ns ms : List Int}
theorem x_neInts (h : SqL K H a (ns.map V.int)) (h' : SqL K H c (ms.map V.int)) (q : Q (.bl (!decide (ns = ms))) H) : rNeD K (.ref a) (.ref c) H Q :=
  ⟨.list (dInts ns), .list (dInts ms), .lst h (dp_ints ns), .lst h' (dp_ints ms), shaped_lints ns, shaped_lints ms, by rw [eqv_lints]; exact q⟩
theorem x_eqInts (h : SqL K H a (ns.map V.int)) (h' : SqL K H c (ms.map V.int)) (q : Q (.bl (decide (ns = ms))) H) : rEqD K (.ref a) (.ref c) H Q :=
  ⟨.list (dInts ns), .list (dInts ms), .lst h (dp_ints ns), .lst h' (dp_ints ms), shaped_lints ns, shaped_lints ms, by rw [eqv_lints]; exact q⟩
theorem x_neTInts (h : SqT K H a (ns.map V.int)) (h' : SqT K H c (ms.map V.int)) (q : Q (.bl (!decide (ns = ms))) H) : rNeD K (.ref a) (.ref c) H Q :=
  ⟨.tuple (dInts ns), .tuple (dInts ms), .tup h (dp_ints ns), .tup h' (dp_ints ms), shaped_tints ns, shaped_tints ms, by rw [eqv_tints]; exact q⟩
theorem x_eqTInts (h : SqT K H a (ns.map V.int)) (h' : SqT K H c (ms.map V.int)) (q : Q (.bl (decide (ns = ms))) H) : rEqD K (.ref a) (.ref c) H Q :=
  ⟨.tuple (dInts ns), .tuple (dInts ms), .tup h (dp_ints ns), .tup h' (dp_ints ms), shaped_tints ns, shaped_tints ms, by rw [eqv_tints]; exact q⟩
end
end Xk
/-! ## slices stored and deleted, properties, own objects -/
namespace Xk
open PySem PySem.Spec PyProof.Rows L2
section
variable {X : Cx} {o : Expr} {lo hi : Option Expr} {to : TE} {tl th : TO} {pos p2 tpos : Pos}
/-- o[lo:hi] = another list -/
def gSubSl (to : TE) (tl th : TO) : TG := fun v σ H R => to σ H fun x H1 => tl σ H1 fun l H2 => th σ H2 fun u H3 => ∃ (a b : Addr) (xs ys : List V) (i j : Int), x = .ref a ∧ v = .ref b ∧ l = some i ∧ u = some j ∧
  H3 a = some (.lst xs) ∧ H3 b = some (.lst ys) ∧ a ≠ b ∧ 0 ≤ i ∧ i ≤ j ∧ j ≤ xs.length ∧ xs.length + ys.length ≤ sizeLine ∧ R σ (upd H3 a (.lst (xs.take i.toNat ++ ys ++ xs.drop j.toNat)))
theorem pg_subSl (ho : PE X o to) (hl : PO X lo tl) (hu : PO X hi th)
    (ha : ∀ v, assign (.Subscript o (.Slice lo hi none p2) pos) X.env v = (do
      let ov ← holding [v] (eval o X.env)
      let iv ← holding [v, ov] (eval (.Slice lo hi none p2) X.env)
      standAt pos
      holding [v, ov, iv] (setItem ov iv v)
      release [iv, v, ov] []) := by intro _; rfl) : PG X (.Subscript o (.Slice lo hi none p2) pos) (gSubSl to tl th) := by
  refine ⟨fun pins s σ H v u Q I r h => ?_⟩
  rw [ha]
  refine wpAny_bind (wpAny_holding (thn (ho.run pins s σ H _ I h) fun ov s1 ⟨x, H1, I1, r1, q1⟩ => ?_))
  refine wpAny_bind (wpAny_holding ?_)
  refine wpAny_Slice (thn (hl.run pins s1 σ H1 _ I1 q1) fun vl s2 ⟨l, H2, I2, pl, q2⟩ => thn (hu.run pins s2 σ H2 _ I2 q2) fun vu s3 ⟨w, H3, I3, pu, q3⟩ => ?_)
  rw [evalPart_none]
  refine wpAny_pure ?_
  have I4 : Inv X pins σ H3 { s3 with heap := s3.heap.push { cls := .type "slice", data := .fields #[vl, vu, .none] } } := I3.kept (t' := s3.toks) fun b ob q => Heap.get?_push_of_some _ q
  obtain ⟨a, b, xs, ys, i, j, rfl, rfl, rfl, rfl, hA, hB, hne, h0, hij, hj, hz, q⟩ := q3
  cases r1
  cases r
  cases pl with
  | int _ ti =>
  cases pu with
  | int _ tj =>
  refine wpAny_bind (wpAny_standAt (wpAny_bind (wpAny_holding ?_)))
  exact set_slice I4 hA hB hne (Heap.IsSliceOf.new ..) ⟨_, rfl⟩ ⟨_, rfl⟩ h0 hij hj hz fun s' I5 => wpAny_release ⟨σ, _, I5, q⟩

theorem sel_take (f : Nat → Bool) (i n : Nat) (h : ∀ k : Nat, f k = (decide ((i : Int) ≤ (k : Int)) && decide ((k : Int) < (n : Int)) && (((k : Int) - (i : Int)) % 1 == 0))) :
    ∀ (xs : List Value) (m : Nat), m + xs.length ≤ n → (xs.zipIdx m).filterMap (fun (x, k) => if f k then none else some x) = xs.take (i - m)
  | [], m, hm => by simp
  | x :: r, m, hm => by
    rw [List.length_cons] at hm
    have ih := sel_take f i n h r (m + 1) (by omega)
    rw [List.zipIdx_cons, List.filterMap_cons]
    have hf : f m = decide (i ≤ m) := by
      rw [h m]
      by_cases h1 : i ≤ m
      · have h2 : (i : Int) ≤ (m : Int) := by omega
        have h3 : (m : Int) < (n : Int) := by omega
        have h4 : ((m : Int) - (i : Int)) % 1 = 0 := by omega
        rw [h4, decide_eq_true h1, decide_eq_true h2, decide_eq_true h3]
        rfl
      · have h2 : ¬ (i : Int) ≤ (m : Int) := by omega
        rw [decide_eq_false h1, decide_eq_false h2]
        rfl
    by_cases h1 : i ≤ m
    · have e : f m = true := by rw [hf, decide_eq_true h1]
      simp only [e, if_true]
      rw [ih, show i - (m + 1) = 0 by omega, show i - m = 0 by omega]
      rfl
    · have e : f m = false := by rw [hf, decide_eq_false h1]
      simp only [e]
      show x :: _ = _
      rw [ih, show i - m = (i - (m + 1)) + 1 by omega]
      rfl
theorem bounds_from {i n : Nat} (hi : i ≤ n) : sliceBounds (some (i : Int)) none none n = ((i : Int), (n : Int), 1) := by
  simp only [sliceBounds, Option.getD_none]
  have h1 : ¬ ((i : Int) < 0) := by omega
  simp only [h1, if_false, show (1 : Int) > 0 by decide, if_true]
  congr 1
  omega
section
variable {prog : Program} {w : World} {A : Around} {E : Value → Shared → Prop} {s : Shared}
open PySem.P PySem.F in
theorem delItem_tail {l sl : Addr} {items : Array Value} {n : Nat} {vl : Value} {i : Nat} {Q : Unit → Shared → Prop}
    (e : s.heap.get? l = some { cls := .type "list", data := .seq items n }) (hs : s.heap.IsSliceOf sl vl .none .none) (pl : IsPart vl (some (i : Int))) (hi : i ≤ items.size) (hsz : items.size ≤ sizeLine)
    (h : ∀ f : Array Value → Array Value, f items = (items.toList.take i).toArray → Q () { s with heap := s.heap.update l (Obj.mapSeq f) }) :
    wpAny (model prog w) A (delItem (.ref l) (.ref sl)) Q E s := by
  have hl : s.heap.IsList l items := PySem.IsL.isList e
  obtain ⟨os, hos, hcs, hds⟩ := id hs
  have hTs : s.TypeIs (.ref sl) "slice" := ⟨os, hos, hcs⟩
  have hstep : ¬ ((rawPart none == rawInt 0) = true) := Bool.false_ne_true
  unfold delItem
  refine wpAny_holding ?_
  refine wpAny_bind (wpAny_sequenceKey hl.typeIs (by decide) ?_)
  refine wpAny_bind (wpAny_callSpecial?_slot (name := Str.ofString "__delitem__") hl.typeIs PySem.F.slot_list_delitem
    (wpAny_call_entry PySem.F.slot_list_delitem hl.typeIs PySem.F.entry_list_delitem ?_ (PySem.F.args_list_delitem_2 _ _)))
  show wpAny _ _ (Builtin.List.listSubscript? (.ref sl) >>= _) _ _ s
  refine wpAny_bind ?_
  unfold Builtin.List.listSubscript?
  refine wpAny_bind (wpAny_specialOf hTs slice_no_index ?_)
  simp only [Option.isNone_none, if_true]
  refine wpAny_pure ?_
  show wpAny _ _ (typeOf (.ref sl) >>= _) _ _ s
  refine wpAny_bind (wpAny_typeOf hTs ?_)
  first
    | rw [if_neg (by decide)]
    | refine PySem.W.KFB.if_not (by decide) ?_
  rw [listSliceParts_eq]
  refine wpAny_bind (wpAny_bind (wpAny_field hos hds (x := .none) rfl (wpAny_bind (wpAny_listPart .none ?_))))
  rw [if_neg hstep]
  refine wpAny_bind (wpAny_field hos hds (x := vl) rfl (wpAny_bind (wpAny_listPart pl ?_)))
  refine wpAny_bind (wpAny_field hos hds (x := .none) rfl (wpAny_bind (wpAny_listPart .none (wpAny_pure ?_))))
  refine wpAny_bind (m := Builtin.List.listItems (.ref l)) ?_
  unfold Builtin.List.listItems
  refine wpAny_bind (wpAny_seqItems e rfl (wpAny_pure ?_))
  refine wpAny_bind (wpAny_of_eq ((sliceIndices_raw (some (i : Int)) none none items.size (by simp)).trans (congrArg (pure : Int × Int × Int → Sem (Int × Int × Int)) (bounds_from hi))) ?_)
  refine wpAny_bind (wpAny_rule ?_)
  show wpAny _ _ (updateSeq l _ >>= _) _ _ s
  have hf := sel_take _ i items.size (fun k => rfl) items.toList 0 (by simp)
  refine wpAny_bind (wpAny_updateSeq (hz := hsz) (_hz' := ?_) e rfl ?_)
  refine wpAny_bind (wpAny_letGo ?_)
  · exact wpAny_pure ⟨.none, rfl, wpAny_pure (h _ (congrArg List.toArray hf))⟩
  · refine Nat.le_trans (Nat.le_of_eq (congrArg Array.size (congrArg List.toArray hf))) ?_
    rw [List.size_toArray, List.length_take, Array.length_toList]
    omega
end
variable {pins : List (Addr × Obj)}
theorem del_tail {s : Shared} {σ : L2.St} {H : Hp} {l sl : Addr} {xs : List V} {i : Nat} {vl : Value} {Q : Unit → Shared → Prop} (I : Inv X pins σ H s) (hH : H l = some (.lst xs))
    (hs : s.heap.IsSliceOf sl vl .none .none) (pl : IsPart vl (some (i : Int))) (hi : i ≤ xs.length) (h : ∀ s', Inv X pins σ (upd H l (.lst (xs.take i))) s' → Q () s') :
    wpAny (model X.prog X.w) X.A (delItem (.ref l) (.ref sl)) Q X.xe s := by
  obtain ⟨z, its, n, r, hl, e⟩ := I.lstM hH
  refine delItem_tail e hs pl (by rw [List.size_toArray]; omega) (by rw [List.size_toArray]; omega) fun f hf => h _ ?_
  refine I.lset (its' := its.take i) (t' := s.toks) hH e ?_ (r.take i) ?_
  · rw [hf]
  · rw [List.length_take]
    omega
/-- del o[i:] -/
def tDelT (to : TE) (tl : TO) : TS := fun D σ H => to σ H fun x H1 => tl σ H1 fun u H2 => ∃ (l : Addr) (xs : List V) (i : Nat), x = .ref l ∧ u = some (i : Int) ∧ H2 l = some (.lst xs) ∧ i ≤ xs.length ∧ D.nx σ (upd H2 l (.lst (xs.take i)))
theorem ps_delT (ho : PE X o to) (hl : PO X lo tl) : PS X (.Delete [.Subscript o (.Slice lo none none p2) tpos] pos) (tDelT to tl) := by
  refine ⟨fun pins s σ H D I h => ?_⟩
  refine wpAny_Delete (wpAny_deleteEach_cons (wpAny_delete_Subscript (thn (ho.run pins s σ H _ I h) fun u s1 ⟨x, H1, I1, rx, q1⟩ => ?_)))
  refine wpAny_Slice (thn (hl.run pins s1 σ H1 _ I1 q1) fun vl s2 ⟨w, H2, I2, pl, q2⟩ => ?_)
  rw [evalPart_none]
  refine wpAny_pure (wpAny_pure ?_)
  have I4 : Inv X pins σ H2 { s2 with heap := s2.heap.push { cls := .type "slice", data := .fields #[vl, .none, .none] } } := I2.kept (t' := s2.toks) fun b ob q => Heap.get?_push_of_some _ q
  obtain ⟨l, xs, i, rfl, rfl, hA, hi, q⟩ := q2
  cases rx
  exact del_tail I4 hA (Heap.IsSliceOf.new ..) pl hi fun s3 I3 => wpAny_deleteEach_nil ⟨σ, _, I3, q⟩
end
section
variable {K : PySem.W.Frag} {σ σ2 : L2.St} {H H1 H2 : Hp} {Q : VK} {ta tv te te1 : TE} {D : Ends} {tz : TS} {g g1 : TG} {t tt1 : TT} {x v : V}
theorem k_pil {X : Cx} {tg l : Expr} {tl : TE} (e : X.K = K) (h : PE X l tl) : PI X tg l (iList K tl) := e ▸ pi_list h
/-- the inner for of a comprehension -/
def RIn (J : It) (g1 : TG) (tt1 : TT) (te : TE) (vs1 : List Nat) (σ2 : L2.St) (Dl : Addr) (N : Hp → Prop) : Hp → Prop := fun H4 => ∃ W1 : Nat → Nat → Hp → Prop, (∃ m, W1 0 m H4) ∧ ∀ j k H, W1 j k H →
  (J.stop j H ∧ N H) ∨ (J.go j H ∧ ∃ Nx1 : Hp → Prop, (∀ H', Nx1 H' → ∃ k', k' < k ∧ W1 (j + 1) k' H') ∧ ∀ x H', J.yld j H x H' → g1 x (wipe σ2 vs1) H' fun σ3 H5 => wipe σ3 vs1 = wipe σ2 vs1 ∧ tt1 σ3 H5 fun b H6 =>
    if b = true then te σ3 H6 fun y H7 => ∃ acc, H7 Dl = some (.lst acc) ∧ acc.length < sizeLine ∧ Nx1 (upd H7 Dl (.lst (acc ++ [y]))) else Nx1 H6)
def rInL (K : PySem.W.Frag) (g1 : TG) (tt1 : TT) (te : TE) (vs1 : List Nat) (σ2 : L2.St) (Dl : Addr) (N : Hp → Prop) : VK := fun x H4 => ∃ a, x = .ref a ∧ (∃ xs, SqL K H4 a xs) ∧ RIn (Itl K a) g1 tt1 te vs1 σ2 Dl N H4
theorem x_infL {a Dl : Addr} {xs : List V} {vs1 : List Nat} {N : Hp → Prop} (Pv : Nat → Hp → Prop) (hx : SqL K H a xs) (p0 : Pv 0 H) (hl : ∀ i H', Pv i H' → SqL K H' a xs)
    (hs : ∀ i x H', xs[i]? = some x → Pv i H' → g1 x (wipe σ2 vs1) H' fun σ3 H5 => wipe σ3 vs1 = wipe σ2 vs1 ∧ tt1 σ3 H5 fun b H6 => if b = true then te σ3 H6 (fun y H7 => ∃ acc, H7 Dl = some (.lst acc) ∧ acc.length < sizeLine ∧ Pv (i + 1) (upd H7 Dl (.lst (acc ++ [y])))) else Pv (i + 1) H6)
    (hd : ∀ H', Pv xs.length H' → N H') : rInL K g1 tt1 te vs1 σ2 Dl N (.ref a) H := by
  refine ⟨a, rfl, ⟨xs, hx⟩, fun i m H => m = xs.length - i ∧ i ≤ xs.length ∧ Pv i H, ⟨xs.length, by simp, Nat.zero_le _, p0⟩, ?_⟩
  rintro i m H' ⟨rfl, hi, p⟩
  have q := hl i H' p
  by_cases hlt : i < xs.length
  · refine .inr ⟨⟨xs, xs[i], q, by simp [hlt]⟩, Pv (i + 1), fun H' p' => ⟨xs.length - (i + 1), by omega, rfl, hlt, p'⟩, fun x H2 y => ?_⟩
    obtain ⟨e, y⟩ := y
    subst e
    exact hs i x _ (y xs q) p
  · have e : i = xs.length := by omega
    subst e
    exact .inl ⟨⟨xs, q, Nat.le_refl _⟩, hd H' p⟩
/-- the outer for -/
def rLc2L (K : PySem.W.Frag) (g : TG) (te1 : TE) (g1 : TG) (tt1 : TT) (te : TE) (vs vs1 : List Nat) (σ : L2.St) (Q : VK) : VK := fun x H1 => ∃ a, x = .ref a ∧ (∃ xs, SqL K H1 a xs) ∧ ∀ D, H1 D = none → ∃ W : Nat → Nat → Hp → Prop, (∃ m, W 0 m (upd H1 D (.lst []))) ∧ ∀ i m H, W i m H →
  ((Itl K a).stop i H ∧ Q (.ref D) H) ∨ ((Itl K a).go i H ∧ ∃ Nx : Hp → Prop, (∀ H', Nx H' → ∃ m', m' < m ∧ W (i + 1) m' H') ∧ ∀ x H', (Itl K a).yld i H x H' → g x (wipe σ vs) H' fun σ2 H2 => wipe σ2 vs = wipe σ vs ∧
    te1 σ2 H2 (rInL K g1 tt1 te vs1 σ2 D Nx))
theorem x_lc2 {tx : TE} {vs vs1 : List Nat} (q : tx σ H (rLc2L K g te1 g1 tt1 te vs vs1 σ Q)) : tLc2 (iList K tx) g tYes (iList K te1) g1 tt1 te vs vs1 σ H Q := q
theorem x_lc2L {a : Addr} {xs : List V} {vs vs1 : List Nat} (Pv : Addr → Nat → Hp → Prop) (hx : SqL K H a xs) (h0 : ∀ Dl, Fr Dl H → Pv Dl 0 (upd H Dl (.lst []))) (hl : ∀ Dl i H', Fr Dl H → Pv Dl i H' → SqL K H' a xs)
    (hs : ∀ Dl, Fr Dl H → ∀ i x H', xs[i]? = some x → Pv Dl i H' → g x (wipe σ vs) H' fun σ2 H2 => wipe σ2 vs = wipe σ vs ∧ te1 σ2 H2 (rInL K g1 tt1 te vs1 σ2 Dl (Pv Dl (i + 1))))
    (hd : ∀ Dl H', Fr Dl H → Pv Dl xs.length H' → Q (.ref Dl) H') : rLc2L K g te1 g1 tt1 te vs vs1 σ Q (.ref a) H := by
  refine ⟨a, rfl, ⟨xs, hx⟩, fun Dl hD => ⟨fun i m H => m = xs.length - i ∧ i ≤ xs.length ∧ Pv Dl i H, ⟨xs.length, by simp, Nat.zero_le _, h0 Dl ⟨hD⟩⟩, ?_⟩⟩
  rintro i m H' ⟨rfl, hi, p⟩
  have q := hl Dl i H' ⟨hD⟩ p
  by_cases hlt : i < xs.length
  · refine .inr ⟨⟨xs, xs[i], q, by simp [hlt]⟩, Pv Dl (i + 1), fun H' p' => ⟨xs.length - (i + 1), by omega, rfl, hlt, p'⟩, fun x H2 y => ?_⟩
    obtain ⟨e, y⟩ := y
    subst e
    exact hs Dl ⟨hD⟩ i x _ (y xs q) p
  · have e : i = xs.length := by omega
    subst e
    exact .inl ⟨⟨xs, q, Nat.le_refl _⟩, hd Dl H' ⟨hD⟩ p⟩
/-- attributes -/
theorem x_fld {a C dx : Addr} {fs : List (Str × V)} {f : Str} (h : H a = some (.ins C dx fs)) (c : Cls K C) (n : NoAttr K C f) (l : fs.lookup f = some v) (q : Q v H) : (∃ a' C dx fs v, V.ref a = .ref a' ∧ H a' = some (.ins C dx fs) ∧ Cls K C ∧ NoAttr K C f ∧ fs.lookup f = some v ∧ Q v H) :=
  ⟨a, C, dx, fs, v, rfl, h, c, n, l, q⟩
/-- what is read from an instance -/
def rFld (K : PySem.W.Frag) (f : Str) (Q : VK) : VK := fun x H1 => ∃ a C dx fs v, x = .ref a ∧ H1 a = some (.ins C dx fs) ∧ Cls K C ∧ NoAttr K C f ∧ fs.lookup f = some v ∧ Q v H1
theorem x_fld1 {f : Str} (q : ta σ H (rFld K f Q)) : tFld K ta f σ H Q := q
theorem x_rFld {a C dx : Addr} {fs : List (Str × V)} {f : Str} (h : H a = some (.ins C dx fs)) (c : Cls K C) (n : NoAttr K C f) (l : fs.lookup f = some v) (q : Q v H) : rFld K f Q (.ref a) H := ⟨a, C, dx, fs, v, rfl, h, c, n, l, q⟩
def rSetF (K : PySem.W.Frag) (f : Str) (y : V) (R : Hp → Prop) : VK := fun x H2 => ∃ a C dx fs, x = .ref a ∧ H2 a = some (.ins C dx fs) ∧ Cls K C ∧ NoAttr K C f ∧ fs.length < 1000 ∧ R (upd H2 a (.ins C dx (putF f y fs)))
theorem x_sfld {f : Str} (q : tv σ H fun y H1 => ta σ H1 (rSetF K f y (D.nx σ))) : sFld K ta tv f D σ H := q
theorem x_ssfld {f : Str} (q : tv σ H fun y H1 => ta σ H1 (rSetF K f y fun H2 => tz D σ H2)) : tSeq (sFld K ta tv f) tz D σ H := q
theorem x_rSetF {a C dx : Addr} {fs : List (Str × V)} {f : Str} {R : Hp → Prop} (h : H a = some (.ins C dx fs)) (c : Cls K C) (n : NoAttr K C f) (l : fs.length < 1000) (q : R (upd H a (.ins C dx (putF f x fs)))) : rSetF K f x R (.ref a) H := ⟨a, C, dx, fs, rfl, h, c, n, l, q⟩
def rProp (C : Addr) (sp : Sp) (dvs : List V) (E : XK) (Q : VK) : VK := fun x H1 => ∃ a dx fs, x = .ref a ∧ H1 a = some (.ins C dx fs) ∧ sp (.ref a :: dvs) H1 Q E
theorem x_prop {C : Addr} {sp : Sp} {dvs : List V} {E : XK} (q : ta σ H (rProp C sp dvs E Q)) : tProp C sp dvs E ta σ H Q := q
theorem x_rProp {a C dx : Addr} {fs : List (Str × V)} {sp : Sp} {dvs : List V} {E : XK} (h : H a = some (.ins C dx fs)) (q : sp (.ref a :: dvs) H Q E) : rProp C sp dvs E Q (.ref a) H := ⟨a, dx, fs, rfl, h, q⟩
def rMeth (C : Addr) (m : Str) (tr : TA) (sp : Sp) (dvs : List V) (E : XK) (σ : L2.St) (Q : VK) : VK := fun x H1 => ∃ a dx fs, x = .ref a ∧ H1 a = some (.ins C dx fs) ∧ fs.lookup m = none ∧ tr σ H1 fun vs H2 => sp (x :: (vs ++ dvs)) H2 Q E
theorem x_meth {C : Addr} {m : Str} {tr : TA} {sp : Sp} {dvs : List V} {E : XK} (q : ta σ H (rMeth C m tr sp dvs E σ Q)) : tMeth C m sp dvs E ta tr σ H Q := q
theorem x_rMeth {a C dx : Addr} {fs : List (Str × V)} {m : Str} {tr : TA} {sp : Sp} {dvs : List V} {E : XK} (h : H a = some (.ins C dx fs)) (l : fs.lookup m = none) (q : tr σ H fun vs H2 => sp (.ref a :: (vs ++ dvs)) H2 Q E) : rMeth C m tr sp dvs E σ Q (.ref a) H := ⟨a, dx, fs, rfl, h, l, q⟩
def rMake (C : Addr) (sp : Sp) (dvs : List V) (E : XK) (Q : VK) : List V → Hp → Prop := fun vs H1 => ∀ x dx, H1 x = none → H1 dx = none → dx ≠ x → sp (.ref x :: (vs ++ dvs)) (upd (upd H1 dx (.own x)) x (.ins C dx [])) (fun v H2 => v = .non ∧ Q (.ref x) H2) E
theorem x_make {C : Addr} {tr : TA} {sp : Sp} {dvs : List V} {E : XK} (q : tr σ H (rMake C sp dvs E Q)) : tMake C sp dvs E tr σ H Q := q
theorem x_rMake {C : Addr} {sp : Sp} {dvs vs : List V} {E : XK} (k : ∀ x dx H2, Fr x H → Fr dx H → dx ≠ x → Same H H2 → H2 dx = some (.own x) → H2 x = some (.ins C dx []) → sp (.ref x :: (vs ++ dvs)) H2 (fun v H3 => v = .non ∧ Q (.ref x) H3) E) : rMake C sp dvs E Q vs H :=
  fun x dx hx hd hn => k x dx _ ⟨hx⟩ ⟨hd⟩ hn (same_mut (same_fr ⟨hd⟩) ⟨hx⟩) ((upd_ne hn).trans upd_same) upd_same
/-- slices stored and deleted -/
def rDelT (R : Hp → Prop) (l : Addr) (xs : List V) (i : Nat) (u : Option Int) (H2 : Hp) : Prop := u = some (i : Int) ∧ H2 l = some (.lst xs) ∧ i ≤ xs.length ∧ R (upd H2 l (.lst (xs.take i)))
theorem x_delT {to : TE} {tl : TO} (q : to σ H fun x H1 => tl σ H1 fun u H2 => ∃ l xs i, x = .ref l ∧ rDelT (D.nx σ) l xs i u H2) : tDelT to tl D σ H := q
theorem x_sdelT {to : TE} {tl : TO} (q : to σ H fun x H1 => tl σ H1 fun u H2 => ∃ l xs i, x = .ref l ∧ rDelT (fun H3 => tz D σ H3) l xs i u H2) : tSeq (tDelT to tl) tz D σ H := q
theorem x_rDelT {l : Addr} {xs : List V} {i : Nat} {k : Int} {R : Hp → Prop} (e : k = (i : Int)) (h : H l = some (.lst xs)) (hi : i ≤ xs.length) (q : R (upd H l (.lst (xs.take i)))) : ∃ l' xs i', V.ref l = .ref l' ∧ rDelT R l' xs i' (some k) H := ⟨l, xs, i, rfl, by rw [e], h, hi, q⟩
end
end Xk
/-! ## pairs in order, defs with defaults -/
namespace Xk
open PySem PySem.Spec PyProof.Rows L2
/-- the pair (p, q) stands below (r, s) -/
def Bf (p q r s : Int) : Prop := p < r ∨ (p = r ∧ q < s)
instance {p q r s : Int} : Decidable (Bf p q r s) := by unfold Bf; infer_instance
section
variable {X : Cx} {K : PySem.W.Frag} {H : Hp} {Q : VK} {a b : Addr} {p q r s : Int}
theorem pair_in {pins : List (Addr × Obj)} {σ : L2.St} {z : Shared} (I : Inv X pins σ H z) (h : SqT X.K H a [.int p, .int q]) : ∃ t u, z.heap.IsTuple a #[.int p t, .int q u] := by
  obtain ⟨vs, rv, it, _⟩ := I.tuple h
  cases rv with
  | cons x y =>
    cases y with
    | cons y w =>
      cases w
      obtain ⟨t, rfl⟩ := x
      obtain ⟨u, rfl⟩ := y
      exact ⟨t, u, it⟩
theorem eq_ints {A : Around} {z : Shared} (i j : Int) (t u : Tok) : SeqAt.EqAt A z (.int i t) (.int j u) (decide (i = j)) := by
  have h : (i == j) = decide (i = j) := by
    by_cases e : i = j
    · subst e
      simp
    · simp [e]
  rw [← h]
  exact SeqAt.EqAt.int_int _ _ _ _
def rGeP (K : PySem.W.Frag) : R2 := fun x y H Q => ∃ a b p q r s, x = .ref a ∧ y = .ref b ∧ SqT K H a [.int p, .int q] ∧ SqT K H b [.int r, .int s] ∧ Q (.bl (!decide (Bf p q r s))) H
def rLtP (K : PySem.W.Frag) : R2 := fun x y H Q => ∃ a b p q r s, x = .ref a ∧ y = .ref b ∧ SqT K H a [.int p, .int q] ∧ SqT K H b [.int r, .int s] ∧ Q (.bl (decide (Bf p q r s))) H
theorem op_geP (hu : X.A.units < cLine) : OpR X (compareOp .GtE) (rGeP X.K) := by
  intro pins σ0 σ H x y v u Q I rx ry h
  obtain ⟨a, b, p, q, r, s, rfl, rfl, ha, hb, k⟩ := h
  cases rx
  cases ry
  obtain ⟨t1, t2, ia⟩ := pair_in I ha
  obtain ⟨t3, t4, ib⟩ := pair_in I hb
  have R := Ob.RcOp.tuples_ge (e := fun j => if j = 0 then decide (p = r) else decide (q = s)) (r := fun j => if j = 0 then decide (r ≤ p) else decide (s ≤ q)) ia ib hu
    (fun j h1 h2 => match j, h1, h2 with | 0, _, _ => eq_ints _ _ _ _ | 1, _, _ => eq_ints _ _ _ _ | j + 2, z, _ => absurd (show j + 2 < 2 from z) (by omega))
    (fun j h1 h2 _ => match j, h1, h2 with | 0, _, _ => Ob.RcOp.ge_int _ _ _ _ | 1, _, _ => Ob.RcOp.ge_int _ _ _ _ | j + 2, z, _ => absurd (show j + 2 < 2 from z) (by omega))
  refine R X.prog X.w X.xe _ ?_
  have e : Ob.lexAt (fun j => if j = 0 then decide (p = r) else decide (q = s)) (fun j => if j = 0 then decide (r ≤ p) else decide (s ≤ q)) (decide (2 ≥ 2)) 0 2 = !decide (Bf p q r s) := by
    simp only [Ob.lexAt_succ, Ob.lexAt_zero, Bf]
    by_cases h1 : p = r
    · by_cases h2 : q = s
      · simp [h1, h2]
      · by_cases h3 : s ≤ q
        · have h4 : ¬ q < s := by omega
          simp [h1, h2, h3, h4]
        · have h4 : q < s := by omega
          simp [h1, h2, h3, h4]
    · by_cases h3 : r ≤ p
      · have h4 : ¬ p < r := by omega
        simp [h1, h3, h4]
      · have h4 : p < r := by omega
        simp [h1, h3, h4]
  exact ⟨.bl _, H, I, rfl, (congrArg (fun z => Q (.bl z) H) e).mpr k⟩
theorem op_ltP (hu : X.A.units < cLine) : OpR X (compareOp .Lt) (rLtP X.K) := by
  intro pins σ0 σ H x y v u Q I rx ry h
  obtain ⟨a, b, p, q, r, s, rfl, rfl, ha, hb, k⟩ := h
  cases rx
  cases ry
  obtain ⟨t1, t2, ia⟩ := pair_in I ha
  obtain ⟨t3, t4, ib⟩ := pair_in I hb
  have R := Ob.RcOp.tuples_lt (e := fun j => if j = 0 then decide (p = r) else decide (q = s)) (r := fun j => if j = 0 then decide (p < r) else decide (q < s)) ia ib hu
    (fun j h1 h2 => match j, h1, h2 with | 0, _, _ => eq_ints _ _ _ _ | 1, _, _ => eq_ints _ _ _ _ | j + 2, z, _ => absurd (show j + 2 < 2 from z) (by omega))
    (fun j h1 h2 _ => match j, h1, h2 with | 0, _, _ => Ob.RcOp.lt_int _ _ _ _ | 1, _, _ => Ob.RcOp.lt_int _ _ _ _ | j + 2, z, _ => absurd (show j + 2 < 2 from z) (by omega))
  refine R X.prog X.w X.xe _ ?_
  have e : Ob.lexAt (fun j => if j = 0 then decide (p = r) else decide (q = s)) (fun j => if j = 0 then decide (p < r) else decide (q < s)) (decide (2 < 2)) 0 2 = decide (Bf p q r s) := by
    simp only [Ob.lexAt_succ, Ob.lexAt_zero, Bf]
    by_cases h1 : p = r
    · by_cases h2 : q = s
      · simp [h1, h2]
      · by_cases h3 : q < s
        · simp [h1, h2, h3]
        · simp [h1, h2, h3]
    · by_cases h3 : p < r
      · simp [h1, h3]
      · simp [h1, h3]
  exact ⟨.bl _, H, I, rfl, (congrArg (fun z => Q (.bl z) H) e).mpr k⟩
theorem k_geP (hu : X.A.units + 64 < cLine) (e : X.K = K) : OpR X (compareOp .GtE) (rGeP K) := e ▸ op_geP (by omega)
theorem k_ltP (hu : X.A.units + 64 < cLine) (e : X.K = K) : OpR X (compareOp .Lt) (rLtP K) := e ▸ op_ltP (by omega)
theorem x_geP (h : SqT K H a [.int p, .int q]) (h' : SqT K H b [.int r, .int s]) (k : Q (.bl (!decide (Bf p q r s))) H) : rGeP K (.ref a) (.ref b) H Q := ⟨a, b, p, q, r, s, rfl, rfl, h, h', k⟩
theorem x_ltP (h : SqT K H a [.int p, .int q]) (h' : SqT K H b [.int r, .int s]) (k : Q (.bl (decide (Bf p q r s))) H) : rLtP K (.ref a) (.ref b) H Q := ⟨a, b, p, q, r, s, rfl, rfl, h, h', k⟩
def nMax2 : List V → Hp → VK → Prop := fun xs H Q => ∃ i j : Int, xs = [.int i, .int j] ∧ Q (.int (max i j)) H
def nMin2 : List V → Hp → VK → Prop := fun xs H Q => ∃ i j : Int, xs = [.int i, .int j] ∧ Q (.int (min i j)) H
theorem call_nMax2 (hc : X.calm = true) : CallR X (.builtin "max") nMax2 := by
  intro pins s σ H xs us Q I r h
  obtain ⟨i, j, e, q⟩ := h
  refine call_max2 hc pins s σ H xs us Q I r ⟨i, j, e, ?_⟩
  have z : (if j > i then j else i) = max i j := by
    by_cases h : i < j
    · rw [if_pos h]
      omega
    · rw [if_neg h]
      omega
  rw [z]
  exact q
theorem call_nMin2 (hc : X.calm = true) : CallR X (.builtin "min") nMin2 := by
  intro pins s σ H xs us Q I r h
  obtain ⟨i, j, e, q⟩ := h
  refine call_min2 hc pins s σ H xs us Q I r ⟨i, j, e, ?_⟩
  have z : (if j < i then j else i) = min i j := by
    by_cases h : j < i
    · rw [if_pos h]
      omega
    · rw [if_neg h]
      omega
  rw [z]
  exact q
theorem x_nMax2 {i j : Int} (k : Q (.int (max i j)) H) : nMax2 [.int i, .int j] H Q := ⟨i, j, rfl, k⟩
theorem x_nMin2 {i j : Int} (k : Q (.int (min i j)) H) : nMin2 [.int i, .int j] H Q := ⟨i, j, rfl, k⟩
/-- lists and tuples stay, though an own object changes -/
structure Sk (K : PySem.W.Frag) (H H' : Hp) : Prop where
  l : ∀ a xs, SqL K H a xs → SqL K H' a xs
  t : ∀ a xs, SqT K H a xs → SqT K H' a xs
theorem sk_same {H' : Hp} (e : Same H H') : Sk K H H' := ⟨fun _ _ h => sq_same h e, fun _ _ h => st_same h e⟩
theorem Sk.refl (H : Hp) : Sk K H H := ⟨fun _ _ h => h, fun _ _ h => h⟩
theorem Sk.trans {H' H'' : Hp} (e : Sk K H H') (e' : Sk K H' H'') : Sk K H H'' := ⟨fun a xs h => e'.l a xs (e.l a xs h), fun a xs h => e'.t a xs (e.t a xs h)⟩
theorem sk_but {H' : Hp} {C dx : Addr} {fs : List (Str × V)} (hi : H a = some (.ins C dx fs)) (e : But a H H') : Sk K H H' := by
  have key : ∀ b o, H b = some o → (∀ C dx fs, o ≠ .ins C dx fs) → H' b = some o := fun b o hb hn => e b o (fun z => by
    subst z
    exact hn _ _ _ (Option.some.inj (hb.symm.trans hi))) hb
  constructor
  · intro b xs h
    rcases h with (h | ⟨o, h⟩) | h
    · exact .inl (.inl (key _ _ h fun _ _ _ z => by cases z))
    · exact .inl (.inr ⟨o, key _ _ h fun _ _ _ z => by cases z⟩)
    · exact .inr h
  · intro b xs h
    rcases h with (h | ⟨o, h⟩) | h
    · exact .inl (.inl (key _ _ h fun _ _ _ z => by cases z))
    · exact .inl (.inr ⟨o, key _ _ h fun _ _ _ z => by cases z⟩)
    · exact .inr h
mutual
theorem dp_sk {H' : Hp} (e : Sk K H H') : ∀ (d : PyData) (v : V), Dp K H v d → Dp K H' v d
  | .none, _, h => by cases h; exact .non
  | .bool b, _, h => by cases h; exact .bl b
  | .int i, _, h => by cases h; exact .int i
  | .str x, _, h => by cases h; exact .str x
  | .list ds, _, h => by
    cases h with
    | lst hs ha => exact .lst (e.l _ _ hs) (dps_sk e ds _ ha)
  | .tuple ds, _, h => by
    cases h with
    | tup hs ha => exact .tup (e.t _ _ hs) (dps_sk e ds _ ha)
  | .dict _, _, h => by cases h
theorem dps_sk {H' : Hp} (e : Sk K H H') : ∀ (ds : List PyData) (vs : List V), DpAll K H vs ds → DpAll K H' vs ds
  | [], _, h => by cases h; exact .nil
  | d :: ds, _, h => by
    cases h with
    | cons h1 h2 => exact .cons (dp_sk e d _ h1) (dps_sk e ds _ h2)
end
/-- tuples stay -/
structure St (K : PySem.W.Frag) (H H' : Hp) : Prop where
  t : ∀ a xs, SqT K H a xs → SqT K H' a xs
theorem Sk.st {H' : Hp} (e : Sk K H H') : St K H H' := ⟨e.t⟩
theorem St.refl (H : Hp) : St K H H := ⟨fun _ _ h => h⟩
theorem St.trans {H' H'' : Hp} (e : St K H H') (e' : St K H' H'') : St K H H'' := ⟨fun a xs h => e'.t a xs (e.t a xs h)⟩
theorem tt_same {H' : Hp} (e : Same H H') : St K H H' := ⟨fun _ _ h => st_same h e⟩
theorem tt_but {H' : Hp} {o : HO} (hi : H a = some o) (h1 : ∀ xs, o ≠ .tup xs) (h2 : ∀ u xs, o ≠ .frz u (.tup xs)) (e : But a H H') : St K H H' := by
  refine ⟨fun b xs h => ?_⟩
  rcases h with (h | ⟨u, h⟩) | h
  · exact .inl (.inl (e b _ (fun z => by subst z; exact h1 xs (Option.some.inj (hi.symm.trans h))) h))
  · exact .inl (.inr ⟨u, e b _ (fun z => by subst z; exact h2 u xs (Option.some.inj (hi.symm.trans h))) h⟩)
  · exact .inr h
theorem tt_butL {H' : Hp} {ys : List V} (hi : H a = some (.lst ys)) (e : But a H H') : St K H H' := tt_but hi (fun _ z => by cases z) (fun _ _ z => by cases z) e
theorem tt_butO {H' : Hp} {C dx : Addr} {fs : List (Str × V)} (hi : H a = some (.ins C dx fs)) (e : But a H H') : St K H H' := tt_but hi (fun _ z => by cases z) (fun _ _ z => by cases z) e
theorem tt_mutL {o : HO} {ys : List V} (hi : H a = some (.lst ys)) : St K H (upd H a o) := tt_butL hi (but_mut (But.refl _ _))
mutual
/-- none, ints, truth values, texts, and tuples of such -/
def tupD : PyData → Bool
  | .none | .bool _ | .int _ => true
  | .str x => PyData.canLay0 (.str x)
  | .tuple xs => tupDs xs
  | .list _ | .dict _ => false
def tupDs : List PyData → Bool
  | [] => true
  | x :: xs => tupD x && tupDs xs
end
mutual
theorem tupD_lay : ∀ (d : PyData), tupD d = true → d.canLay0 = true
  | .none, _ => rfl
  | .bool _, _ => rfl
  | .int _, _ => rfl
  | .str x, h => h
  | .tuple xs, h => tupDs_lay xs h
  | .list _, h => by cases h
  | .dict _, h => by cases h
theorem tupDs_lay : ∀ (ds : List PyData), tupDs ds = true → PyData.canLayAll0 ds = true
  | [], _ => rfl
  | x :: xs, h => by
    have h2 : (tupD x && tupDs xs) = true := h
    rw [Bool.and_eq_true] at h2
    show (x.canLay0 && PyData.canLayAll0 xs) = true
    rw [tupD_lay x h2.1, tupDs_lay xs h2.2]
    rfl
end
mutual
theorem dp_st {H' : Hp} (e : St K H H') : ∀ (d : PyData) (v : V), tupD d = true → Dp K H v d → Dp K H' v d
  | .none, _, _, h => by cases h; exact .non
  | .bool b, _, _, h => by cases h; exact .bl b
  | .int i, _, _, h => by cases h; exact .int i
  | .str x, _, _, h => by cases h; exact .str x
  | .list ds, _, c, _ => by cases c
  | .tuple ds, _, c, h => by
    cases h with
    | tup hs ha => exact .tup (e.t _ _ hs) (dps_st e ds _ c ha)
  | .dict _, _, _, h => by cases h
theorem dps_st {H' : Hp} (e : St K H H') : ∀ (ds : List PyData) (vs : List V), tupDs ds = true → DpAll K H vs ds → DpAll K H' vs ds
  | [], _, _, h => by cases h; exact .nil
  | d :: ds, _, c, h => by
    have h2 : (tupD d && tupDs ds) = true := c
    rw [Bool.and_eq_true] at h2
    cases h with
    | cons h3 h4 => exact .cons (dp_st e d _ h2.1 h3) (dps_st e ds _ h2.2 h4)
end
/-- packable data at v, not deep -/
def Pk (K : PySem.W.Frag) (H : Hp) (n : Nat) (v : V) (d : PyData) : Prop := Dp K H v d ∧ tupD d = true ∧ d.depth ≤ n
theorem Pk.st {H' : Hp} {n : Nat} {v : V} {d : PyData} (h : Pk K H n v d) (e : St K H H') : Pk K H' n v d := ⟨dp_st e d v h.2.1 h.1, h.2⟩
theorem Pk.sk {H' : Hp} {n : Nat} {v : V} {d : PyData} (h : Pk K H n v d) (e : Sk K H H') : Pk K H' n v d := h.st e.st
theorem Pk.same {H' : Hp} {n : Nat} {v : V} {d : PyData} (h : Pk K H n v d) (e : Same H H') : Pk K H' n v d := h.st (tt_same e)
theorem Pk.mono {n m : Nat} {v : V} {d : PyData} (h : Pk K H n v d) (l : n ≤ m) : Pk K H m v d := ⟨h.1, h.2.1, Nat.le_trans h.2.2 l⟩
theorem Pk.lay {n : Nat} {v : V} {d : PyData} (h : Pk K H n v d) : d.canLay0 = true := tupD_lay d h.2.1
theorem pk_non {n : Nat} : Pk K H n .non .none := ⟨.non, rfl, Nat.zero_le _⟩
theorem pk_int {n : Nat} {i : Int} : Pk K H n (.int i) (.int i) := ⟨.int i, rfl, Nat.zero_le _⟩
theorem pk_str {n : Nat} {x : Str} (h : PyData.canLay0 (.str x) = true := by decide +kernel) : Pk K H n (.str x) (.str x) := ⟨.str x, h, Nat.zero_le _⟩
/-- packable data, one behind another -/
def PkAll (K : PySem.W.Frag) (H : Hp) (n : Nat) (vs : List V) (ds : List PyData) : Prop := DpAll K H vs ds ∧ tupDs ds = true ∧ PyData.depthAll ds ≤ n
theorem PkAll.st {H' : Hp} {n : Nat} {vs : List V} {ds : List PyData} (h : PkAll K H n vs ds) (e : St K H H') : PkAll K H' n vs ds := ⟨dps_st e ds vs h.2.1 h.1, h.2⟩
theorem PkAll.same {H' : Hp} {n : Nat} {vs : List V} {ds : List PyData} (h : PkAll K H n vs ds) (e : Same H H') : PkAll K H' n vs ds := h.st (tt_same e)
theorem PkAll.mono {n m : Nat} {vs : List V} {ds : List PyData} (h : PkAll K H n vs ds) (l : n ≤ m) : PkAll K H m vs ds := ⟨h.1, h.2.1, Nat.le_trans h.2.2 l⟩
theorem PkAll.lay {n : Nat} {vs : List V} {ds : List PyData} (h : PkAll K H n vs ds) : PyData.canLayAll0 ds = true := tupDs_lay ds h.2.1
theorem pk_nil {n : Nat} : PkAll K H n [] [] := ⟨.nil, rfl, Nat.zero_le _⟩
theorem pk_cons {n : Nat} {v : V} {vs : List V} {d : PyData} {ds : List PyData} (h : Pk K H n v d) (h' : PkAll K H n vs ds) : PkAll K H n (v :: vs) (d :: ds) :=
  ⟨.cons h.1 h'.1, by show (tupD d && tupDs ds) = true; rw [h.2.1, h'.2.1]; rfl, by show max _ _ ≤ n; have := h.2.2; have := h'.2.2; omega⟩
theorem PkAll.uncons {n : Nat} {v : V} {vs : List V} {ds : List PyData} (h : PkAll K H n (v :: vs) ds) : ∃ d es, ds = d :: es ∧ Pk K H n v d ∧ PkAll K H n vs es := by
  obtain ⟨h1, h2, h3⟩ := h
  cases h1 with
  | cons a b =>
    rename_i d es
    have h4 : (tupD d && tupDs es) = true := h2
    rw [Bool.and_eq_true] at h4
    have h5 : max d.depth (PyData.depthAll es) ≤ n := h3
    exact ⟨d, es, rfl, ⟨a, h4.1, by omega⟩, ⟨b, h4.2, by omega⟩⟩
theorem pk_snoc {n : Nat} : ∀ {vs : List V} {ds : List PyData} {v : V} {d : PyData}, PkAll K H n vs ds → Pk K H n v d → PkAll K H n (vs ++ [v]) (ds ++ [d])
  | [], ds, v, d, h, h' => by
    obtain ⟨h1, _, _⟩ := h
    cases h1
    exact pk_cons h' pk_nil
  | w :: vs, ds, v, d, h, h' => by
    obtain ⟨e, es, rfl, h1, h2⟩ := h.uncons
    exact pk_cons h1 (pk_snoc h2 h')
theorem PkAll.len {n : Nat} : ∀ {vs : List V} {ds : List PyData}, PkAll K H n vs ds → vs.length = ds.length
  | [], ds, h => by
    obtain ⟨h1, _, _⟩ := h
    cases h1
    rfl
  | w :: vs, ds, h => by
    obtain ⟨e, es, rfl, h1, h2⟩ := h.uncons
    show vs.length + 1 = es.length + 1
    rw [h2.len]
theorem PkAll.take {n : Nat} : ∀ {vs : List V} {ds : List PyData} (k : Nat), PkAll K H n vs ds → PkAll K H n (vs.take k) (ds.take k)
  | vs, ds, 0, h => pk_nil
  | [], ds, k + 1, h => by
    obtain ⟨h1, _, _⟩ := h
    cases h1
    exact pk_nil
  | w :: vs, ds, k + 1, h => by
    obtain ⟨e, es, rfl, h1, h2⟩ := h.uncons
    exact pk_cons h1 (h2.take k)
theorem PkAll.at {n : Nat} : ∀ {vs : List V} {ds : List PyData} {i : Nat} {v : V}, PkAll K H n vs ds → vs[i]? = some v → ∃ d, ds[i]? = some d ∧ Pk K H n v d
  | [], ds, i, v, h, e => by simp at e
  | w :: vs, ds, 0, v, h, e => by
    obtain ⟨d, es, rfl, h1, h2⟩ := h.uncons
    cases (show w = v from Option.some.inj e)
    exact ⟨d, rfl, h1⟩
  | w :: vs, ds, i + 1, v, h, e => by
    obtain ⟨d, es, rfl, h1, h2⟩ := h.uncons
    exact h2.at e
theorem pk_tup {n : Nat} {a : Addr} {vs : List V} {ds : List PyData} (h : SqT K H a vs) (h1 : PkAll K H n vs ds) : Pk K H (n + 1) (.ref a) (.tuple ds) :=
  ⟨.tup h h1.1, h1.2.1, Nat.add_le_add_right h1.2.2 1⟩
theorem pk_tup1 {n : Nat} {a : Addr} {v : V} {d : PyData} (h : SqT K H a [v]) (h1 : Pk K H n v d) : Pk K H (n + 1) (.ref a) (.tuple [d]) := pk_tup h (pk_cons h1 pk_nil)
theorem pk_tup2 {n : Nat} {a : Addr} {v w : V} {d e : PyData} (h : SqT K H a [v, w]) (h1 : Pk K H n v d) (h2 : Pk K H n w e) : Pk K H (n + 1) (.ref a) (.tuple [d, e]) := pk_tup h (pk_cons h1 (pk_cons h2 pk_nil))
theorem pk_tup3 {n : Nat} {a : Addr} {u v w : V} {c d e : PyData} (h : SqT K H a [u, v, w]) (h0 : Pk K H n u c) (h1 : Pk K H n v d) (h2 : Pk K H n w e) : Pk K H (n + 1) (.ref a) (.tuple [c, d, e]) := pk_tup h (pk_cons h0 (pk_cons h1 (pk_cons h2 pk_nil)))
/-- equal data, one way or the other -/
theorem x_nePk {n m : Nat} {x y : V} {d : PyData} (h : Pk K H n x d) (h' : Pk K H m y d) (q : Q (.bl false) H) (l : n ≤ 64 := by decide) : rNeD K x y H Q := x_neSame h.1 h'.1 h.lay (Nat.le_trans h.2.2 l) q
theorem x_eqPk {n m : Nat} {x y : V} {d : PyData} (h : Pk K H n x d) (h' : Pk K H m y d) (q : Q (.bl true) H) (l : n ≤ 64 := by decide) : rEqD K x y H Q := x_eqSame h.1 h'.1 h.lay (Nat.le_trans h.2.2 l) q
theorem lay_list {ds : List PyData} (h : PyData.canLayAll0 ds = true) : PyData.canLay0 (.list ds) = true := h
theorem x_nePkL {n m : Nat} {p q' : Addr} {xs ys : List V} {ds : List PyData} (hp : SqL K H p xs) (hq : SqL K H q' ys) (h : PkAll K H n xs ds) (h' : PkAll K H m ys ds) (q : Q (.bl false) H) (l : n ≤ 63 := by decide) : rNeD K (.ref p) (.ref q') H Q :=
  x_neSame (.lst hp h.1) (.lst hq h'.1) (lay_list h.lay) (Nat.add_le_add_right (Nat.le_trans h.2.2 l) 1) q
theorem x_eqPkL {n m : Nat} {p q' : Addr} {xs ys : List V} {ds : List PyData} (hp : SqL K H p xs) (hq : SqL K H q' ys) (h : PkAll K H n xs ds) (h' : PkAll K H m ys ds) (q : Q (.bl true) H) (l : n ≤ 63 := by decide) : rEqD K (.ref p) (.ref q') H Q :=
  x_eqSame (.lst hp h.1) (.lst hq h'.1) (lay_list h.lay) (Nat.add_le_add_right (Nat.le_trans h.2.2 l) 1) q
theorem u65 {k : Nat} {A : Around} (r : Room k A) : A.units + 65 < cLine := by
  have := r.un
  omega
theorem k_inD (hu : X.A.units + 65 < cLine) (e : X.K = K) : OpR X (compareOp .In) (rInD K) := e ▸ op_inD hu
theorem k_ninD (hu : X.A.units + 65 < cLine) (e : X.K = K) : OpR X (compareOp .NotIn) (rNotInD K) := e ▸ op_notInD hu
/-- whether d is among ds -/
def inD (d : PyData) (ds : List PyData) : Bool := ds.any fun z => PyData.eqv z d
theorem x_inPk {n m : Nat} {x : V} {d : PyData} {xs : List V} {ds : List PyData} (h : Pk K H n x d) (hp : SqL K H a xs) (h' : PkAll K H m xs ds) (k : Q (.bl (inD d ds)) H) (l : n ≤ 64 := by decide) (l' : m ≤ 63 := by decide) : rInD K x (.ref a) H Q :=
  ⟨d, ds, h.1, .lst hp h'.1, shaped_of h.lay (Nat.le_trans h.2.2 l), shaped_of (lay_list h'.lay) (Nat.add_le_add_right (Nat.le_trans h'.2.2 l') 1), k⟩
theorem x_ninPk {n m : Nat} {x : V} {d : PyData} {xs : List V} {ds : List PyData} (h : Pk K H n x d) (hp : SqL K H a xs) (h' : PkAll K H m xs ds) (k : Q (.bl (!inD d ds)) H) (l : n ≤ 64 := by decide) (l' : m ≤ 63 := by decide) : rNotInD K x (.ref a) H Q :=
  ⟨d, ds, h.1, .lst hp h'.1, shaped_of h.lay (Nat.le_trans h.2.2 l), shaped_of (lay_list h'.lay) (Nat.add_le_add_right (Nat.le_trans h'.2.2 l') 1), k⟩
theorem x_inD {x : V} {d : PyData} {ds : List PyData} (h : Dp K H x d) (h' : Dp K H (.ref a) (.list ds)) (c : d.canLay0 = true) (n : d.depth ≤ 64) (c' : PyData.canLay0 (.list ds) = true) (n' : PyData.depth (.list ds) ≤ 64) (k : Q (.bl (inD d ds)) H) : rInD K x (.ref a) H Q :=
  ⟨d, ds, h, h', shaped_of c n, shaped_of c' n', k⟩
theorem x_ninD {x : V} {d : PyData} {ds : List PyData} (h : Dp K H x d) (h' : Dp K H (.ref a) (.list ds)) (c : d.canLay0 = true) (n : d.depth ≤ 64) (c' : PyData.canLay0 (.list ds) = true) (n' : PyData.depth (.list ds) ≤ 64) (k : Q (.bl (!inD d ds)) H) : rNotInD K x (.ref a) H Q :=
  ⟨d, ds, h, h', shaped_of c n, shaped_of c' n', k⟩
/-- a sign some times over -/
def repS (x : Str) (n : Int) : Str := if n < 1 then Str.empty else if (n == 1 || x.length == 0) = true then x else ⟨(List.replicate n.toNat x.cps).foldl (· ++ ·) #[]⟩
def nRepS : R2 := fun x y H Q => ∃ (z : Str) (n : Int), x = .str z ∧ y = .int n ∧ 0 ≤ n ∧ n ≤ 1000 ∧ z.length ≤ 100 ∧ Q (.str (repS z n)) H
theorem op_nRepS : OpR X (binaryOp .Mult) nRepS := by
  intro pins s σ H x y v u Q I rx ry h
  obtain ⟨z, n, rfl, rfl, h0, h1, h2, q⟩ := h
  obtain ⟨t, rfl⟩ := rx
  obtain ⟨t', rfl⟩ := ry
  have hlen : z.length * n.toNat ≤ 100000 := by
    have h3 : n.toNat ≤ 1000 := by omega
    calc z.length * n.toNat ≤ 100 * n.toNat := Nat.mul_le_mul_right _ h2
      _ ≤ 100000 := by omega
  refine PySem.P.mul_str ?_ ?_ ?_ ?_
  · rw [decide_eq_false (by omega), decide_eq_false (by omega)]
    rfl
  · intro h3 _ h4
    have h5 : (1000 : Int) ≤ (2 ^ 63 - 1) / n := by
      rw [Int.le_ediv_iff_mul_le (by omega)]
      omega
    omega
  · intro _ _
    exact decide_eq_false (by unfold sizeLine; omega)
  · unfold repS at q
    by_cases h3 : n < 1
    · rw [if_pos h3] at q ⊢
      exact ⟨by decide, .str Str.empty, H, I.tok _, ⟨_, rfl⟩, q⟩
    · rw [if_neg h3] at q ⊢
      by_cases h4 : (n == 1 || z.length == 0) = true
      · rw [if_pos h4] at q ⊢
        exact ⟨.str z, H, I, ⟨_, rfl⟩, q⟩
      · rw [if_neg h4] at q ⊢
        exact ⟨PySem.fits_reps (decide_eq_false (by unfold sizeLine; omega)), .str _, H, I.tok _, ⟨_, rfl⟩, q⟩
theorem x_nRepS {z : Str} {n : Int} (h : 0 ≤ n ∧ n ≤ 1000) (hz : z.length ≤ 100) (k : Q (.str (repS z n)) H) : nRepS (.str z) (.int n) H Q := ⟨z, n, rfl, rfl, h.1, h.2, hz, k⟩
/-- a range from its end -/
def rRevR (i : Nat) (tu : TS) (D : Ends) (σ : L2.St) : Int → Int → Hp → Prop := fun lo hi H => -(2 ^ 62) ≤ lo ∧ lo < 2 ^ 62 ∧ -(2 ^ 62) ≤ hi ∧ hi < 2 ^ 62 ∧ ∃ W : Nat → Nat → L2.St → Hp → Prop, (∃ m, W 0 m σ H) ∧ ∀ j m σ H, W j m σ H →
  ((Itc (lo + (((hi - lo).toNat : Nat) : Int) - 1) (-1) (hi - lo).toNat).stop j H ∧ D.nx σ H) ∨ ((Itc (lo + (((hi - lo).toNat : Nat) : Int) - 1) (-1) (hi - lo).toNat).go j H ∧ ∃ N : L2.St → Hp → Prop, (∀ σ' H', N σ' H' → ∃ m', m' < m ∧ W (j + 1) m' σ' H') ∧
    ∀ x H', (Itc (lo + (((hi - lo).toNat : Nat) : Int) - 1) (-1) (hi - lo).toNat).yld j H x H' → gName i x σ H' fun σ2 H2 => tu { D with nx := N, ct := N, bk := D.nx } σ2 H2)
theorem x_forRev1 {i : Nat} {tu : TS} {D : Ends} {σ : L2.St} {tr : L2.St → Hp → (Int → Int → Hp → Prop) → Prop} (q : tr σ H (rRevR i tu D σ)) : tFor (iRevR tr) (gName i) tu D σ H := q
theorem x_forRev {i : Nat} {tu : TS} {D : Ends} {σ : L2.St} {m : Int} (Pv : Nat → L2.St → Hp → Prop) (hm : 0 ≤ m ∧ m ≤ 100000) (p0 : Pv 0 σ H)
    (ps : ∀ (j : Nat) σ' H', (j : Int) < m → Pv j σ' H' → tu { D with nx := Pv (j + 1), ct := Pv (j + 1), bk := D.nx } (σ'.set i (some (.int (m - 1 - j)))) H') (pd : ∀ σ' H', Pv m.toNat σ' H' → D.nx σ' H') : rRevR i tu D σ 0 m H := by
  have e : (m - 0).toNat = m.toNat := by omega
  refine ⟨by omega, by omega, by omega, by omega, ?_⟩
  rw [e]
  refine for_rangeC (n := m.toNat) Pv p0 (fun j σ' H' hj p => ?_) pd
  have e0 : (0 : Int) + ((m.toNat : Nat) : Int) - 1 + (j : Nat) * (-1) = m - 1 - j := by omega
  show tu { D with nx := Pv (j + 1), ct := Pv (j + 1), bk := D.nx } (σ'.set i (some (.int ((0 : Int) + ((m.toNat : Nat) : Int) - 1 + (j : Nat) * (-1))))) H'
  rw [e0]
  exact ps j σ' H' (by omega) p
theorem cut_take {xs : List V} {k : Int} {n : Nat} (e : k = (n : Int)) : cutV xs none (some k) = xs.take n := by
  subst e
  unfold cutV
  rw [HT.sIx_nat, HT.sIx_none, List.drop_zero, Nat.sub_zero]
  by_cases h : n ≤ xs.length
  · rw [show min n xs.length = n by omega]
  · rw [show min n xs.length = xs.length by omega, List.take_length, List.take_of_length_le (by omega)]
theorem cut_drop {xs : List V} {k : Int} {n : Nat} (e : k = (n : Int)) : cutV xs (some k) none = xs.drop n := by
  subst e
  unfold cutV
  rw [HT.sIx_nat, HT.sIx_none]
  by_cases h : n ≤ xs.length
  · rw [show min n xs.length = n by omega, List.take_of_length_le (by rw [List.length_drop]; omega)]
  · rw [show min n xs.length = xs.length by omega, List.drop_length, List.drop_of_length_le (by omega)]
    simp
/-- range(lo, hi) -/
def rRange2 (n : Nat) (tu : TS) (D : Ends) (σ : L2.St) : List V → Hp → Prop := fun vs H => ∃ i j : Int, vs = [.int i, .int j] ∧ (-(2 ^ 62) ≤ i ∧ i < 2 ^ 62 ∧ -(2 ^ 62) ≤ j ∧ j < 2 ^ 62) ∧ ∃ W : Nat → Nat → L2.St → Hp → Prop, (∃ m, W 0 m σ H) ∧ ∀ k m σ H, W k m σ H →
  ((Itr i (j - i).toNat).stop k H ∧ D.nx σ H) ∨ ((Itr i (j - i).toNat).go k H ∧ ∃ N : L2.St → Hp → Prop, (∀ σ' H', N σ' H' → ∃ m', m' < m ∧ W (k + 1) m' σ' H') ∧ ∀ x H', (Itr i (j - i).toNat).yld k H x H' → gName n x σ H' fun σ2 H2 => tu { D with nx := N, ct := N, bk := D.nx } σ2 H2)
theorem x_forR2 {n : Nat} {tu : TS} {D : Ends} {σ : L2.St} {tr : TA} (q : tr σ H (rRange2 n tu D σ)) : tFor (iRng2 tr) (gName n) tu D σ H := q
theorem x_range2 {n : Nat} {tu : TS} {D : Ends} {σ : L2.St} {lo hi : Int} (Pv : Nat → L2.St → Hp → Prop) (hm : -1000000 ≤ lo ∧ lo ≤ 1000000 ∧ -1000000 ≤ hi ∧ hi ≤ 1000000) (p0 : Pv 0 σ H)
    (ps : ∀ (k : Nat) σ' H', lo + (k : Int) < hi → Pv k σ' H' → tu { D with nx := Pv (k + 1), ct := Pv (k + 1), bk := D.nx } (σ'.set n (some (.int (lo + (k : Int))))) H') (pd : ∀ σ' H', Pv (hi - lo).toNat σ' H' → D.nx σ' H') : rRange2 n tu D σ [.int lo, .int hi] H :=
  ⟨lo, hi, rfl, ⟨by omega, by omega, by omega, by omega⟩, for_range (lo := lo) (n := (hi - lo).toNat) Pv p0 (fun k σ' H' hk p => ps k σ' H' (by omega) p) pd⟩
theorem pk_ints {n : Nat} : ∀ ns : List Int, PkAll K H n (ns.map V.int) (ns.map PyData.int)
  | [] => pk_nil
  | m :: r => pk_cons pk_int (pk_ints r)
/-! dicts whose keys are texts -/
def rDG (x : V) (Q : VK) : VK := fun y H2 => ∃ (a : Addr) (v : V), x = .ref a ∧ DGet H2 a y (some v) ∧ Q v H2
theorem x_dget {td ty : TE} {σ : L2.St} (q : td σ H fun x H1 => ty σ H1 (rDG x Q)) : tDGet td ty σ H Q := q
theorem x_rDG {kvs : List (Key × V)} {k : Str} {v : V} (h : H a = some (.dK kvs)) (e : valV kvs (Sum.inr k) = some v) (q : Q v H) : rDG (.ref a) Q (.str k) H := ⟨a, v, rfl, by rw [← e]; exact (DGet.k (k := Sum.inr k) h : DGet H a (kV (Sum.inr k)) (valV kvs (Sum.inr k))), q⟩
def rDP (x v : V) (R : Hp → Prop) : VK := fun y H3 => ∃ (a : Addr) (H4 : Hp), x = .ref a ∧ DPut H3 a y v H4 ∧ R H4
theorem x_sdput {td ty tv : TE} {D : Ends} {σ : L2.St} {tz : TS} (q : tv σ H fun v H1 => td σ H1 fun x H2 => ty σ H2 (rDP x v fun H4 => tz D σ H4)) : tSeq (sDPut td ty tv) tz D σ H := q
theorem x_dput {td ty tv : TE} {D : Ends} {σ : L2.St} (q : tv σ H fun v H1 => td σ H1 fun x H2 => ty σ H2 (rDP x v fun H4 => D.nx σ H4)) : sDPut td ty tv D σ H := q
theorem x_rDP {kvs kvs' : List (Key × V)} {k : Str} {v : V} {R : Hp → Prop} (h : H a = some (.dK kvs)) (hl : kvs.length < 1000) (e : putK kvs (Sum.inr k) v = kvs') (q : R (upd H a (.dK kvs'))) : rDP (.ref a) v R (.str k) H :=
  ⟨a, upd H a (.dK (putK kvs (Sum.inr k) v)), rfl, (DPut.k (k := Sum.inr k) h (small1000 (Nat.le_of_lt hl)) : DPut H a (kV (Sum.inr k)) v _), by rw [e]; exact q⟩
theorem x_disp {trs : List (TE × TE)} {σ : L2.St} (q : ∀ p, Fr p H → tPairs trs σ (upd H p (.dK [])) fun ps H2 => H2 p = some (.dK []) ∧ ∃ kvs : List (Key × V), ps = kvs.map (fun kv => (kV kv.1, kv.2)) ∧ kvs.length ≤ 15 ∧ Q (.ref p) (upd H2 p (.dK (mergeK [] kvs)))) : tDisp trs σ H Q := fun p hp => q p ⟨hp⟩
theorem x_pcons {tk tv : TE} {r : List (TE × TE)} {σ : L2.St} {R : List (V × V) → Hp → Prop} (q : tk σ H fun x H1 => tv σ H1 fun y H2 => tPairs r σ H2 fun ps H3 => R ((x, y) :: ps) H3) : tPairs ((tk, tv) :: r) σ H R := q
theorem x_pnil {σ : L2.St} {R : List (V × V) → Hp → Prop} (q : R [] H) : tPairs [] σ H R := q
/-! lists of ints sorted where they stand -/
theorem x_rSortI {ns : List Int} (h : H a = some (.lst (ns.map V.int))) (k : ∀ ns' : List Int, ns'.Perm ns → ns'.Pairwise (· ≤ ·) → Q .non (upd H a (.lst (ns'.map V.int)))) : rSortI (.ref a) [] H Q := ⟨a, ns, rfl, rfl, h, k⟩
theorem srt_eq {xs ys : List Int} (p : xs.Perm ys) (h1 : xs.Pairwise (· ≤ ·)) (h2 : ys.Pairwise (· ≤ ·)) : xs = ys := p.eq_of_pairwise (fun x y _ _ h h' => Int.le_antisymm h h') h1 h2
/-! texts -/
def nInS : R2 := fun x y H Q => ∃ (c : Nat) (z : Str), x = .str ⟨#[c]⟩ ∧ y = .str z ∧ Q (.bl (decide (c ∈ z.cps.toList))) H
def nNotInS : R2 := fun x y H Q => ∃ (c : Nat) (z : Str), x = .str ⟨#[c]⟩ ∧ y = .str z ∧ Q (.bl (!decide (c ∈ z.cps.toList))) H
theorem op_nInS : OpR X (compareOp .In) nInS := op_in_sign
theorem op_nNotInS : OpR X (compareOp .NotIn) nNotInS := op_notIn_sign
theorem x_inS {c : Nat} {z : Str} (q : Q (.bl (decide (c ∈ z.cps.toList))) H) : nInS (.str ⟨#[c]⟩) (.str z) H Q := ⟨c, z, rfl, rfl, q⟩
theorem x_notInS {c : Nat} {z : Str} (q : Q (.bl (!decide (c ∈ z.cps.toList))) H) : nNotInS (.str ⟨#[c]⟩) (.str z) H Q := ⟨c, z, rfl, rfl, q⟩
def nAddS : R2 := fun x y H Q => ∃ i j : Str, x = .str i ∧ y = .str j ∧ i.length + j.length ≤ sizeLine ∧ Q (.str (i ++ j)) H
theorem op_nAddS : OpR X (binaryOp .Add) nAddS := op_add_str
theorem x_nAddS {i j : Str} (h : i.length + j.length ≤ 100000) (q : Q (.str (i ++ j)) H) : nAddS (.str i) (.str j) H Q := ⟨i, j, rfl, rfl, size_ok h, q⟩
def nLenS : List V → Hp → VK → Prop := fun xs H Q => ∃ z : Str, xs = [.str z] ∧ z.length ≤ sizeLine ∧ Q (.int z.length) H
theorem call_nLenS : CallR X (.builtin "len") nLenS := call_len_str
theorem x_nLenS {z : Str} (h : z.length ≤ 100000) (q : Q (.int z.length) H) : nLenS [.str z] H Q := ⟨z, rfl, size_ok h, q⟩
theorem x_slS {z : Str} {lo hi : Option Int} (h : z.length ≤ 100000) (q : Q (.str (cutS z lo hi)) H) : rSlS (.str z) lo hi H Q := ⟨z, rfl, size_ok h, q⟩
def rLcS (g : TG) (tt : TT) (te : TE) (vs : List Nat) (σ : L2.St) (Q : VK) : VK := fun x H1 => ∃ z, x = .str z ∧ RLc (Its z) g tt te vs σ Q H1
theorem x_lcS1 {g : TG} {t : TT} {te tx : TE} {vs : List Nat} {σ : L2.St} (q : tx σ H (rLcS g t te vs σ Q)) : tLc (iStr tx) g t te vs σ H Q := q
theorem x_lcS {g : TG} {t : TT} {te : TE} {vs : List Nat} {σ : L2.St} {z : Str} (Pv : Addr → Nat → Hp → Prop) (h0 : ∀ Dl, Fr Dl H → Pv Dl 0 (upd H Dl (.lst [])))
    (hs : ∀ Dl, Fr Dl H → ∀ i c H', z.cps.toList[i]? = some c → Pv Dl i H' → g (.str ⟨#[c]⟩) (wipe σ vs) H' fun σ2 H2 => wipe σ2 vs = wipe σ vs ∧ t σ2 H2 fun b H3 =>
      if b = true then te σ2 H3 fun y H4 => ∃ acc, H4 Dl = some (.lst acc) ∧ acc.length < sizeLine ∧ Pv Dl (i + 1) (upd H4 Dl (.lst (acc ++ [y]))) else Pv Dl (i + 1) H3)
    (hd : ∀ Dl H', Fr Dl H → Pv Dl z.length H' → Q (.ref Dl) H') : rLcS g t te vs σ Q (.str z) H := ⟨z, rfl, fun Dl hD =>
  lc_it walk_str (Pv Dl) (h0 Dl ⟨hD⟩) (fun _ _ _ _ => trivial) (fun i x H1 H' _ p y => by
    obtain ⟨rfl, c, hc, rfl⟩ := y
    exact hs Dl ⟨hD⟩ i c _ (by rw [← hc]; simp) p) (fun H' p => hd Dl H' ⟨hD⟩ p)⟩
/-! ### texts gone through, keys of a dict -/
def rForS (g : TG) (tu : TS) (D : Ends) (σ : L2.St) : VK := fun x H => ∃ z, x = .str z ∧ ∃ W : Nat → Nat → L2.St → Hp → Prop, (∃ m, W 0 m σ H) ∧ ∀ i m σ H, W i m σ H →
  ((Its z).stop i H ∧ D.nx σ H) ∨ ((Its z).go i H ∧ ∃ N : L2.St → Hp → Prop, (∀ σ' H', N σ' H' → ∃ m', m' < m ∧ W (i + 1) m' σ' H') ∧ ∀ x H', (Its z).yld i H x H' → g x σ H' fun σ2 H2 => tu { D with nx := N, ct := N, bk := D.nx } σ2 H2)
theorem x_forS1 {g : TG} {tu : TS} {D : Ends} {σ : L2.St} {te : TE} (q : te σ H (rForS g tu D σ)) : tFor (iStr te) g tu D σ H := q
theorem x_forS {g : TG} {tu : TS} {D : Ends} {σ : L2.St} {z : Str} (Pv : Nat → L2.St → Hp → Prop) (p0 : Pv 0 σ H)
    (ps : ∀ i c σ' H', z.cps.toList[i]? = some c → Pv i σ' H' → g (.str ⟨#[c]⟩) σ' H' fun σ2 H2 => tu { D with nx := Pv (i + 1), ct := Pv (i + 1), bk := D.nx } σ2 H2) (pd : ∀ σ' H', Pv z.length σ' H' → D.nx σ' H') : rForS g tu D σ (.str z) H :=
  ⟨z, rfl, for_it walk_str Pv p0 (fun _ _ _ _ _ => trivial) (fun i x σ H H' _ p y => by
    obtain ⟨rfl, c, hc, rfl⟩ := y
    exact ps i c _ _ (by rw [← hc]; simp) p) pd⟩
def nOrd : List V → Hp → VK → Prop := fun xs H Q => ∃ x : Str, xs = [.str x] ∧ x.length = 1 ∧ Q (.int (x.cps.getD 0 0 : Nat)) H
theorem k_ord {X : Cx} : CallR X (.builtin "ord") nOrd := call_ord
theorem x_ord {c : Nat} (q : Q (.int (c : Nat)) H) : nOrd [.str ⟨#[c]⟩] H Q := ⟨_, rfl, rfl, q⟩
/-- a list comprehension over a dict's keys -/
theorem x_lcK {g : TG} {t : TT} {te : TE} {vs : List Nat} {σ : L2.St} {a : Nat} {r : Addr} {kvs : List (Key × V)} (ea : σ[a]? = some (some (.ref r))) (hr : H r = some (.dK kvs))
    (q : ∀ od H0, H0 = upd H r (.frz od (.dK kvs)) → ∃ Pv : Addr → Nat → Hp → Prop, (∀ Dl, Fr Dl H0 → Pv Dl 0 (upd H0 Dl (.lst []))) ∧ (∀ Dl i H', Fr Dl H0 → Pv Dl i H' → H' r = some (.frz od (.dK kvs))) ∧
      (∀ Dl, Fr Dl H0 → ∀ i k v H', kvs[i]? = some (k, v) → Pv Dl i H' → g (kV k) (wipe σ vs) H' fun σ2 H2 => wipe σ2 vs = wipe σ vs ∧ t σ2 H2 fun b H3 =>
        if b = true then te σ2 H3 fun y H4 => ∃ acc, H4 Dl = some (.lst acc) ∧ acc.length < sizeLine ∧ Pv Dl (i + 1) (upd H4 Dl (.lst (acc ++ [y]))) else Pv Dl (i + 1) H3) ∧
      ∀ Dl H', Fr Dl H0 → Pv Dl kvs.length H' → Q (.ref Dl) (upd H' r (.dK kvs))) : tLockE (tLc (iKeys (tVar a)) g t te vs) σ H Q := by
  refine ⟨r, _, hr, trivial, fun od => ?_⟩
  obtain ⟨Pv, h0, h1, h2, h3⟩ := q od _ rfl
  refine ⟨.ref r, ea, r, od, rfl, .inl ⟨kvs, upd_same, fun Dl hD => ?_⟩⟩
  refine lc_it (walk_keys (o := od)) (Pv Dl) (h0 Dl ⟨hD⟩) (fun i H' _ p => h1 Dl i H' ⟨hD⟩ p) (fun i x H1 H' _ p y => ?_) fun H' p => ⟨h1 Dl _ H' ⟨hD⟩ p, h3 Dl H' ⟨hD⟩ p⟩
  obtain ⟨rfl, k, v, e, rfl⟩ := y
  exact h2 Dl ⟨hD⟩ i k v _ e p
/-- all signs of a text are so -/
def AllC (p : Nat → Bool) (s : Str) : Bool := s.cps.toList.all p
theorem toList_add (i j : Str) : (i ++ j).cps.toList = i.cps.toList ++ j.cps.toList := by
  show (i.cps ++ j.cps).toList = _
  simp
theorem len_add (i j : Str) : (i ++ j).length = i.length + j.length := by
  show (i.cps ++ j.cps).size = i.cps.size + j.cps.size
  simp
theorem allC_add {p : Nat → Bool} {i j : Str} (h : AllC p i = true) (h' : AllC p j = true) : AllC p (i ++ j) = true := by
  unfold AllC at *
  rw [toList_add, List.all_append, h, h']
  rfl
theorem allC_add_inv {p : Nat → Bool} {i j : Str} (h : AllC p (i ++ j) = true) : AllC p i = true ∧ AllC p j = true := by
  unfold AllC at *
  rw [toList_add, List.all_append, Bool.and_eq_true] at h
  exact h
theorem allC_cut {p : Nat → Bool} {z : Str} {lo hi : Option Int} (h : AllC p z = true) : AllC p (cutS z lo hi) = true := by
  unfold AllC at *
  rw [List.all_eq_true] at h ⊢
  intro c hc
  refine h c ?_
  unfold cutS at hc
  simp only at hc
  exact List.mem_of_mem_drop (List.mem_of_mem_take hc)
theorem len_cut (z : Str) (lo hi : Option Int) : (cutS z lo hi).length ≤ z.length := by
  show (cutS z lo hi).cps.size ≤ z.cps.size
  unfold cutS
  simp only [List.size_toArray, List.length_take, List.length_drop, Array.length_toList]
  have : z.length = z.cps.size := rfl
  omega
theorem allC_at {p : Nat → Bool} {z : Str} {i : Nat} {c : Nat} (h : AllC p z = true) (e : z.cps.toList[i]? = some c) : AllC p ⟨#[c]⟩ = true := by
  unfold AllC at *
  rw [List.all_eq_true] at h
  have := h c (List.mem_of_getElem? e)
  simp [this]
theorem allC_mono {p q : Nat → Bool} {s : Str} (h : AllC p s = true) (f : ∀ c, p c = true → q c = true) : AllC q s = true := by
  unfold AllC at *
  rw [List.all_eq_true] at h ⊢
  exact fun c hc => f c (h c hc)
def okC : Nat → Bool := fun c => decide (c < 0x110000)
theorem lay_str {s : Str} (h : AllC okC s = true) : PyData.canLay0 (.str s) = true := by
  have h2 : s.cps.all (fun c => decide (c < 0x110000)) = true := by
    rw [← Array.all_toList]
    exact h
  simpa only [PyData.canLay0, PyData.strOk] using h2
/-! tuples some times over -/
theorem tup_times1 (l : Addr) (items : Array Value) (n : Nat) (dd : Option Addr) (sl : Array (Option Value)) (u : Tok) :
    Meets (Builtin.«tuple.__mul__» ⟨[.ref l, .int 1 u], []⟩) (fun _ R s => s.heap.get? l = some { cls := .type "tuple", dict := dd, data := .seq items n, slots := sl } ∧ R (.ok (.ret (.ref l))) s) :=
  .of_wp fun prog w A R s h => by
    obtain ⟨hp, g, d, tk, os⟩ := s
    obtain ⟨hl, h⟩ := h
    have f1 := AutoSeq1.idx_int
    wp_walk using wpAny_loadPart' hl
    exact ⟨_, rfl, h⟩
def nRepT (K : PySem.W.Frag) : R2 := fun x y H Q => ∃ (l : Addr) (k : Int) (xs : List V), x = .ref l ∧ y = .int k ∧ SqT K H l xs ∧ xs ≠ [] ∧ xs.length ≤ 1000 ∧ ((k = 1 ∧ Q (.ref l) H) ∨ (2 ≤ k ∧ k ≤ 1000 ∧ ∀ p, H p = none → Q (.ref p) (upd H p (.tup (List.replicate k.toNat xs).flatten))))
theorem op_nRepT : OpR X (binaryOp .Mult) (nRepT X.K) := by
  intro pins s σ H x y v u Q I rx ry h
  obtain ⟨l, k, xs, rfl, rfl, hT, hne, hz, q⟩ := h
  rcases q with ⟨rfl, q⟩ | ⟨h1, h2, q⟩
  · cases rx
    obtain ⟨t, rfl⟩ := ry
    obtain ⟨its, r, ⟨⟨cls, dd, data, sl⟩, ho, hc, n, hd⟩, hs⟩ := I.tuple hT
    simp only at hc hd
    subst hc hd
    exact wpAny_binaryOp_repeat_ref (T := "tuple") (U := "int") (by decide) ⟨_, ho, rfl⟩ (fun s' => typeIs_int s' 1 t) noFill_tuple_mul PySem.F.fills_int_mul PySem.F.slot_int_rmul repeat_tuple PySem.F.slot_int_index.lookup
      (call_meets PySem.F.slot_int_rmul (typeIs_int s 1 t) PySem.F.entry_int_rmul (PySem.F.args_int_rmul_2 _ _) (int_rmul_tuple 1 t l its.toArray n dd sl)
        ⟨ho, rfl, ⟨_, ho, rfl⟩, call_meets PySem.F.slot_tuple_mul ⟨_, ho, rfl⟩ PySem.F.entry_tuple_mul (PySem.F.args_tuple_mul_2 _ _) (tup_times1 l its.toArray n dd sl t) ⟨ho, ⟨.ref l, H, I, rfl, q⟩⟩⟩)
  · exact op_repT pins s σ H _ _ v u Q I rx ry ⟨l, k, xs, rfl, rfl, hT, hne, h1, h2, hz, q⟩
theorem k_repT (e : X.K = K) : OpR X (binaryOp .Mult) (nRepT K) := e ▸ op_nRepT
/-! more of dicts -/
def rGet1 (R : VK) (a : Addr) : VK := fun y H2 => ∃ o, DGet H2 a y o ∧ R (o.getD .non) H2
def rGetD (x : V) (ty : TE) (σ : L2.St) (Q : VK) : Hp → Prop := fun H1 => ∃ a, x = .ref a ∧ IsD H1 a ∧ ty σ H1 (rGet1 Q a)
theorem x_dget1 {td ty : TE} {σ : L2.St} (q : td σ H fun x H1 => rGetD x ty σ Q H1) : tDGet1 td ty σ H Q := q
theorem x_rGetD {ty : TE} {σ : L2.St} {kvs : List (Key × V)} (h : H a = some (.dK kvs)) (q : ty σ H (rGet1 Q a)) : rGetD (.ref a) ty σ Q H := ⟨a, rfl, .inl ⟨kvs, .inl h⟩, q⟩
theorem x_rGet1 {kvs : List (Key × V)} {k : Str} (h : H a = some (.dK kvs)) (q : Q ((valV kvs (Sum.inr k)).getD .non) H) : rGet1 Q a (.str k) H := ⟨_, (DGet.k (k := Sum.inr k) h : DGet H a (kV (Sum.inr k)) (valV kvs (Sum.inr k))), q⟩
def rGet2 (R : VK) (a : Addr) (y z : V) : Hp → Prop := fun H3 => ∃ o, DGet H3 a y o ∧ R (o.getD z) H3
def rGetE (x : V) (ty tx : TE) (σ : L2.St) (Q : VK) : Hp → Prop := fun H1 => ∃ a, x = .ref a ∧ IsD H1 a ∧ ty σ H1 fun y H2 => tx σ H2 fun z H3 => rGet2 Q a y z H3
theorem x_dget2 {td ty tx : TE} {σ : L2.St} (q : td σ H fun x H1 => rGetE x ty tx σ Q H1) : tDGet2 td ty tx σ H Q := q
theorem x_rGetE {ty tx : TE} {σ : L2.St} {kvs : List (Key × V)} (h : H a = some (.dK kvs)) (q : ty σ H fun y H2 => tx σ H2 fun z H3 => rGet2 Q a y z H3) : rGetE (.ref a) ty tx σ Q H := ⟨a, rfl, .inl ⟨kvs, .inl h⟩, q⟩
theorem x_rGet2 {kvs : List (Key × V)} {k : Str} {z : V} (h : H a = some (.dK kvs)) (q : Q ((valV kvs (Sum.inr k)).getD z) H) : rGet2 Q a (.str k) z H := ⟨_, (DGet.k (k := Sum.inr k) h : DGet H a (kV (Sum.inr k)) (valV kvs (Sum.inr k))), q⟩
def rPop1 (R : VK) (a : Addr) : VK := fun y H2 => ∃ (kvs : List (Key × V)) (k : Key) (v : V), H2 a = some (.dK kvs) ∧ y = kV k ∧ valV kvs k = some v ∧ R v (upd H2 a (.dK (dropK kvs k)))
def rPopD (x : V) (ty : TE) (σ : L2.St) (Q : VK) : Hp → Prop := fun H1 => ∃ a, x = .ref a ∧ IsD H1 a ∧ ty σ H1 (rPop1 Q a)
theorem x_dpop1 {td ty : TE} {σ : L2.St} (q : td σ H fun x H1 => rPopD x ty σ Q H1) : tDPop1 td ty σ H Q := q
theorem x_rPopD {ty : TE} {σ : L2.St} {kvs : List (Key × V)} (h : H a = some (.dK kvs)) (q : ty σ H (rPop1 Q a)) : rPopD (.ref a) ty σ Q H := ⟨a, rfl, .inl ⟨kvs, .inl h⟩, q⟩
theorem x_rPop1 {kvs : List (Key × V)} {k : Str} {v : V} (h : H a = some (.dK kvs)) (e : valV kvs (Sum.inr k) = some v) (q : Q v (upd H a (.dK (dropK kvs (Sum.inr k))))) : rPop1 Q a (.str k) H := ⟨kvs, Sum.inr k, v, h, rfl, e, q⟩
def rPop2 (R : VK) (a : Addr) (y z : V) : Hp → Prop := fun H3 => ∃ (kvs : List (Key × V)) (k : Key), H3 a = some (.dK kvs) ∧ y = kV k ∧ (∀ v, valV kvs k = some v → R v (upd H3 a (.dK (dropK kvs k)))) ∧ (valV kvs k = none → R z H3)
def rPopE (x : V) (ty tx : TE) (σ : L2.St) (Q : VK) : Hp → Prop := fun H1 => ∃ a, x = .ref a ∧ IsD H1 a ∧ ty σ H1 fun y H2 => tx σ H2 fun z H3 => rPop2 Q a y z H3
theorem x_dpop2 {td ty tx : TE} {σ : L2.St} (q : td σ H fun x H1 => rPopE x ty tx σ Q H1) : tDPop2 td ty tx σ H Q := q
theorem x_rPopE {ty tx : TE} {σ : L2.St} {kvs : List (Key × V)} (h : H a = some (.dK kvs)) (q : ty σ H fun y H2 => tx σ H2 fun z H3 => rPop2 Q a y z H3) : rPopE (.ref a) ty tx σ Q H := ⟨a, rfl, .inl ⟨kvs, .inl h⟩, q⟩
theorem x_rPop2 {kvs : List (Key × V)} {k : Str} {z : V} (h : H a = some (.dK kvs)) (q1 : ∀ v, valV kvs (Sum.inr k) = some v → Q v (upd H a (.dK (dropK kvs (Sum.inr k))))) (q2 : valV kvs (Sum.inr k) = none → Q z H) : rPop2 Q a (.str k) z H := ⟨kvs, Sum.inr k, h, rfl, q1, q2⟩
def rDInK (y : V) (Q : VK) : VK := fun x H2 => ∃ a o, x = .ref a ∧ DGet H2 a y o ∧ Q (.bl o.isSome) H2
theorem x_din {ty td : TE} {σ : L2.St} (q : ty σ H fun y H1 => td σ H1 (rDInK y Q)) : tDIn ty td σ H Q := q
theorem x_rDInK {kvs : List (Key × V)} {k : Str} (h : H a = some (.dK kvs)) (q : Q (.bl (valV kvs (Sum.inr k)).isSome) H) : rDInK (.str k) Q (.ref a) H := ⟨a, _, rfl, (DGet.k (k := Sum.inr k) h : DGet H a (kV (Sum.inr k)) (valV kvs (Sum.inr k))), q⟩
theorem x_dnew {σ : L2.St} (k : ∀ p H2, Fr p H → Same H H2 → H2 p = some (.dK []) → Q (.ref p) H2) : tDNewK σ H Q := fun p hp => k p _ ⟨hp⟩ (same_new hp) upd_same
theorem x_notBl {b c : Bool} (q : Q (.bl (!decide (b = c))) H) : rNotB (.bl b) (.bl c) H Q := ⟨b, c, rfl, rfl, q⟩
theorem x_isBl {b c : Bool} (q : Q (.bl (decide (b = c))) H) : rIsB (.bl b) (.bl c) H Q := ⟨b, c, rfl, rfl, q⟩
theorem cut_whole {xs : List V} {lo hi : Option Int} (h : HT.sIx xs.length 0 lo = 0 ∧ HT.sIx xs.length xs.length hi = xs.length) : cutV xs lo hi = xs := by
  unfold cutV
  rw [h.1, h.2]
  simp
theorem x_slA {xs : List V} {lo hi : Option Int} (h : H a = some (.tup xs)) (k : ∀ p H', Same H H' → H' p = some (.tup (cutV xs lo hi)) → Q (.ref p) H') : rSlA K (.ref a) lo hi H Q :=
  ⟨a, xs, rfl, st_of h, fun e => k a H (Same.refl _) (by rw [cut_whole e]; exact h), fun _ p hp => k p _ (same_new hp) upd_same⟩
theorem x_catB {xs ys : List V} (h : H a = some (.tup xs)) (h' : H b = some (.tup ys)) (hz : xs.length + ys.length ≤ 100000) (k : ∀ p H', Same H H' → H' p = some (.tup (xs ++ ys)) → Q (.ref p) H') : rCatA K (.ref a) (.ref b) H Q :=
  ⟨a, b, xs, ys, rfl, rfl, st_of h, st_of h', size_ok hz, fun e => k b H (Same.refl _) (by rw [e]; exact h'), fun _ e => k a H (Same.refl _) (by rw [e, List.append_nil]; exact h), fun _ _ p hp => k p _ (same_new hp) upd_same⟩
theorem x_repB {xs : List V} {n : Int} (h : H a = some (.tup xs)) (hne : xs ≠ []) (hz : xs.length ≤ 1000) (hn : 1 ≤ n ∧ n ≤ 1000) (k : ∀ p H', Same H H' → H' p = some (.tup (List.replicate n.toNat xs).flatten) → Q (.ref p) H') : nRepT K (.ref a) (.int n) H Q := by
  refine ⟨a, n, xs, rfl, rfl, st_of h, hne, hz, ?_⟩
  by_cases e : n = 1
  · subst e
    refine .inl ⟨rfl, k a H (Same.refl _) ?_⟩
    rw [h]
    simp
  · exact .inr ⟨by omega, hn.2, fun p hp => k p _ (same_new hp) upd_same⟩
theorem repS_len {z : Str} {n : Int} (h : 2 ≤ n) (hz : 1 ≤ z.length) : (repS z n).length = n.toNat * z.length := by
  unfold repS
  rw [if_neg (by omega), if_neg]
  · show ((List.replicate n.toNat z.cps).foldl (· ++ ·) #[]).size = _
    rw [PySem.size_reps]
    show 0 + n.toNat * z.cps.size = n.toNat * z.length
    rw [Nat.zero_add]
    rfl
  · rw [Bool.or_eq_true, beq_iff_eq, beq_iff_eq]
    omega
end
/-- a def with defaults that lets nothing out -/
theorem okD {P : Program} {w : World} {K : PySem.W.Frag} {mg : Str → Option Value} {base : Heap} {x qual : Str} {pr : Arguments} {body : List Stmt} {sc : Scope} {dvs : List V} {kws : List (Str × V)} {f : Addr} {fd : FuncData} {N ps : List Str} {k : Nat} {sp : Sp}
    (F : FunD K x qual pr body sc dvs kws f fd) (S : FnScope N ps sc) (len : ∀ vs H Q E, sp vs H Q E → vs.length = ps.length)
    (hb : ∀ (cdv : Value) (A : Around) (outer : List Env) (s : Shared) (H : Hp) (vs : List V) (Q : VK) (E : XK), Room k (A.deeper (envOfC qual sc s.heap.objs.size f cdv)) → sp vs H Q E →
      ∃ t, PSs (cxOf CX0 P w K mg base N qual sc f cdv A outer s H E).nox body t ∧ t { nx := fun _ H' => Q .non H', rt := Q } (start N vs) H) : FnOk P w K mg base CX0 (k + 1) f fd ps sp :=
  F.ok S len fun cdv A outer s H vs Q E hr h => by
    obtain ⟨t, h1, q⟩ := hb cdv A outer s H vs Q E hr h
    exact ⟨t, h1.nox, q⟩
theorem funD_mk {K : PySem.W.Frag} {x qual : Str} {st : Stmt} {f dT : Addr} {oc : Value} {od an : Option Addr} {osl : Array (Option Value)} {kV doc pm cdv ct : Value} {dvs : List V} {o : Obj} {its : List Value} {n : Nat}
    (l : K.lookup f = some ⟨oc, od, .func (PySem.W.fnOf x qual (defArgs st) (defBody st) (defScope st) (.ref dT) kV doc pm an cdv ct), osl⟩) (c : PySem.W.codeIn K cdv qual = true) (k : PySem.W.keepIn K (.ref f) = true)
    (hd : dvs ≠ []) (lT : K.lookup dT = some o) (oT : o.data = .seq its.toArray n) (r : Vals dvs its) :
    FunD K x qual (defArgs st) (defBody st) (defScope st) dvs [] f (PySem.W.fnOf x qual (defArgs st) (defBody st) (defScope st) (.ref dT) kV doc pm an cdv ct) :=
  ⟨⟨oc, od, .ref dT, kV, doc, pm, an, cdv, ct, osl, rfl, l, c, .inr ⟨hd, dT, o, its, n, rfl, lT, oT, r⟩, .inl rfl⟩, k⟩
/-- dict(d) -/
def rDictD (xs : List V) (H : Hp) (Q : VK) : Prop := ∃ (a : Addr) (kvs : List (Key × V)), xs = [.ref a] ∧ Rd H a (.dK kvs) ∧ ∀ p, H p = none → Q (.ref p) (upd H p (.dK kvs))
theorem k_dictD {X : Cx} : CallR X (.type "dict") rDictD := call_dictD
theorem x_rDictD {a : Addr} {H : Hp} {Q : VK} {kvs : List (Key × V)} (h : H a = some (.dK kvs)) (k : ∀ p H2, Fr p H → Same H H2 → H2 p = some (.dK kvs) → Q (.ref p) H2) : rDictD [.ref a] H Q := ⟨a, kvs, rfl, .inl h, x_new1 k⟩
end Xk
/-! zip of a tuple and a list -/
namespace Xk
open PySem PySem.Spec PyProof.Rows L2
/-- a tuple at p and a list at q, side by side -/
def ItTL (K : PySem.W.Frag) (p q : Addr) : It where
  go := fun n H => ∃ (us vs : List V) (u v : V), SqT K H p us ∧ SqL K H q vs ∧ us[n]? = some u ∧ vs[n]? = some v
  yld := fun n H r H' => ∃ T u v, r = .ref T ∧ H T = none ∧ H' = upd H T (.tup [u, v]) ∧ (∀ us, SqT K H p us → us[n]? = some u) ∧ ∀ vs, SqL K H q vs → vs[n]? = some v
  stop := fun n H => ∃ us vs : List V, SqT K H p us ∧ SqL K H q vs ∧ n ≤ us.length ∧ n ≤ vs.length ∧ (n = us.length ∨ n = vs.length)
/-- what stands behind such an iterator -/
def AtTL (z t o i j p q : Addr) (n : Nat) (h : Heap) : Prop :=
  IsZip h z t o .none ∧ IsPair h t (.ref i) (.ref j) ∧ (∃ u v, IsPair h o u v) ∧ h.IsTupleIter i p n ∧ h.IsListIter j q n
theorem sepTL {z t o i j p q : Addr} (D : ZipApart z t o i j p q) : ZipSep2 z t o i j [i, p] [j, q] where
  TIz := D.TIz
  TOz := D.TOz
  TITO := D.TITO
  TIi1 := D.TIi1
  mem1 := List.mem_cons_self
  zf1 := by simp [D.i1z.symm, D.l1z.symm]
  Tf1 := by simp [D.TOi1, D.l1TO.symm]
  TIi2 := D.TIi2
  mem2 := List.mem_cons_self
  zf2 := by simp [D.i2z.symm, D.l2z.symm]
  Tf2 := by simp [D.TOi2, D.l2TO.symm]
  sep1_2 := by simp [D.i12, D.l2i1.symm]
  sep2_1 := by simp [D.i12.symm, D.l1i2.symm]
theorem five {c z t o i j : Addr} {P : Addr → Prop} (h : c ∈ [z, t, o, i, j]) (h1 : P z) (h2 : P t) (h3 : P o) (h4 : P i) (h5 : P j) : P c := by
  simp only [List.mem_cons, List.not_mem_nil, or_false] at h
  rcases h with rfl | rfl | rfl | rfl | rfl <;> assumption
theorem turnTL {P : Program} {w : World} {K : PySem.W.Frag} {es : List Expr} {k : Nat} {pos : Pos} {z t o i j p q : Addr} (D : ZipApart z t o i j p q) :
    Turn P w K (.Tuple es k pos) (ItTL K p q) [z, t, o, i, j] z (AtTL z t o i j p q) where
  mem := List.mem_cons_self
  obj := fun n h st c hc => by
    obtain ⟨g1, g2, ⟨u, v, g3⟩, ⟨o1, e1, _, d1⟩, ⟨o2, e2, _, d2⟩⟩ := st
    refine five (P := fun c => ∃ ob, h.get? c = some ob ∧ ∀ v, ob.data ≠ .cell v) hc ⟨_, g1, fun _ e => nomatch e⟩ ⟨_, g2, fun _ e => nomatch e⟩ ⟨_, g3, fun _ e => nomatch e⟩ ⟨o1, e1, fun x e => ?_⟩ ⟨o2, e2, fun x e => ?_⟩
    · rw [d1] at e
      cases e
    · rw [d2] at e
      cases e
  keep := fun n h h' st g => by
    obtain ⟨g1, g2, ⟨u, v, g3⟩, g4, g5⟩ := st
    exact ⟨g z (by simp) _ g1, g t (by simp) _ g2, ⟨u, v, g o (by simp) _ g3⟩, g4.at fun ob e => g i (by simp) ob e, g5.at fun ob e => g j (by simp) ob e⟩
  item := by
    intro X hP hw hK hc n pins s σ H E I hf st hg
    subst hP hw hK
    obtain ⟨g1, g2, ⟨u0, v0, g3⟩, g4, g5⟩ := st
    obtain ⟨us, vs, u, v, hus, hvs, hu, hv⟩ := hg
    obtain ⟨its, r1, p1, _⟩ := I.tuple hus
    obtain ⟨its2, r2, p2, _⟩ := I.list hvs
    obtain ⟨x, hx, rx⟩ := r1.get hu
    obtain ⟨y, hy, ry⟩ := r2.get hv
    have lt1 : n < its.toArray.size := by
      obtain ⟨b, _⟩ := List.getElem?_eq_some_iff.mp hx
      simpa using b
    have lt2 : n < its2.toArray.size := by
      obtain ⟨b, _⟩ := List.getElem?_eq_some_iff.mp hy
      simpa using b
    have hzl : z < s.heap.objs.size := Heap.lt_size g1
    have hh : X.A.in1.handled = none := I.ok.hd hc
    refine wpAny_pyNext_zipD2_item (sepTL D) (Draws.tuple hh i p D.l1i1 its.toArray) (Draws.list hh j q D.l2i2 its2.toArray) g1 g2 g3 ⟨g4, p1⟩ ⟨g5, p2.isList⟩ lt1 lt2 fun x1 y1 h' tk q1 q2 z' o' st1 st2 hT hsz hk => ?_
    have ex : x1 = x := by
      have e2 : its[n]? = some x1 := by simpa using q1
      exact Option.some.inj (e2.symm.trans hx)
    have ey : y1 = y := by
      have e2 : its2[n]? = some y1 := by simpa using q2
      exact Option.some.inj (e2.symm.trans hy)
    subst ex ey
    refine ⟨_, rfl, wpAny_letOwnedTupleGo_zip (s := { s with heap := h', toks := tk }) z' fun h2 z2 sb => ?_⟩
    have hT2 : h2.get? s.heap.objs.size = some { cls := .type "tuple", data := .seq #[x1, y1] } := (sb.2 _ (Nat.ne_of_gt hzl)).trans hT
    have new : ObjOk X.prog X.w (upd H s.heap.objs.size (.tup [u, v])) h2 s.heap.objs.size (.tup [u, v]) :=
      ⟨by show 2 ≤ sizeLine; decide, [x1, y1], .cons rx (.cons ry .nil), ⟨_, hT2, rfl, _, rfl⟩⟩
    have kept : ∀ c ob, c ∉ [z, t, o, i, j] → s.heap.get? c = some ob → h2.get? c = some ob := fun c ob nc e => by
      simp only [List.mem_cons, List.not_mem_nil, or_false, not_or] at nc
      exact (sb.2 c nc.1).trans (hk c ob nc.1 nc.2.2.1 nc.2.2.2.1 nc.2.2.2.2 e)
    have I1 : Inv X pins σ (upd H s.heap.objs.size (.tup [u, v])) { s with heap := h2, toks := tk } :=
      I.turnedNew (t' := tk) (ch := [z, t, o, i, j]) kept hf (Nat.le_refl _) new
    refine ⟨.ref s.heap.objs.size, _, I1, rfl, ⟨_, u, v, rfl, I.hok.fresh (Nat.le_refl _), rfl, fun l hl => ?_, fun l hl => ?_⟩, ⟨z2, ?_, ⟨x1, y1, ?_⟩, ?_, ?_⟩, fun c hcm => ?_⟩
    · rw [I.tuple_inj hl hus]
      exact hu
    · rw [I.list_inj hl hvs]
      exact hv
    · exact (sb.2 _ D.TIz).trans (hk t _ D.TIz D.TITO D.TIi1 D.TIi2 g2)
    · exact (sb.2 _ D.TOz).trans o'
    · exact st1.1.at fun ob e => (sb.2 _ D.i1z).trans e
    · exact st2.1.at fun ob e => (sb.2 _ D.i2z).trans e
    · have lt : c < s.heap.objs.size := by
        refine five (P := fun c => c < s.heap.objs.size) hcm hzl (Heap.lt_size g2) (Heap.lt_size g3) ?_ ?_
        · obtain ⟨_, e1, _⟩ := g4
          exact Heap.lt_size e1
        · obtain ⟨_, e1, _⟩ := g5
          exact Heap.lt_size e1
      rw [upd_ne (Nat.ne_of_lt lt)]
      exact (hf c hcm).1
  done := by
    intro X hP hw hK hc n pins s σ H E I hf st hg
    subst hP hw hK
    obtain ⟨g1, g2, ⟨u0, v0, g3⟩, g4, g5⟩ := st
    obtain ⟨us, vs, hus, hvs, le1, le2, hend⟩ := hg
    obtain ⟨its, r1, p1, _⟩ := I.tuple hus
    obtain ⟨its2, r2, p2, _⟩ := I.list hvs
    have l1 : its.toArray.size = us.length := by rw [List.size_toArray, r1.length]
    have l2 : its2.toArray.size = vs.length := by rw [List.size_toArray, r2.length]
    have hh : X.A.in1.handled = none := I.ok.hd hc
    exact wpAny_pyNext_zipD2_end (sepTL D) (Draws.tuple hh i p D.l1i1 its.toArray) (Draws.list hh j q D.l2i2 its2.toArray) g1 g2 g3 ⟨g4, p1⟩ ⟨g5, p2.isList⟩ (by omega) (by omega) (by omega) fun h' tk hk =>
      ⟨rfl, I.turnedL (t' := tk) (ch := [z, t, o, i, j]) (fun c ob nc e => by
        simp only [List.mem_cons, List.not_mem_nil, or_false, not_or] at nc
        exact hk c ob nc.1 nc.2.2.1 nc.2.2.2.1 nc.2.2.2.2 e) hf⟩
  self := fun A n s Q E st h => wpAny_pyIter_zip st.1 h
/-- zip(e, e2), e a tuple and e2 a list -/
def iTL (K : PySem.W.Frag) (ta : TA) : TI := fun σ H R => ta σ H fun vs H1 => ∃ p q us ws, vs = [.ref p, .ref q] ∧ SqT K H1 p us ∧ SqL K H1 q ws ∧ R (ItTL K p q) H1
theorem pi_TL {X : Cx} {e e2 : Expr} {ta : TA} {p1 pos tpos : Pos} {es : List Expr} {k : Nat} (hg : Gl X "zip") (hm : X.mg "zip" = none) (ha : PA X [e, e2] ta)
    (hs : starEach [e, e2] X.env = (false, eval e X.env) :: starEach [e2] X.env := by rfl) (hpl : (backTo pos (starEach [e2] X.env)).any (·.1) = false := by rfl) :
    PI X (.Tuple es k tpos) (.Call (.Name "zip" p1) [e, e2] [] pos) (iTL X.K ta) := by
  refine ⟨fun pins s σ H R I h => Call_ (ld_blt I hg hm PyProof.Rows.boot_zip (PyProof.Rows.callWith_type1 (thn (ha.run pos pins s σ H _ I h) fun us s1 ⟨vs, H1, I1, r1, q1⟩ => ?_) hs hpl))⟩
  obtain ⟨p, q, xs, ys, rfl, hx, hy, g⟩ := q1
  have e3 : us = [.ref p, .ref q] := by
    cases r1 with
    | cons a b =>
      cases b with
      | cons c d =>
        cases d
        cases a
        cases c
        rfl
  subst e3
  obtain ⟨its, rx, px, _⟩ := I1.tuple hx
  obtain ⟨its2, ry, py, _⟩ := I1.list hy
  have lp : p < s1.heap.objs.size := by
    obtain ⟨_, e1, _⟩ := id px
    exact Heap.lt_size e1
  refine zip_begins2 (begins_tuple p its.toArray) (begins_list q its2.toArray) px py.isList fun h' hz hTI hTO h1 h2 hsz hk => wpAny_pyIter_zip hz ?_
  have I2 : Inv X pins σ H1 { s1 with heap := h' } := I1.kept (t' := s1.toks) hk
  refine ⟨s1.heap.objs.size + 4, [s1.heap.objs.size + 4, s1.heap.objs.size + 2, s1.heap.objs.size + 3, s1.heap.objs.size, s1.heap.objs.size + 1], _, _, H1, rfl, I2,
    turnTL (PySem.W.ktu_apart s1.heap.objs.size p q lp py.lt), ⟨hz, hTI, ⟨_, _, hTO⟩, ⟨_, h1, rfl, rfl⟩, ⟨_, h2, rfl, rfl⟩⟩, fun c hcm => ?_, g⟩
  have le : s1.heap.objs.size ≤ c := five (P := fun c => s1.heap.objs.size ≤ c) hcm (Nat.le_add_right _ _) (Nat.le_add_right _ _) (Nat.le_add_right _ _) (Nat.le_refl _) (Nat.le_add_right _ _)
  exact I1.fpOk le (I1.hok.fresh le)
/-- a comprehension over it -/
theorem walkTL {K : PySem.W.Frag} {p q : Addr} {us vs : List V} (e : us.length = vs.length) : Walk (ItTL K p q) us.length (fun H => SqT K H p us ∧ SqL K H q vs) (YPair (fun n => us[n]?) (fun n => vs[n]?)) := by
  refine ⟨fun n _ hn g => ?_, fun _ g => ⟨us, vs, g.1, g.2, Nat.le_refl _, by omega, .inl rfl⟩, fun n H v H' _ g y => ?_⟩
  · have h2 : n < vs.length := by omega
    exact ⟨us, vs, us[n], vs[n], g.1, g.2, List.getElem?_eq_getElem hn, List.getElem?_eq_getElem h2⟩
  · obtain ⟨T, x, z, h1, h2, h3, h4, h5⟩ := y
    exact ⟨T, x, z, h1, h2, h3, h4 us g.1, h5 vs g.2⟩
end Xk
section
open PySem PySem.Spec PyProof.Rows L2
namespace Xk
variable {K : PySem.W.Frag} {σ : L2.St} {H : Hp} {Q : VK} {te : TE} {g : TG} {t : TT} {X : Cx}
theorem k_TL {e e2 : Expr} {ta : TA} {p1 pos tpos : Pos} {es : List Expr} {k : Nat} (hk : X.K = K) (hg : Gl X "zip") (hm : X.mg "zip" = none) (ha : PA X [e, e2] ta)
    (hs : starEach [e, e2] X.env = (false, eval e X.env) :: starEach [e2] X.env := by rfl) (hpl : (backTo pos (starEach [e2] X.env)).any (·.1) = false := by rfl) :
    PI X (.Tuple es k tpos) (.Call (.Name "zip" p1) [e, e2] [] pos) (iTL K ta) := hk ▸ pi_TL hg hm ha hs hpl
def rLcZ (K : PySem.W.Frag) (g : TG) (tt : TT) (te : TE) (vs : List Nat) (σ : L2.St) (Q : VK) : List V → Hp → Prop := fun zs H1 => ∃ p q us ws, zs = [.ref p, .ref q] ∧ SqT K H1 p us ∧ SqL K H1 q ws ∧ RLc (ItTL K p q) g tt te vs σ Q H1
theorem x_lcZ1 {tr : TA} {vs : List Nat} (q : tr σ H (rLcZ K g t te vs σ Q)) : tLc (iTL K tr) g t te vs σ H Q := q
theorem x_lcZ {a b : Addr} {us ws : List V} {vs : List Nat} (Pv : Addr → Nat → Hp → Prop) (e : us.length = ws.length) (hx : SqT K H a us) (hy : SqL K H b ws) (h0 : ∀ Dl, Fr Dl H → Pv Dl 0 (upd H Dl (.lst [])))
    (hl : ∀ Dl i H', Fr Dl H → Pv Dl i H' → SqT K H' a us ∧ SqL K H' b ws)
    (hs : ∀ Dl, Fr Dl H → ∀ i x y H1 T H', us[i]? = some x → ws[i]? = some y → Pv Dl i H1 → Fr T H1 → Same H1 H' → H' T = some (.tup [x, y]) → g (.ref T) (wipe σ vs) H' fun σ2 H2 => wipe σ2 vs = wipe σ vs ∧ t σ2 H2 fun c H3 =>
      if c = true then te σ2 H3 fun y H4 => ∃ acc, H4 Dl = some (.lst acc) ∧ acc.length < sizeLine ∧ Pv Dl (i + 1) (upd H4 Dl (.lst (acc ++ [y]))) else Pv Dl (i + 1) H3)
    (hd : ∀ Dl H', Fr Dl H → Pv Dl us.length H' → Q (.ref Dl) H') : rLcZ K g t te vs σ Q [.ref a, .ref b] H := ⟨a, b, us, ws, rfl, hx, hy, fun Dl hD =>
  lc_it (walkTL e) (Pv Dl) (h0 Dl ⟨hD⟩) (fun i H' _ p => hl Dl i H' ⟨hD⟩ p) (fun i x H1 H' hi p y => by
    obtain ⟨T, u, v, rfl, hT, rfl, e1, e2⟩ := y
    exact hs Dl ⟨hD⟩ i u v H1 T _ e1 e2 p ⟨hT⟩ (same_new hT) upd_same) (fun H' p => hd Dl H' ⟨hD⟩ p)⟩
/-- texts in order -/
def nLtS : R2 := fun x y H Q => ∃ i j, x = .str i ∧ y = .str j ∧ Q (.bl (decide (i.cps.toList < j.cps.toList))) H
def nLeS : R2 := fun x y H Q => ∃ i j, x = .str i ∧ y = .str j ∧ Q (.bl (!decide (j.cps.toList < i.cps.toList))) H
theorem op_nLtS : OpR X (compareOp .Lt) nLtS := op_lt_str
theorem op_nLeS : OpR X (compareOp .LtE) nLeS := op_le_str
def rPar (i j : Nat) (σ : L2.St) (R : L2.St → Hp → Prop) : List V → Hp → Prop := fun vs H1 => ∃ v w, vs = [v, w] ∧ R ((σ.set i (some v)).set j (some w)) H1
theorem x_spar {i j : Nat} {ta : TA} {tz : TS} {D : Ends} (q : ta σ H (rPar i j σ (tz D))) : tSeq (tPar i j ta) tz D σ H := q
theorem x_par {i j : Nat} {ta : TA} {D : Ends} (q : ta σ H (rPar i j σ D.nx)) : tPar i j ta D σ H := q
theorem x_rPar {i j : Nat} {R : L2.St → Hp → Prop} {v u : V} (q : R ((σ.set i (some v)).set j (some u)) H) : rPar i j σ R [v, u] H := ⟨v, u, rfl, q⟩
def nGeS : R2 := fun x y H Q => ∃ i j, x = .str i ∧ y = .str j ∧ Q (.bl (!decide (i.cps.toList < j.cps.toList))) H
theorem op_nGeS : OpR X (compareOp .GtE) nGeS := op_ge_str
theorem x_nGeS {i j : Str} (q : Q (.bl (!decide (i.cps.toList < j.cps.toList))) H) : nGeS (.str i) (.str j) H Q := ⟨i, j, rfl, rfl, q⟩
theorem x_nLtS {i j : Str} (q : Q (.bl (decide (i.cps.toList < j.cps.toList))) H) : nLtS (.str i) (.str j) H Q := ⟨i, j, rfl, rfl, q⟩
theorem x_nLeS {i j : Str} (q : Q (.bl (!decide (j.cps.toList < i.cps.toList))) H) : nLeS (.str i) (.str j) H Q := ⟨i, j, rfl, rfl, q⟩
theorem x_ext {l b : Addr} {xs zs : List V} (h : H l = some (.lst xs)) (h' : H b = some (.lst zs)) (hz : xs.length + zs.length ≤ 100000) (q : Q .non (upd H l (.lst (xs ++ zs)))) : rExtend (.ref l) [.ref b] H Q := ⟨l, b, xs, zs, rfl, rfl, h, h', size_ok hz, q⟩
theorem x_sortS {a : Addr} {xs : List Str} (h : SqL K H a (xs.map V.str)) (hl : xs.length < 64) (k : ∀ p H2 (ys : List Str), ys.Perm xs → sortedS ys = true → Fr p H → Same H H2 → H2 p = some (.lst (ys.map V.str)) → Q (.ref p) H2) : rSortedS K [.ref a] H Q :=
  ⟨a, xs, rfl, h, hl, fun ys p h1 h2 hp => k p _ ys h1 h2 ⟨hp⟩ (same_new hp) upd_same⟩
end Xk
end
namespace Xk
open PySem PySem.Spec PyProof.Rows L2
theorem k_fld {X : Cx} {K : PySem.W.Frag} {e : Expr} {f : Str} {pos : Pos} {ta : TE} (hk : X.K = K) (he : PE X e ta) (hb : attributeBase e f X.env (eval e X.env) = eval e X.env) : PE X (.Attribute e f pos) (tFld K ta f) := hk ▸ pe_fld he hb
end Xk
namespace Xk
open PySem PySem.Spec PyProof.Rows L2
def rSubSl (x v : V) (l u : Option Int) (σ : L2.St) (R : L2.St → Hp → Prop) : Hp → Prop := fun H3 => ∃ (a b : Addr) (xs ys : List V) (i j : Int), x = .ref a ∧ v = .ref b ∧ l = some i ∧ u = some j ∧
  H3 a = some (.lst xs) ∧ H3 b = some (.lst ys) ∧ a ≠ b ∧ 0 ≤ i ∧ i ≤ j ∧ j ≤ xs.length ∧ xs.length + ys.length ≤ sizeLine ∧ R σ (upd H3 a (.lst (xs.take i.toNat ++ ys ++ xs.drop j.toNat)))
theorem x_gSubSl {to : TE} {tl th : TO} {v : V} {σ : L2.St} {H : Hp} {R : L2.St → Hp → Prop} (q : to σ H fun x H1 => tl σ H1 fun l H2 => th σ H2 fun u H3 => rSubSl x v l u σ R H3) : gSubSl to tl th v σ H R := q
theorem x_rSubSl {a b : Addr} {xs ys : List V} {i j : Int} {n m : Nat} {σ : L2.St} {H : Hp} {R : L2.St → Hp → Prop} (h : H a = some (.lst xs)) (h' : H b = some (.lst ys)) (ne : a ≠ b) (hi : i = (n : Int)) (hj : j = (m : Int)) (nm : n ≤ m) (hm : m ≤ xs.length) (hz : xs.length + ys.length ≤ 100000)
    (q : R σ (upd H a (.lst (xs.take n ++ ys ++ xs.drop m)))) : rSubSl (.ref a) (.ref b) (some i) (some j) σ R H := by
  refine ⟨a, b, xs, ys, i, j, rfl, rfl, rfl, rfl, h, h', ne, by omega, by omega, by omega, size_ok hz, ?_⟩
  rw [hi, hj, Int.toNat_natCast, Int.toNat_natCast]
  exact q
end Xk
/-! enumerate of a tuple -/
namespace Xk
open PySem PySem.Spec PyProof.Rows L2
theorem wp_ite {M : Model} {A : Around} {E : Value → Shared → Prop} {s : Shared} {α : Type} {c : Prop} [Decidable c] {a b : Sem α} {Q : α → Shared → Prop} (h1 : wpAny M A a Q E s) (h2 : wpAny M A b Q E s) : wpAny M A (if c then a else b) Q E s := by
  by_cases h : c
  · exact wpAny_ite_true (decide_eq_true h) h1
  · exact wpAny_ite_false (decide_eq_false h) h2
theorem enumT0 {prog : Program} {w : World} {A : Around} {E : Value → Shared → Prop} {R : Fin → Shared → Prop} {s : Shared} {v : Value} {o : Obj} {H : Heap → Prop} (b : Begins v o H) (h1 : H s.heap)
  (h2 : R (Fin.done (Flow.ret (Value.ref (s.heap.push o).objs.size)))
        { heap := (s.heap.push o).push { cls := Value.type "enumerate", data := Data.fields #[Value.none, Value.bool false, Value.ref s.heap.objs.size, rawInt 0, Value.none, Value.none] },
          gens := s.gens, drawn := s.drawn, toks := s.toks, os := s.os }) :
  wpAny (model prog w) A (do
      let it ← pyIter v
      let r ← Builtin.SmallTypes.newRecord (Value.type "enumerate") (Builtin.SmallTypes.ownedTupleFields ++ [it, rawInt 0, Value.none, Value.none])
      ret r) R E s := by
  refine wpAny_bind (b.iter prog w A _ s _ h1 ?_)
  refine wpAny_bind ?_
  refine wpAny_bind (wpAny_alloc' ?_)
  refine wpAny_pure ?_
  exact wpAny_pure h2
theorem enumT1 {v : Value} {o : Obj} {H : Heap → Prop} (b : Begins v o H) : Meets (Builtin.«enumerate.__new__» { pos := [.type "enumerate", v] }) fun A R s => H s.heap ∧
   R (Except.ok (Flow.ret (Value.ref (s.heap.push o).objs.size)))
        { heap := (s.heap.push o).push { cls := Value.type "enumerate", data := Data.fields #[Value.none, Value.bool false, Value.ref s.heap.objs.size, rawInt 0, Value.none, Value.none] },
          gens := s.gens, drawn := s.drawn, toks := s.toks, os := s.os } := by
  intro prog w A R s hs
  obtain ⟨h1, h2⟩ := hs
  refine wpAny_bind ?_
  refine wpAny_bind ?_
  refine wpAny_of_eq (a := true) rfl ?_
  refine wpAny_ite_false rfl ?_
  refine wpAny_bind ?_
  refine wpAny_of_eq sub_enumerate ?_
  refine wpAny_ite_false rfl ?_
  refine wpAny_pure ?_
  refine wpAny_ite_true (by decide) ?_
  refine wpAny_bind ?_
  refine wpAny_bind (wpAny_stack_any fun st => wpAny_pure ?_)
  refine wp_ite ?_ ?_
  · refine wpAny_bind ?_
    refine wpAny_of_eq (a := (v, none)) rfl ?_
    exact enumT0 b h1 h2
  · refine wpAny_bind ?_
    refine wpAny_of_eq (a := (v, none)) rfl ?_
    exact enumT0 b h1 h2
theorem enum_one {prog : Program} {w : World} {A : Around} {E : Value → Shared → Prop} {s : Shared} {v : Value} {o : Obj} {H : Heap → Prop} {Q : Value → Shared → Prop} (b : Begins v o H) (h1 : H s.heap)
  (q : ∀ h' : Heap, IsEnum h' (s.heap.objs.size + 1) s.heap.objs.size 0 Value.none → h'.get? s.heap.objs.size = some o → h'.objs.size = s.heap.objs.size + 2 → (∀ (b : Addr) (o : Obj), s.heap.get? b = some o → h'.get? b = some o) →
     Q (Value.ref (s.heap.objs.size + 1)) { heap := h', gens := s.gens, drawn := s.drawn, toks := s.toks, os := s.os }) :
  wpAny (model prog w) A (call (Value.type "enumerate") [v]) Q E s := by
  refine callType_new F.called_enumerate (by decide) (F.typeCall_enumerate_1 v) (F.newCall_enumerate_1 v) (fun obj => F.args_object_init_2 obj v) F.entry_enumerate_new (enumT1 b) ⟨h1, ?_⟩
  have e1 : (s.heap.push o).objs.size = s.heap.objs.size + 1 := by rw [Heap.size_push]
  have g : ((s.heap.push o).push { cls := Value.type "enumerate", data := Data.fields #[Value.none, Value.bool false, Value.ref s.heap.objs.size, rawInt 0, Value.none, Value.none] }).get? (s.heap.push o).objs.size = some { cls := Value.type "enumerate", data := Data.fields #[Value.none, Value.bool false, Value.ref s.heap.objs.size, rawInt 0, Value.none, Value.none] } := Heap.get?_push_size _ rfl
  refine ⟨?_, ?_⟩
  · rw [e1] at g ⊢
    exact ⟨_, g, rfl⟩
  · rw [e1] at g ⊢
    refine q _ g ?_ (by rw [Heap.size_push, Heap.size_push]) fun b' o' e => Heap.get?_push_of_some _ (Heap.get?_push_of_some _ e)
    exact Heap.get?_push_of_some _ (Heap.get?_push_size _ b.free)
/-- a tuple at a, each item with its number -/
def ItET (K : PySem.W.Frag) (a : Addr) : It where
  go := fun i H => ∃ (xs : List V) (x : V), SqT K H a xs ∧ xs[i]? = some x
  yld := fun i H v H' => ∃ T x, v = .ref T ∧ H T = none ∧ H' = upd H T (.tup [.int (i : Nat), x]) ∧ ∀ xs : List V, SqT K H a xs → xs[i]? = some x
  stop := fun i H => ∃ xs : List V, SqT K H a xs ∧ i = xs.length
theorem turnET {P : Program} {w : World} {K : PySem.W.Frag} {es : List Expr} {k : Nat} {pos : Pos} {a e it : Addr} (d1 : e ≠ it) (d2 : a ≠ it) (d3 : e ≠ a) :
    Turn P w K (.Tuple es k pos) (ItET K a) [e, it] e (fun i h => (∃ old, IsEnum h e it (i : Nat) old) ∧ h.IsTupleIter it a i) where
  mem := List.mem_cons_self
  obj := fun n h st c hc => by
    obtain ⟨⟨old, g1⟩, ⟨o1, e1, _, dd1⟩⟩ := st
    simp only [List.mem_cons, List.not_mem_nil, or_false] at hc
    rcases hc with rfl | rfl
    · exact ⟨_, g1, fun _ e => nomatch e⟩
    · refine ⟨o1, e1, fun x e => ?_⟩
      rw [dd1] at e
      cases e
  keep := fun n h h' st g => by
    obtain ⟨⟨old, g1⟩, g2⟩ := st
    exact ⟨⟨old, g e (by simp) _ g1⟩, g2.at fun ob e => g it (by simp) ob e⟩
  item := by
    intro X hP hw hK hc n pins s σ H E I hf st hg
    subst hP hw hK
    obtain ⟨⟨old, g1⟩, g2⟩ := st
    obtain ⟨us, u, hus, hu⟩ := hg
    obtain ⟨its, r1, p1, _⟩ := I.tuple hus
    obtain ⟨x, hx, rx⟩ := r1.get hu
    have lt1 : n < its.toArray.size := by
      obtain ⟨b, _⟩ := List.getElem?_eq_some_iff.mp hx
      simpa using b
    have hzl : e < s.heap.objs.size := Heap.lt_size g1
    have hil : it < s.heap.objs.size := by
      obtain ⟨_, e1, _⟩ := id g2
      exact Heap.lt_size e1
    have hh : X.A.in1.handled = none := I.ok.hd hc
    refine wpAny_pyNext_enum_itemD (Draws.tuple hh it a d2 its.toArray) g1 ⟨g2, p1⟩ lt1 d1 (by simp [d1, d3]) fun x1 h' tk q1 eo st1 hT hsz hk => ?_
    have ex : x1 = x := by
      have e2 : its[n]? = some x1 := by simpa using q1
      exact Option.some.inj (e2.symm.trans hx)
    subst ex
    refine ⟨_, rfl, wpAny_letOwnedTupleGo_enum (s := { s with heap := h', toks := tk + 1 }) eo fun h2 z2 sb => ?_⟩
    have hT2 : h2.get? s.heap.objs.size = some { cls := .type "tuple", data := .seq #[Value.int (n : Nat) tk, x1] } := (sb.2 _ (Nat.ne_of_gt hzl)).trans hT
    have new : ObjOk X.prog X.w (upd H s.heap.objs.size (.tup [.int (n : Nat), u])) h2 s.heap.objs.size (.tup [.int (n : Nat), u]) :=
      ⟨by show 2 ≤ sizeLine; decide, [Value.int (n : Nat) tk, x1], .cons (by first | exact ⟨tk, rfl⟩ | exact rfl | constructor) (.cons rx .nil), ⟨_, hT2, rfl, _, rfl⟩⟩
    have kept : ∀ c ob, c ∉ [e, it] → s.heap.get? c = some ob → h2.get? c = some ob := fun c ob nc e => by
      simp only [List.mem_cons, List.not_mem_nil, or_false, not_or] at nc
      exact (sb.2 c nc.1).trans (hk c ob nc.1 nc.2 e)
    have I1 : Inv X pins σ (upd H s.heap.objs.size (.tup [.int (n : Nat), u])) { s with heap := h2, toks := tk + 1 } :=
      I.turnedNew (t' := tk + 1) (ch := [e, it]) kept hf (Nat.le_refl _) new
    refine ⟨.ref s.heap.objs.size, _, I1, rfl, ⟨_, u, rfl, I.hok.fresh (Nat.le_refl _), rfl, fun l hl => ?_⟩, ⟨⟨_, z2⟩, ?_⟩, fun c hcm => ?_⟩
    · rw [I.tuple_inj hl hus]
      exact hu
    · exact st1.1.at fun ob e => (sb.2 _ d1.symm).trans e
    · have lt : c < s.heap.objs.size := by
        simp only [List.mem_cons, List.not_mem_nil, or_false] at hcm
        rcases hcm with rfl | rfl
        · exact hzl
        · exact hil
      rw [upd_ne (Nat.ne_of_lt lt)]
      exact (hf c hcm).1
  done := by
    intro X hP hw hK hc n pins s σ H E I hf st hg
    subst hP hw hK
    obtain ⟨⟨old, g1⟩, g2⟩ := st
    obtain ⟨us, hus, rfl⟩ := hg
    obtain ⟨its, r1, p1, _⟩ := I.tuple hus
    have l1 : its.toArray.size = us.length := by rw [List.size_toArray, r1.length]
    have hh : X.A.in1.handled = none := I.ok.hd hc
    refine wpAny_pyNext_enum_endD (Draws.tuple hh it a d2 its.toArray) g1 (by rw [l1]; exact ⟨g2, p1⟩) fun h' hk => ?_
    exact ⟨rfl, I.turnedL (t' := s.toks) (ch := [e, it]) (fun c ob nc e => by
      simp only [List.mem_cons, List.not_mem_nil, or_false, not_or] at nc
      exact hk c ob nc.2 e) hf⟩
  self := fun A n s Q E st h => wpAny_pyIter_enum st.1.choose_spec h
/-- enumerate(e), e a tuple -/
def iET (K : PySem.W.Frag) (ta : TA) : TI := fun σ H R => ta σ H fun vs H1 => ∃ p us, vs = [.ref p] ∧ SqT K H1 p us ∧ R (ItET K p) H1
theorem pi_ET {X : Cx} {e : Expr} {ta : TA} {p1 pos tpos : Pos} {es : List Expr} {k : Nat} (hg : Gl X "enumerate") (hm : X.mg "enumerate" = none) (ha : PA X [e] ta)
    (hs : starEach [e] X.env = [(false, eval e X.env)] := by rfl) (hpl : (backTo pos (starEach [] X.env)).any (·.1) = false := by rfl) :
    PI X (.Tuple es k tpos) (.Call (.Name "enumerate" p1) [e] [] pos) (iET X.K ta) := by
  refine ⟨fun pins s σ H R I h => Call_ (ld_blt I hg hm PyProof.Rows.boot_enumerate (PyProof.Rows.callWith_type1 (thn (ha.run pos pins s σ H _ I h) fun us s1 ⟨vs, H1, I1, r1, q1⟩ => ?_) hs hpl))⟩
  obtain ⟨p, xs, rfl, hx, g⟩ := q1
  have e3 : us = [.ref p] := by
    cases r1 with
    | cons a b =>
      cases b
      cases a
      rfl
  subst e3
  obtain ⟨its, rx, px, _⟩ := I1.tuple hx
  have lp : p < s1.heap.objs.size := by
    obtain ⟨_, e1, _⟩ := id px
    exact Heap.lt_size e1
  refine enum_one (begins_tuple p its.toArray) px fun h' hz h1 hsz hk => wpAny_pyIter_enum hz ?_
  have I2 : Inv X pins σ H1 { s1 with heap := h' } := I1.kept (t' := s1.toks) hk
  refine ⟨s1.heap.objs.size + 1, [s1.heap.objs.size + 1, s1.heap.objs.size], _, _, H1, rfl, I2,
    turnET (Nat.succ_ne_self _) (Nat.ne_of_lt lp) (Nat.ne_of_gt (Nat.lt_succ_of_lt lp)), ⟨⟨_, hz⟩, ⟨_, h1, rfl, rfl⟩⟩, fun c hcm => ?_, g⟩
  have le : s1.heap.objs.size ≤ c := by
    simp only [List.mem_cons, List.not_mem_nil, or_false] at hcm
    rcases hcm with rfl | rfl
    · exact Nat.le_add_right _ _
    · exact Nat.le_refl _
  exact I1.fpOk le (I1.hok.fresh le)
/-- a comprehension over it -/
theorem walkET {K : PySem.W.Frag} {p : Addr} {us : List V} : Walk (ItET K p) us.length (fun H => SqT K H p us) (YPair (fun n => some (.int (n : Nat))) (fun n => us[n]?)) := by
  refine ⟨fun n _ hn g => ?_, fun _ g => ⟨us, g, rfl⟩, fun n H v H' _ g y => ?_⟩
  · exact ⟨us, us[n], g, List.getElem?_eq_getElem hn⟩
  · obtain ⟨T, x, h1, h2, h3, h4⟩ := y
    exact ⟨T, _, x, h1, h2, h3, rfl, h4 us g⟩
end Xk
section
open PySem PySem.Spec PyProof.Rows L2
namespace Xk
variable {K : PySem.W.Frag} {σ : L2.St} {H : Hp} {Q : VK} {te : TE} {g : TG} {t : TT} {X : Cx}
theorem k_ET {e : Expr} {ta : TA} {p1 pos tpos : Pos} {es : List Expr} {k : Nat} (hk : X.K = K) (hg : Gl X "enumerate") (hm : X.mg "enumerate" = none) (ha : PA X [e] ta)
    (hs : starEach [e] X.env = [(false, eval e X.env)] := by rfl) (hpl : (backTo pos (starEach [] X.env)).any (·.1) = false := by rfl) :
    PI X (.Tuple es k tpos) (.Call (.Name "enumerate" p1) [e] [] pos) (iET K ta) := hk ▸ pi_ET hg hm ha hs hpl
def rLcET (K : PySem.W.Frag) (g : TG) (tt : TT) (te : TE) (vs : List Nat) (σ : L2.St) (Q : VK) : List V → Hp → Prop := fun zs H1 => ∃ p us, zs = [.ref p] ∧ SqT K H1 p us ∧ RLc (ItET K p) g tt te vs σ Q H1
theorem x_lcET1 {tr : TA} {vs : List Nat} (q : tr σ H (rLcET K g t te vs σ Q)) : tLc (iET K tr) g t te vs σ H Q := q
theorem x_lcET {a : Addr} {us : List V} {vs : List Nat} (Pv : Addr → Nat → Hp → Prop) (hx : SqT K H a us) (h0 : ∀ Dl, Fr Dl H → Pv Dl 0 (upd H Dl (.lst [])))
    (hl : ∀ Dl i H', Fr Dl H → Pv Dl i H' → SqT K H' a us)
    (hs : ∀ Dl, Fr Dl H → ∀ i x H1 T H', us[i]? = some x → Pv Dl i H1 → Fr T H1 → Same H1 H' → H' T = some (.tup [.int (i : Nat), x]) → g (.ref T) (wipe σ vs) H' fun σ2 H2 => wipe σ2 vs = wipe σ vs ∧ t σ2 H2 fun c H3 =>
      if c = true then te σ2 H3 fun y H4 => ∃ acc, H4 Dl = some (.lst acc) ∧ acc.length < sizeLine ∧ Pv Dl (i + 1) (upd H4 Dl (.lst (acc ++ [y]))) else Pv Dl (i + 1) H3)
    (hd : ∀ Dl H', Fr Dl H → Pv Dl us.length H' → Q (.ref Dl) H') : rLcET K g t te vs σ Q [.ref a] H := ⟨a, us, rfl, hx, fun Dl hD =>
  lc_it walkET (Pv Dl) (h0 Dl ⟨hD⟩) (fun i H' _ p => hl Dl i H' ⟨hD⟩ p) (fun i x H1 H' hi p y => by
    obtain ⟨T, u, v, rfl, hT, rfl, e1, e2⟩ := y
    cases Option.some.inj e1
    exact hs Dl ⟨hD⟩ i v H1 T _ e2 p ⟨hT⟩ (same_new hT) upd_same) (fun H' p => hd Dl H' ⟨hD⟩ p)⟩
end Xk
end
/-! dict comprehensions over a tuple -/
section
open PySem PySem.Spec PyProof.Rows L2
namespace Xk
variable {K : PySem.W.Frag} {σ : L2.St} {H : Hp} {Q : VK} {tk tv : TE} {g : TG} {t : TT}
def RDc (J : It) (g : TG) (tt : TT) (tk tv : TE) (vs : List Nat) (σ : L2.St) (Q : VK) : Hp → Prop := fun H1 => ∀ D, H1 D = none → ∃ W : Nat → Nat → Hp → Prop, (∃ m, W 0 m (upd H1 D (.dK []))) ∧ ∀ i m H, W i m H →
  (J.stop i H ∧ Q (.ref D) H) ∨ (J.go i H ∧ ∃ Nx : Hp → Prop, (∀ H', Nx H' → ∃ m', m' < m ∧ W (i + 1) m' H') ∧ ∀ x H', J.yld i H x H' → g x (wipe σ vs) H' fun σ2 H2 => wipe σ2 vs = wipe σ vs ∧ tt σ2 H2 fun b H3 =>
    if b = true then tk σ2 H3 fun y H4 => tv σ2 H4 fun z H5 => ∃ kvs k, y = kV k ∧ H5 D = some (.dK kvs) ∧ kvs.length < sizeLine ∧ Nx (upd H5 D (.dK (putK kvs k z))) else Nx H3)
def rDcT (K : PySem.W.Frag) (g : TG) (tt : TT) (tk tv : TE) (vs : List Nat) (σ : L2.St) (Q : VK) : VK := fun x H1 => ∃ a, x = .ref a ∧ (∃ xs, SqT K H1 a xs) ∧ RDc (Itt K a) g tt tk tv vs σ Q H1
theorem x_dcT1 {tx : TE} {vs : List Nat} (q : tx σ H (rDcT K g t tk tv vs σ Q)) : tDc (iTup K tx) g t tk tv vs σ H Q := q
theorem x_dcT {a : Addr} {xs : List V} {vs : List Nat} (Pv : Addr → Nat → Hp → Prop) (hx : SqT K H a xs) (h0 : ∀ Dl, Fr Dl H → Pv Dl 0 (upd H Dl (.dK []))) (hl : ∀ Dl i H', Fr Dl H → Pv Dl i H' → SqT K H' a xs)
    (hs : ∀ Dl, Fr Dl H → ∀ i x H', xs[i]? = some x → Pv Dl i H' → g x (wipe σ vs) H' fun σ2 H2 => wipe σ2 vs = wipe σ vs ∧ t σ2 H2 fun b H3 =>
      if b = true then tk σ2 H3 fun y H4 => tv σ2 H4 fun z H5 => ∃ kvs k, y = kV k ∧ H5 Dl = some (.dK kvs) ∧ kvs.length < sizeLine ∧ Pv Dl (i + 1) (upd H5 Dl (.dK (putK kvs k z))) else Pv Dl (i + 1) H3)
    (hd : ∀ Dl H', Fr Dl H → Pv Dl xs.length H' → Q (.ref Dl) H') : rDcT K g t tk tv vs σ Q (.ref a) H := ⟨a, rfl, ⟨xs, hx⟩, fun Dl hD =>
  dc_tup (xs := xs) (Pv Dl) (h0 Dl ⟨hD⟩) (fun i H' _ p => hl Dl i H' ⟨hD⟩ p) (fun i x H' hi p => hs Dl ⟨hD⟩ i x H' hi p) (fun H' p => hd Dl H' ⟨hD⟩ p)⟩
end Xk
end
/-! sets of texts -/
namespace Xs
open PySem PySem.Spec PyProof.Rows L2
abbrev SK (P : Program) (w : World) := PySem.strKind P w
def txt (e : Int × Value) : Str := match e.2 with
  | .str z _ => z
  | _ => Str.empty
def Fine (P : Program) (w : World) (e : Int × Value) : Prop := ∃ z u, e.2 = Value.str z u ∧ e.1 = (SK P w).hash z
/-- the texts zs, in any order, are the set at a -/
def Txts (P : Program) (w : World) (h : Heap) (a : Addr) (zs : List Str) : Prop := ∃ ob rows ep tab, h.get? a = some ob ∧ ob.ExactSet ∧ ob.data = .set rows ep tab ∧ (∀ e ∈ rows.toList, Fine P w e) ∧
  (rows.toList.map txt).Perm zs ∧ zs.Nodup ∧ rows.size < scanBound ∧ tab.fits rows.size = true ∧ Ris tab.place.toList ∧ (w.params.followText "set-order" = true ∨ tab.led = true)
section
variable {P : Program} {w : World} {A : Around} {E : Value → Shared → Prop} {s : Shared} {a : Addr} {zs : List Str}
theorem Txts.at {h h' : Heap} (R : Txts P w h a zs) (k : ∀ ob, h.get? a = some ob → h'.get? a = some ob) : Txts P w h' a zs := by
  obtain ⟨ob, rows, ep, tab, g, rest⟩ := R
  exact ⟨ob, rows, ep, tab, k ob g, rest⟩
theorem is_self (z : Str) (u : Tok) : (SK P w).is z (.str z u) = true := by
  show Value.isStrOf z (.str z u) = true
  simp [Value.isStrOf]
theorem fine_elems {l : List (Int × Value)} (f : ∀ e ∈ l, Fine P w e) : ElemsOf (SK P w) l := fun e he => by
  obtain ⟨z, u, e1, e2⟩ := f e he
  refine ⟨⟨z, ?_, e2⟩, ?_⟩
  · rw [e1]
    exact is_self z u
  · rw [e1]
    rfl
theorem fine_is {e : Int × Value} (f : Fine P w e) (z : Str) : (SK P w).is z e.2 = true ↔ txt e = z := by
  obtain ⟨y, u, e1, _⟩ := f
  unfold txt
  rw [e1]
  constructor
  · intro q
    exact (SK P w).inj (.str y u) y z (is_self y u) q
  · intro q
    subst q
    exact is_self _ u
theorem fine_mem {l : List (Int × Value)} (f : ∀ e ∈ l, Fine P w e) (z : Str) : z ∈ l.map txt ↔ ∃ e ∈ l, (SK P w).is z e.2 = true := by
  rw [List.mem_map]
  constructor
  · rintro ⟨e, he, q⟩
    exact ⟨e, he, (fine_is (f e he) z).mpr q⟩
  · rintro ⟨e, he, q⟩
    exact ⟨e, he, (fine_is (f e he) z).mp q⟩
/-- the rows are stored, and laid anew if they are many -/
theorem stored {g : Bool → Sem Unit} (hg : ∀ (b : Bool) (s₁ : Shared) (Z : Unit → Shared → Prop), Z () s₁ → wpAny (model P w) A (g b) Z E s₁)
    {ob : Obj} {rows : Array (Int × Value)} {ep : Nat} {tab : SetTable} (ho : s.heap.get? a = some ob) (hex : ob.ExactSet) (hd : ob.data = .set rows ep tab)
    {rows1 : Array (Int × Value)} {tab2 : SetTable} {ys : List Str} (f1 : ∀ e ∈ rows1.toList, Fine P w e) (p1 : (rows1.toList.map txt).Perm ys) (nd : ys.Nodup)
    (lt : rows1.size < scanBound) (ft : tab2.fits rows1.size = true) (ri : Ris tab2.place.toList) (le : w.params.followText "set-order" = true ∨ tab2.led = true) {dum : Bool} {R : Option Bool → Shared → Prop}
    (hR : ∀ h', Heap.SameBut a s.heap h' → Txts P w h' a ys → R (some true) { s with heap := h' }) :
    wpAny (model P w) A (do
        storeSet a rows1 tab2
        if (!dum && tab2.tooFull) = true then do
            g (relayAll tab2 rows1 (SetTable.grown rows1.size)).2.2
            storeSet a (relayAll tab2 rows1 (SetTable.grown rows1.size)).1 (relayAll tab2 rows1 (SetTable.grown rows1.size)).2.1
            pure (some true)
          else pure (some true)) R E s := by
  have o1 := store_at (es' := rows1) (t' := tab2) ho hd
  have b1 := Heap.SameBut.update s.heap a (Obj.putSet rows1 tab2)
  refine wpAny_bind (wpAny_storeSet_of ho hd ?_ (fits_of_scanBound lt))
  split
  · have q1 := relayAll_perm tab2 rows1 (SetTable.grown rows1.size)
    have q2 := relayAll_fits tab2 rows1 (SetTable.grown rows1.size)
    have q3 := relayAll_ris tab2 rows1 (SetTable.grown rows1.size)
    have q4 := relayAll_led tab2 rows1 (SetTable.grown rows1.size)
    generalize relayAll tab2 rows1 (SetTable.grown rows1.size) = Z at q1 q2 q3 q4 ⊢
    obtain ⟨rows2, tab3, gv⟩ := Z
    dsimp only at q1 q2 q3 q4 ⊢
    have zz : rows2.size = rows1.size := by
      rw [← Array.length_toList, q1.length_eq, Array.length_toList]
    have lt2 : rows2.size < scanBound := by
      rw [zz]
      exact lt
    refine wpAny_bind (hg gv _ _ (wpAny_bind (wpAny_storeSet_of o1 rfl ?_ (fits_of_scanBound lt2))))
    have o2 := store_at (es' := rows2) (t' := tab3) o1 rfl
    refine wpAny_pure (hR _ (b1.trans (Heap.SameBut.update _ a _)) ⟨_, rows2, _, tab3, o2, hex, rfl, fun e he => f1 e (q1.mem_iff.mp he), (q1.map txt).trans p1, nd, lt2, q2, q3, ?_⟩)
    rcases le with z | z
    · exact .inl z
    · exact .inr (by rw [q4]; exact z)
  · exact wpAny_pure (hR _ b1 ⟨_, rows1, _, tab2, o1, hex, rfl, f1, p1, nd, lt, ft, ri, le⟩)
/-- a text is put in -/
theorem put {z : Str} {u : Tok} {Q : Bool → Shared → Prop} (R : Txts P w s.heap a zs) (room : zs.length + 1 < scanBound) (q1 : z ∈ zs → Q false s)
    (q2 : z ∉ zs → ∀ h', Heap.SameBut a s.heap h' → Txts P w h' a (z :: zs) → Q true { s with heap := h' }) : wpAny (model P w) A (setAddHashed a (.str z u) ((SK P w).hash z)) Q E s := by
  obtain ⟨ob, rows, ep, tab, ho, hex, hd, ff, pz, nd, lt, ft, ri, le⟩ := R
  have el : ElemsOf (SK P w) rows.toList := fine_elems ff
  have hz : (SK P w).is z (.str z u) = true := is_self z u
  have hsz : rows.size = zs.length := by
    rw [← Array.length_toList, ← pz.length_eq, List.length_map]
  unfold setAddHashed setAddHashedIn
  refine wpAny_holding (wpAny_bind (wpAny_setState_of ho hd ft ?_))
  dsimp only
  rw [byScan_of (x := .str z u) rfl lt el]
  simp only [↓reduceIte]
  unfold setAddByScan
  refine wpAny_bind (wpAny_bind (wpAny_rule (wpAny_bind (wpAny_setScan_of (knd := SK P w) hz ho hd ft el ?_))))
  cases fi : List.findIdx? (fun e => (SK P w).is z e.2) rows.toList with
  | some j =>
    dsimp only
    obtain ⟨hj, pj, _⟩ := List.findIdx?_eq_some_iff_getElem.mp fi
    have hm : z ∈ zs := pz.mem_iff.mp ((fine_mem ff z).mpr ⟨rows.toList[j], List.getElem_mem hj, pj⟩)
    exact wpAny_pure (wpAny_pure (q1 hm))
  | none =>
    dsimp only
    have hn : z ∉ zs := fun y => by
      obtain ⟨e, he, q⟩ := (fine_mem ff z).mp (pz.mem_iff.mpr y)
      have c := List.findIdx?_eq_none_iff.mp fi e he
      rw [q] at c
      cases c
    have gw : ∀ (b : Bool) {s₁ : Shared} {Z : Unit → Shared → Prop}, Z () s₁ → wpAny (model P w) A (match b with | true => rule "set.scan.the-table-gave-way" | false => pure ()) Z E s₁ := fun b s₁ Z q => by
      cases b
      · exact wpAny_pure q
      · exact wpAny_rule q
    have n1 := layNew_perm tab rows ((SK P w).hash z) (.str z u)
    have n2 := layNew_fits tab rows ((SK P w).hash z) (.str z u)
    have n3 := layNew_ris tab rows ((SK P w).hash z) (.str z u) ri
    have n4 := layNew_led tab rows ((SK P w).hash z) (.str z u)
    generalize layNew tab rows ((SK P w).hash z) (.str z u) = Z at n1 n2 n3 n4 ⊢
    obtain ⟨rows1, tab1, dum, gv⟩ := Z
    dsimp only at n1 n2 n3 n4 ⊢
    rw [Array.toList_push] at n1
    have pc : rows1.toList.Perm (((SK P w).hash z, Value.str z u) :: rows.toList) := n1.trans (List.perm_append_singleton _ _)
    have f1 : ∀ e ∈ rows1.toList, Fine P w e := fun e he => by
      rcases List.mem_cons.mp (pc.mem_iff.mp he) with y | y
      · exact ⟨z, u, by rw [y], by rw [y]⟩
      · exact ff e y
    have p1 : (rows1.toList.map txt).Perm (z :: zs) := (pc.map txt).trans (pz.cons z)
    have lt1 : rows1.size < scanBound := by
      have e : rows1.size = zs.length + 1 := by
        rw [← Array.length_toList, pc.length_eq, List.length_cons, Array.length_toList, hsz]
      omega
    have le1 : w.params.followText "set-order" = true ∨ tab1.led = true := by
      rcases le with y | y
      · exact .inl y
      · exact .inr (by rw [n4]; exact y)
    have nd1 : (z :: zs).Nodup := List.nodup_cons.mpr ⟨hn, nd⟩
    refine wpAny_bind (gw gv ?_)
    split
    · refine wpAny_bind ?_
      rw [hashByValue_scannable 8 (x := Value.str z u) rfl]
      refine wpAny_pure (stored (fun b s₁ Z q => ?_) ho hex hd f1 p1 nd1 lt1 ?_ ?_ ?_ fun h' sb r => ?_)
      · cases b
        · exact wpAny_pure q
        · exact wpAny_rule q
      · first | exact SetTable.fits_plain_off n2 | exact n2
      · exact n3
      · exact le1
      · dsimp only
        exact wpAny_pure (q2 hn h' sb r)
    · refine wpAny_bind (wpAny_pure ?_)
      simp only [↓reduceIte]
      refine stored (fun b s₁ Z q => ?_) ho hex hd f1 p1 nd1 lt1 n2 n3 le1 fun h' sb r => ?_
      · cases b
        · exact wpAny_pure q
        · exact wpAny_rule q
      · dsimp only
        exact wpAny_pure (q2 hn h' sb r)
/-- what was put in after i items -/
structure Sofar (xs : List Str) (i : Nat) (zs : List Str) : Prop where
  few : zs.length ≤ i
  mem : ∀ z, z ∈ zs ↔ z ∈ xs.take i
theorem Sofar.old {xs zs : List Str} {i : Nat} {z : Str} (g : Sofar xs i zs) (h : xs[i]? = some z) (hm : z ∈ zs) : Sofar xs (i + 1) zs := ⟨Nat.le_succ_of_le g.few, fun y => by
  rw [g.mem, List.take_add_one, h, List.mem_append]
  refine ⟨.inl, fun q => ?_⟩
  rcases q with q | q
  · exact q
  · rw [List.mem_singleton.mp q]
    exact (g.mem z).mp hm⟩
theorem Sofar.new {xs zs : List Str} {i : Nat} {z : Str} (g : Sofar xs i zs) (h : xs[i]? = some z) : Sofar xs (i + 1) (z :: zs) := ⟨Nat.succ_le_succ g.few, fun y => by
  rw [List.mem_cons, g.mem, List.take_add_one, h, List.mem_append]
  refine ⟨fun q => ?_, fun q => ?_⟩
  · rcases q with q | q
    · exact .inr (List.mem_singleton.mpr q)
    · exact .inl q
  · rcases q with q | q
    · exact .inr q
    · exact .inl (List.mem_singleton.mp q)⟩
/-- the loop that puts one item in after the other -/
theorem puts {I : Addr} {fp wr : List Addr} {G : Array GenState → Array GenState → Prop} {n : Nat} {Pv : Nat → Value → Prop} {St : Nat → Shared → Prop} {R : Result → Shared → Prop}
    (W : WalksS P w A.in1 I fp wr G n Pv St) (S : Addr) (out : S ∉ fp) (xs : List Str) (hn : n = xs.length) (room : n + 1 < scanBound) (val : ∀ i v, Pv i v → ∃ z u, xs[i]? = some z ∧ v = .str z u) :
    ∀ (m i : Nat) (s : Shared), n - i = m → i ≤ n → St i s → (∃ zs, Txts P w s.heap S zs ∧ Sofar xs i zs) →
      (∀ s' zs, Moved (S :: wr) G s s' → Txts P w s'.heap S zs → Sofar xs n zs → R (.ok (.ret .none)) s') → codeAny (model P w) A (.builtin "set.update.loop" ⟨[.ref S, .ref I], []⟩) R s := by
  have outw : S ∉ wr := fun z => out (W.sub _ z)
  have more : ∀ b ∈ wr, b ∈ S :: wr := fun b z => List.mem_cons_of_mem _ z
  intro m
  induction m with
  | zero =>
    rintro i s hm hi st ⟨zs, hZ, g⟩ hR
    obtain rfl : i = n := by omega
    refine codeAny_builtin PyProof.Rows.F.entry_set_update_loop ?_
    rw [Around.under_plainId PyProof.Rows.F.plain_set_update_loop _]
    show wpAny _ A.in1 (pyNext (.ref I) >>= _) _ _ s
    exact wpAny_bind (W.done s _ _ st fun s' mv => (wpAny_pure (hR s' zs (mv.mono more) (hZ.at fun ob e => mv.heap S ob outw e) g)))
  | succ m ih =>
    rintro i s hm hi st ⟨zs, hZ, g⟩ hR
    have lt : i < n := by omega
    refine codeAny_builtin PyProof.Rows.F.entry_set_update_loop ?_
    rw [Around.under_plainId PyProof.Rows.F.plain_set_update_loop _]
    show wpAny _ A.in1 (pyNext (.ref I) >>= _) _ _ s
    refine wpAny_bind (W.item i s _ _ lt st fun v s' hP st' mv => ?_)
    obtain ⟨z, u, hz, rfl⟩ := val i v hP
    have hZ' : Txts P w s'.heap S zs := hZ.at fun ob e => mv.heap S ob outw e
    have fw := g.few
    show wpAny _ A.in1 (holding [Value.str z u] (setAdd S (.str z u)) >>= _) _ _ s'
    refine wpAny_bind (wpAny_holding ?_)
    unfold setAdd
    refine wpAny_holding (wpAny_bind ((SK P w).pyHash (k := z) (is_self z u) ?_))
    refine put (s := { s' with toks := s'.toks + 1 }) hZ' (by omega) (fun hm2 => ?_) fun hm2 h' sb hZ2 => ?_
    · exact wpAny_pure ⟨plainId_quiet PyProof.Rows.F.plain_set_update_loop _, ih (i + 1) _ (by omega) lt (W.frame _ s' _ _ st' (Nat.le_succ _) fun b _ o e => e) ⟨zs, hZ', g.old hz hm2⟩ fun s2 ys mv2 r1 r2 =>
        hR s2 ys (Moved.trans W.gtrans ((mv.mono more).then_heap (Nat.le_succ _) fun b o _ e => e) mv2) r1 r2⟩
    · refine wpAny_pure ⟨plainId_quiet PyProof.Rows.F.plain_set_update_loop _, ih (i + 1) _ (by omega) lt (W.frame _ s' _ _ st' (Nat.le_succ _) fun b hb o e => ?_) ⟨z :: zs, hZ2, g.new hz⟩ fun s2 ys mv2 r1 r2 => ?_⟩
      · exact (sb.2 b fun y => out (y ▸ hb)).trans e
      · exact hR s2 ys (Moved.trans W.gtrans ((mv.mono more).then_heap (Nat.le_succ _) fun b o nb e => (sb.2 b fun y => nb (by rw [y]; exact List.mem_cons_self)).trans e) mv2) r1 r2
/-- a new set -/
theorem fresh {h : Heap} (ho : h.get? a = some { cls := .type "set", dict := none, data := .set #[] 0 (.fresh 0 0 (!w.params.followText "set-order")) }) : Txts P w h a [] :=
  ⟨_, #[], 0, _, ho, ⟨rfl, rfl, rfl⟩, rfl, fun e z => (by simp at z), .refl _, .nil, by decide, by rfl, .nil, by
    show w.params.followText "set-order" = true ∨ (!w.params.followText "set-order") = true
    cases w.params.followText "set-order" <;> simp⟩
abbrev newSet (w : World) : Obj := { cls := .type "set", dict := none, data := .set #[] 0 (.fresh 0 0 (!w.params.followText "set-order")) }
/-- set(l), l a list of texts -/
theorem made {l : Addr} {items : Array Value} {xs : List Str} {Q : Value → Shared → Prop} (hh : A.handled = none) (hl : s.heap.IsList l items) (hi : StrsAre items.toList xs) (room : xs.length + 1 < scanBound)
    (q : ∀ (h' : Heap) (tk : Nat) ys, Txts P w h' s.heap.objs.size ys → Sofar xs xs.length ys → (∀ b o, s.heap.get? b = some o → h'.get? b = some o) → Q (.ref s.heap.objs.size) { s with heap := h', toks := tk }) :
    wpAny (model P w) A (call (.type "set") [.ref l]) Q E s := by
  have isz : items.size = xs.length := by rw [← StrsAre.len_eq hi, Array.length_toList]
  obtain ⟨c, tl, hmro⟩ := PySem.F.called_set.mro
  have g1 := PySem.F.called_set.made
  have g2 := PySem.F.called_set.sub
  have g3 := PySem.F.called_set.notType
  have g4 := PySem.F.called_set.canCreate
  have g5 := PySem.F.typeCall_set_1 (.ref l)
  refine wpAny_call (codeAny_of_tree ?_)
  show wpAny _ _ (callAny (.type "set") _) _ _ _
  refine wpAny_pure ⟨Code.quiet_builtin _ (by decide +kernel), codeAny_builtin PySem.F.entry_type_call ?_⟩
  rw [Around.under_plain (weight_type_call_type "set" [.ref l] []) rfl]
  repeat (any_goals (first | assumption | wp_step))
  refine codeAny_mono (code_set_led1 (.ref l) (E := E) (Q₁ := fun ob s₁ => ob = .ref s.heap.objs.size ∧ s₁ = { s with heap := s.heap.push (newSet w) }) ⟨rfl, rfl⟩) fun r s₁ hr => ?_
  cases r with
  | error e => exact hr
  | ok fl =>
    cases fl with
    | ret ob =>
      obtain ⟨rfl, rfl⟩ := hr
      have hS : (s.heap.push (newSet w)).get? s.heap.objs.size = some (newSet w) := Heap.get?_push_size _ rfl
      have hT : Shared.TypeIs { s with heap := s.heap.push (newSet w) } (.ref s.heap.objs.size) "set" := ⟨_, hS, rfl⟩
      have g6 := PySem.F.called_set.init.lookup
      have g7 := PySem.F.called_set.init.bind (.ref s.heap.objs.size)
      repeat (any_goals (first | assumption | wp_step))
      refine codeAny_mono (codeAny_call_builtin (R := wants (fun r s₂ => r = .none ∧ ∃ h' tk ys, s₂ = { s with heap := h', toks := tk } ∧ Txts P w h' s.heap.objs.size ys ∧ Sofar xs xs.length ys ∧ ∀ b o, s.heap.get? b = some o → h'.get? b = some o) E)
        PySem.F.called_set.init.plain PySem.F.entry_set_init (check_set_init_1 hT ?_)) fun r₂ s₂ hr₂ => ?_
      · obtain ⟨⟨ocls, odict, odata, oslots⟩, hol, hcl, nl, hdl⟩ := hl
        simp only at hcl hdl
        subst hcl hdl
        have hol2 : (s.heap.push (newSet w)).get? l = some { cls := .type "list", dict := odict, data := .seq items nl, slots := oslots } := Heap.get?_push_of_some _ hol
        have t1 := PySem.F.sub_list_set
        have t2 := PySem.F.sub_list_frozenset
        have t3 : (Value.type "list" == Value.type "dict") = false := by decide
        have hl1 : (s.heap.push (newSet w)).IsList l items := ⟨_, hol2, rfl, nl, rfl⟩
        unfold Builtin.«set.__init__» noKeywords Builtin.Frozenset.updateFrom
        generalize hPI : pyIter = PI
        wp_walk
        subst hPI
        refine wpAny_pyIter_list hl1 (wpAny_bind (wpAny_runValue ?_))
        have lS : l < s.heap.objs.size := Heap.lt_size hol
        have h3 : A.in1.in1.in1.handled = none := by simp [hh]
        have z1 : (s.heap.push (newSet w)).objs.size = s.heap.objs.size + 1 := Heap.size_push ..
        have nI : l ≠ (s.heap.push (newSet w)).objs.size := by
          rw [z1]
          exact Nat.ne_of_lt (Nat.lt_succ_of_lt lS)
        have nS : s.heap.objs.size ∉ [(s.heap.push (newSet w)).objs.size, l] := by
          rw [z1]
          simp only [List.mem_cons, List.not_mem_nil, or_false, not_or]
          exact ⟨Nat.ne_of_lt (Nat.lt_succ_self _), Nat.ne_of_gt lS⟩
        have vl : ∀ (i : Nat) (v : Value), items[i]? = some v → ∃ z u, xs[i]? = some z ∧ v = .str z u := fun i v hv => by
          obtain ⟨u, e⟩ := SS.strs_at hi i v (by rw [Array.getElem?_toList]; exact hv)
          have lt : i < xs.length := by
            obtain ⟨b, _⟩ := Array.getElem?_eq_some_iff.mp hv
            omega
          exact ⟨xs.getD i Str.empty, u, by rw [List.getD_eq_getElem?_getD, List.getElem?_eq_getElem lt]; rfl, e⟩
        refine puts ((Walks.list h3 _ l nI items).toS) s.heap.objs.size nS xs isz (by omega) vl (items.size - 0) 0 _ (by omega) (Nat.zero_le _) ⟨⟨_, Heap.get?_push_size _ rfl, rfl, rfl⟩, (hl1.push _)⟩ ?hS0 ?hR
        case hS0 => exact ⟨[], fresh (Heap.get?_push_of_some _ hS), Nat.le_refl _, fun z => Iff.rfl⟩
        case hR =>
          rintro ⟨h', g', d', tk', os'⟩ ys mv r1 r2
          obtain rfl : g' = s.gens := mv.gens
          obtain rfl : d' = s.drawn := mv.drawn
          obtain rfl : os' = s.os := mv.os
          show wpAny _ _ _ _ _ _
          refine wpAny_pure (wpAny_pure ⟨rfl, h', tk', ys, rfl, r1, isz ▸ r2, fun b o e => ?_⟩)
          have lb := Heap.lt_size e
          refine mv.heap b o ?_ (Heap.get?_push_of_some _ (Heap.get?_push_of_some _ e))
          simp only [List.mem_cons, List.not_mem_nil, or_false, not_or]
          exact ⟨Nat.ne_of_lt lb, by rw [z1]; exact Nat.ne_of_lt (Nat.lt_succ_of_lt lb)⟩
      · cases r₂ with
        | error e => exact hr₂
        | ok fl₂ =>
          cases fl₂ with
          | ret r =>
            obtain ⟨rfl, h', tk, ys, rfl, r1, r2, r3⟩ := hr₂
            repeat (any_goals (first | assumption | wp_step))
            exact q _ _ _ r1 r2 r3
          | _ => exact hr₂.elim
    | _ => exact hr.elim
theorem strs_map : ∀ (l : List (Int × Value)), (∀ e ∈ l, Fine P w e) → StrsAre (l.map (·.2)) (l.map txt)
  | [], _ => .nil
  | e :: l, f => by
    obtain ⟨z, u, e1, _⟩ := f e (List.mem_cons_self ..)
    have t := strs_map l fun x hx => f x (List.mem_cons_of_mem _ hx)
    have e2 : txt e = z := by
      unfold txt
      rw [e1]
    rw [List.map_cons, List.map_cons, e1, e2]
    exact .cons z u t
theorem strs_perm {us vs : List Value} (p : us.Perm vs) : ∀ {xs : List Str}, StrsAre vs xs → ∃ ys, StrsAre us ys ∧ ys.Perm xs := by
  induction p with
  | nil => exact fun h => ⟨_, h, .refl _⟩
  | cons x p ih =>
    intro xs h
    cases h with
    | cons n t hr =>
      obtain ⟨ys, h1, h2⟩ := ih hr
      exact ⟨_, .cons _ _ h1, h2.cons _⟩
  | swap x y l =>
    intro xs h
    cases h with
    | cons n t hr =>
      cases hr with
      | cons n2 t2 hr2 => exact ⟨_, .cons _ _ (.cons _ _ hr2), .swap _ _ _⟩
  | trans p1 p2 ih1 ih2 =>
    intro xs h
    obtain ⟨ys, h1, h2⟩ := ih2 h
    obtain ⟨zs, h3, h4⟩ := ih1 h1
    exact ⟨zs, h3, h4.trans h2⟩
/-- sorted(a), a a set of texts -/
theorem sortedOf {Q : Value → Shared → Prop} (R : Txts P w s.heap a zs) (hh : A.handled = none) (few : zs.length < 64)
    (q : ∀ s' p (out : Array Value) (c : Nat) (ys : List Str), (∀ b o, s.heap.get? b = some o → s'.heap.get? b = some o) → s'.gens = s.gens → s'.os = s.os → s.heap.objs.size ≤ p →
      s'.heap.get? p = some (seqObj "list" out c) → StrsAre out.toList ys → ys.Perm zs → sortedS ys = true → Q (.ref p) s') :
    wpAny (model P w) A (call (.builtin "sorted") [.ref a]) Q E s := by
  obtain ⟨ob, rows, ep, tab, ho, hex, hd, ff, pz, nd, lt, ft, ri, le⟩ := R
  have hsz : rows.toList.length = zs.length := by
    rw [← pz.length_eq, List.length_map]
  refine Calls.call_function_entry kind_sorted plain_sorted entry_sorted (args_sorted1 _) ?_
  unfold Builtin.«sorted»
  refine wpAny_bind (m := checkCount "sorted" 1 1 _) (wpAny_pure (wpAny_bind (collect_set (A := A.in1) hh ⟨ob, ho, hex.1, hd⟩ ft lt ri le fun s1 vs k1 z1 gn1 os1 pm => ?_)))
  have vl : vs.length < 64 := by
    rw [pm.length_eq, List.length_map, hsz]
    exact few
  obtain ⟨xs, hx, px⟩ := strs_perm pm (strs_map rows.toList ff)
  refine wpAny_bind (wpAny_newList ?_ (by rw [sizeLine_eq]; omega))
  have oL : (s1.heap.push (seqObj "list" vs.toArray 0)).get? s1.heap.objs.size = some (seqObj "list" vs.toArray 0) := Heap.get?_push_size _ rfl
  refine wpAny_bind (wpAny_holding (wpAny_call_entry slot_list_sort ⟨_, oL, rfl⟩ entry_list_sort
    (list_sort_treeK strKind_oneLt oL hx.keysOf (fun v₁ v₂ rest e => keyKind_strs (by rw [← e]; exact hx)) vl fun st hp hs => ?_) (args_list_sort _)))
  obtain ⟨ys, y1, y2, y3⟩ := sorted_out_str hx hp hs
  obtain ⟨c, hc⟩ := sortedHeap_at (vs := vs) (out := (arrOf st).map (·.2)) oL
  refine ⟨_, rfl, wpAny_pure ⟨_, rfl, q _ s1.heap.objs.size _ c ys (fun b u e => ?_) gn1 os1 z1 hc y1 (y2.trans (px.trans pz)) y3⟩⟩
  have e1 := k1 b u e
  have lb := Heap.lt_size e1
  show (sortedHeap (s1.heap.push (seqObj "list" vs.toArray 0)) s1.heap.objs.size vs ((arrOf st).map (·.2))).get? b = some u
  rw [sortedHeap_old (Nat.ne_of_lt lb) (by rw [size_push']; exact Nat.lt_succ_of_lt lb)]
  exact Heap.get?_push_of_some _ e1
end
/-! the same over the layer -/
def TxO (P : Program) (w : World) (a : Addr) (zs : List Str) : HO := .ext fun h => Txts P w h a zs
theorem txo_ok {P : Program} {w : World} {H : Hp} {h : Heap} {a : Addr} {zs : List Str} (R : Txts P w h a zs) : ObjOk P w H h a (TxO P w a zs) := by
  have ⟨ob, _, _, _, ho, _⟩ := R
  exact ⟨R, ⟨ob, ho⟩, fun h1 h2 p k => p.at k⟩
def rSetOfS (K : PySem.W.Frag) (P : Program) (w : World) : List V → Hp → VK → Prop := fun vs H Q => ∃ (l : Addr) (xs : List Str), vs = [V.ref l] ∧ SqL K H l (xs.map V.str) ∧ xs.length ≤ 1000 ∧
  ∀ a zs, H a = none → zs.Nodup → (∀ z, z ∈ zs ↔ z ∈ xs) → zs.length ≤ xs.length → Q (.ref a) (upd H a (TxO P w a zs))
def rSortedSetS (P : Program) (w : World) : List V → Hp → VK → Prop := fun vs H Q => ∃ (a : Addr) (zs : List Str), vs = [V.ref a] ∧ H a = some (TxO P w a zs) ∧ zs.length < 64 ∧
  ∀ (ys : List Str) p, ys.Perm zs → sortedS ys = true → H p = none → Q (.ref p) (upd H p (.lst (ys.map V.str)))
section
variable {X : Cx}
theorem cr_setOfS (hc : X.calm = true) : CallR X (.type "set") (rSetOfS X.K X.prog X.w) := by
  intro pins s σ H vs us Q I r h
  obtain ⟨l, xs, rfl, hl, room, q⟩ := h
  rw [Vals.ref1 r]
  obtain ⟨its, rv, pl, hz⟩ := I.list hl
  refine made (P := X.prog) (w := X.w) (I.ok.hd hc) pl.isList (by simpa using rv.strs) (by unfold scanBound; omega) fun h' tk ys r1 r2 k => ?_
  have r3 : ys.Nodup := by
    obtain ⟨_, _, _, _, _, _, _, _, _, nd, _⟩ := r1
    exact nd
  refine ⟨.ref s.heap.objs.size, upd H s.heap.objs.size (TxO X.prog X.w s.heap.objs.size ys), I.laid (t' := tk) k (Nat.le_refl _) (txo_ok r1), rfl, q _ ys (I.hok.fresh (Nat.le_refl _)) r3 (fun z => ?_) r2.few⟩
  rw [r2.mem, List.take_length]
theorem cr_sortedSetS (hc : X.calm = true) : CallR X (.builtin "sorted") (rSortedSetS X.prog X.w) := by
  intro pins s σ H vs us Q I r h
  obtain ⟨a, zs, rfl, ha, few, q⟩ := h
  have R : Txts X.prog X.w s.heap a zs := (I.hok a _ ha).1
  rw [Vals.ref1 r]
  refine sortedOf R (I.ok.hd hc) few fun s' p out c ys k g o hp hg hs pm so => ?_
  have hlen : (ys.map V.str).length ≤ sizeLine := by
    rw [List.length_map, pm.length_eq, sizeLine_eq]
    omega
  have hn : H p = none := I.hok.fresh hp
  have J : Inv X pins σ (upd H p (.lst (ys.map V.str))) { s with heap := s'.heap, gens := s'.gens, drawn := s'.drawn, toks := s'.toks } :=
    I.call (ch := []) (Un.laid k hp hn) (I.hok.laid k hp ⟨hlen, out.toList, c, vals_of_strs hs, by rw [Array.toArray_toList]; exact hg⟩) (by rw [g]; exact I.bare) (fun _ z => nomatch z)
  have e : s' = { s with heap := s'.heap, gens := s'.gens, drawn := s'.drawn, toks := s'.toks } := by
    cases s'
    cases s
    cases o
    rfl
  rw [e]
  exact ⟨.ref p, _, J, rfl, q ys p pm so hn⟩
end
end Xs
namespace Xk
open PySem PySem.Spec PyProof.Rows L2
section
variable {K : PySem.W.Frag} {P : Program} {w : World} {X : Cx} {H : Hp} {Q : VK}
theorem k_setOfS (hc : X.calm = true) (e : X.K = K) (e1 : X.prog = P) (e2 : X.w = w) : CallR X (.type "set") (Xs.rSetOfS K P w) := e ▸ e1 ▸ e2 ▸ Xs.cr_setOfS hc
theorem k_sortedSetS (hc : X.calm = true) (e1 : X.prog = P) (e2 : X.w = w) : CallR X (.builtin "sorted") (Xs.rSortedSetS P w) := e1 ▸ e2 ▸ Xs.cr_sortedSetS hc
theorem x_setOfS {l : Addr} {xs : List Str} (h : SqL K H l (xs.map V.str)) (hl : xs.length ≤ 1000) (k : ∀ a H2 zs, Fr a H → Same H H2 → H2 a = some (Xs.TxO P w a zs) → zs.Nodup → (∀ z, z ∈ zs ↔ z ∈ xs) → zs.length ≤ xs.length → Q (.ref a) H2) : Xs.rSetOfS K P w [.ref l] H Q :=
  ⟨l, xs, rfl, h, hl, fun a zs ha h1 h2 h3 => k a _ zs ⟨ha⟩ (same_new ha) upd_same h1 h2 h3⟩
theorem x_sortedSetS {a : Addr} {zs : List Str} (h : H a = some (Xs.TxO P w a zs)) (hl : zs.length < 64) (k : ∀ p H2 (ys : List Str), ys.Perm zs → sortedS ys = true → Fr p H → Same H H2 → H2 p = some (.lst (ys.map V.str)) → Q (.ref p) H2) : Xs.rSortedSetS P w [.ref a] H Q :=
  ⟨a, zs, rfl, h, hl, fun ys p h1 h2 hp => k p _ ys h1 h2 ⟨hp⟩ (same_new hp) upd_same⟩
end
end Xk

/-! sorted(xs, key=lambda x: x[0]) -/
namespace Xk
open PySem PySem.Spec PyProof.Rows L2 LamX
section
variable {prog : Program} {w : World} {A : Around} {s : Shared}
theorem name_local {env : Env} {M : Model} {E : Value → Shared → Prop} {m : Str → Option Value} {x : Str} {pos : Pos} {v : Value} {Q : Value → Shared → Prop} (hn : s.heap.Ns env.locals m) (hv : m x = some v) (h : Q v s)
    (hk : env.scope.kind = .function) (hl : env.kindOf x = some .local) (hd : (x == ("__debug__" : Str)) = false) : wpAny M A (eval (.Name x pos) env) Q E s := wpAny_Name (wpAny_loadName_local hk hl hn hv h) hd
/-- the key lambda at a tuple with an int ahead -/
theorem key0_call {f c' t : Addr} {q x : Str} {params : Arguments} {scope : Scope} {cl : List (Str × Addr)} {pm ctv : Value} {j : Nat} {p1 p2 p3 : Pos} {its : List Value} {n : Int} {u : Tok} (hroom : A.depth < recursionLimit) (lim : s.heap.NoLimit)
    (ho : s.heap.get? f = some (PySem.W.kla_obj "<lambda>" q params (.Subscript (.Name x p1) (.Constant (.int 0) j p2) p3) scope cl pm c' ctv)) (hcd : s.heap.CodeRec (.ref c') q)
    (hk : scope.kind = .function) (hco : scope.isCoroutine = false) (hge : scope.isGenerator = false) (hnm : scope.names = [(x, .local)]) (hx : (x == ("__debug__" : Str)) = false)
    (hbind : ∀ v, bindArgs (PySem.W.kla_fn "<lambda>" q params (.Subscript (.Name x p1) (.Constant (.int 0) j p2) p3) scope cl pm (.ref c') ctv) ⟨[v], []⟩ = pure [(x, v)])
    (ht : IsTup s.heap t its.toArray) (h0 : its[0]? = some (.int n u)) :
    wpAny (model prog w) A (call (.ref f) [.ref t]) (PySem.W.KeyPure (.int n) s) (fun _ _ => False) s := by
  refine wpAny_call (PySem.W.kla_callFunE hroom ho rfl hco hge rfl hcd ?_)
  rw [hbind]
  refine wpAny_pure (wpAny_newFunctionEnv (by rw [hnm]; simp) (by rw [hnm]; simp) (fun h₁ hns hsb => ⟨lim.fresh _ hsb, ?_⟩) hk)
  show codeAny _ _ (.expr _ (PySem.W.envX q scope s.heap.objs.size f (.ref c') cl)) _ _
  have kp : ∀ b o, s.heap.get? b = some o → h₁.get? b = some o := fun b o e => hsb.extBut b o (Nat.ne_of_lt (Heap.lt_size e)) (Heap.get?_push_of_some _ e)
  have hl : (PySem.W.envX q scope s.heap.objs.size f (.ref c') cl).kindOf x = some .local := by
    show scope.names.lookup x = _
    rw [hnm]
    simp
  have ht₁ : IsTup h₁ t its.toArray := ht.keeps kp
  refine PySem.W.kla_codeExpr (Subscript_ (name_local (m := fun y => [(x, Value.ref t)].reverse.lookup y) (v := .ref t) hns (by simp) ?_ hk hl hx))
  refine wpAny_Constant_int ?_
  refine item_tupleL (l := its) (j := 0) ht₁ (by decide) (by decide) ?_ h0 ?_
  · obtain ⟨y, r, rfl⟩ : ∃ y r, its = y :: r := by
      cases its with
      | nil => cases h0
      | cons y r => exact ⟨y, r, rfl⟩
    unfold seqIndex?
    simp
  · exact ⟨h₁, _, rfl, kp, .int n u⟩
end
/-- a tuple with the int n ahead -/
def KeyAt (K : PySem.W.Frag) (H : Hp) (x : V) (n : Int) : Prop := ∃ a ys, x = .ref a ∧ SqT K H a (.int n :: ys)
def LeK (b c : V × Int) : Bool := decide (b.2 ≤ c.2)
def SkQ (K : PySem.W.Frag) (P : Addr) (q : Str) (Q : VK) (vs : List V) (H1 : Hp) : Prop := ∃ (a : Addr) (bs : List (V × Int)), vs = [V.ref a] ∧ SqL K H1 a (bs.map (·.1)) ∧ (∀ b ∈ bs, KeyAt K H1 b.1 b.2) ∧ TabS H1 P q ∧
  ∀ (p : Addr) (H2 : Hp), (∀ b o, b ≠ P → H1 b = some o → H2 b = some o) → TabS H2 P q → H1 p = none → (∀ b, H2 b = none → H1 b = none) → H2 p = some (.lst ((bs.mergeSort LeK).map (·.1))) → Q (.ref p) H2
/-- sorted(te, key=lambda x: x[0]); T: the table of code objects -/
def tSortKey (K : PySem.W.Frag) (P : Addr) (q : Str) (te : TE) : TE := fun σ H Q => te σ H fun v H1 => SkQ K P q Q [v] H1
theorem sq_ext {K : PySem.W.Frag} {H H' : Hp} {a : Addr} {xs : List V} (h : SqL K H a xs) (e : ExtN H H') : SqL K H' a xs := by
  rcases h with (h | ⟨u, h⟩) | h
  · exact .inl (.inl (e _ _ h (fun ps z => by cases z)))
  · exact .inl (.inr ⟨u, e _ _ h (fun ps z => by cases z)⟩)
  · exact .inr h
theorem st_ext {K : PySem.W.Frag} {H H' : Hp} {a : Addr} {xs : List V} (h : SqT K H a xs) (e : ExtN H H') : SqT K H' a xs := by
  rcases h with (h | ⟨u, h⟩) | h
  · exact .inl (.inl (e _ _ h (fun ps z => by cases z)))
  · exact .inl (.inr ⟨u, e _ _ h (fun ps z => by cases z)⟩)
  · exact .inr h
theorem eachK {R : Value → Int → Prop} : ∀ {its : List Value} {bs : List (V × Int)}, Vals (bs.map (·.1)) its → (∀ b ∈ bs, ∀ u, RelV b.1 u → R u b.2) → PySem.W.EachIs (fun u (b : V × Int) => RelV b.1 u ∧ R u b.2) its bs
  | its, [], h, _ => by cases h; exact .nil
  | its, b :: r, h, hr => by
    cases h with
    | cons h1 h2 => exact .cons ⟨h1, hr b (List.mem_cons_self ..) _ h1⟩ (eachK h2 fun c hc => hr c (List.mem_cons_of_mem _ hc))
theorem eachKB {R : Value → Int → Prop} : ∀ {its : List Value} {bs : List (V × Int)}, PySem.W.EachIs (fun u (b : V × Int) => RelV b.1 u ∧ R u b.2) its bs → Vals (bs.map (·.1)) its
  | _, _, .nil => .nil
  | _, _, .cons h t => .cons h.1 (eachKB t)
theorem codeO_at {P : Program} {w : World} {H : Hp} {h : Heap} {c : Addr} {q : Str} (hok : HOk P w H h) (e : H c = some (CodeO c q)) : h.CodeRec (.ref c) q := by
  obtain ⟨⟨oc, vs, t, h1, h2, h3⟩, _, _⟩ := hok c _ e
  exact ⟨c, oc, vs, t, rfl, h1, h2, h3⟩
theorem upd_non {H : Hp} {a b : Addr} {o : HO} (e : upd H a o b = none) : H b = none := by
  unfold upd at e
  split at e
  · cases e
  · exact e
section
variable {X : Cx} {pins : List (Addr × Obj)} {σ : L2.St} {H : Hp} {s : Shared}
/-- the lambda is made; what was free behind it was free ahead of it -/
theorem lam_make3 {q : Str} {c P : Addr} {params : Arguments} {body : Expr} {scope : Scope} {pos : Pos} {E : Value → Shared → Prop} {Q : Value → Shared → Prop} (J : Inv X pins σ H s) (B : TabB X.base X.mg c P) (ec : X.env.code = .ref c)
    (eq : X.env.qual ++ "<lambda>" = q) (ht : TabS H P q) (ed : defaultsOf params X.env = ([], [])) (ef : ∀ y ∈ scope.names, y.2 = .free → ∃ c, X.env.cells.lookup y.1 = some c)
    (k : ∀ (f c' : Addr) (pm ctv : Value) (H1 : Hp) (s' : Shared), Inv X pins σ H1 s' → (∀ b o, b ≠ P → H b = some o → H1 b = some o) → TabS H1 P q → (∀ b, H1 b = none → H b = none) →
      s'.heap.get? f = some (PySem.W.kla_obj "<lambda>" q params body scope (cloFrom X.env.cells scope.names []) pm c' ctv) → H1 c' = some (CodeO c' q) → Q (.ref f) s') :
    wpAny (model X.prog X.w) X.A (eval (.Lambda params body scope pos) X.env) Q E s := by
  subst eq
  obtain ⟨ps, e1, tr, am⟩ := ht
  have bP := B.bm.keeps J.bk
  have eP : s.heap.get? P = some { cls := .none, data := .fields ps } := J.hok P _ e1
  refine PySem.W.kla_eval ed ?_
  rcases ha : codeAmong pos ps.toList with _ | cv
  · refine PySem.W.kla_makeFunction (closure_ok ef) J.ok.glob (J.mod.glob.keeps J.bk) ec (B.code.keeps J.bk) eP tr ha B.gP bP ?_
    intro c' ctv g tk gx ge lt rec tb
    obtain ⟨c2, oc, us, t, z, z1, z2, z3⟩ := rec
    cases z
    have free := J.hok.fresh ge
    have nPc := ne_of_none e1 free
    have J2 := inv_table (t' := tk) (more := #[rawInt pos.line, rawInt pos.col, .ref c']) (h' := g.push (PySem.W.kla_obj "<lambda>" (X.env.qual ++ "<lambda>") params body scope (cloFrom X.env.cells scope.names []) ((X.mg "__name__").getD .none) c' ctv)) J e1
      (fun b o n e => Heap.get?_push_of_some _ (gx b o n e)) (Heap.get?_push_of_some _ tb) ge ⟨oc, us, t, Heap.get?_push_of_some _ z1, z2, z3⟩
    have ext : ExtN H (upd (upd H P (.tbl (ps ++ #[rawInt pos.line, rawInt pos.col, .ref c']))) c' (CodeO c' (X.env.qual ++ "<lambda>"))) := fun b o e n => by
      have n1 : b ≠ P := fun w => n ps (by rw [w, e1] at e; exact (Option.some.inj e).symm)
      rw [upd_ne (ne_of_none e free), upd_ne n1, e]
    refine k g.objs.size c' _ ctv _ _ J2 (fun b o n e => by rw [upd_ne (ne_of_none e free), upd_ne n, e]) ⟨ps ++ #[rawInt pos.line, rawInt pos.col, .ref c'], by rw [upd_ne nPc, upd_same], ?_, ?_⟩ ?_ (Heap.get?_push_size _ rfl) upd_same
    · rw [show (ps ++ #[rawInt pos.line, rawInt pos.col, .ref c']).toList = ps.toList ++ [rawInt pos.line, rawInt pos.col, .ref c'] by simp]
      exact PySem.TriplesOk_snoc _ _ _ _ tr
    · intro p' v hv
      have hv2 : codeAmong p' (ps.toList ++ [rawInt pos.line, rawInt pos.col, .ref c']) = some v := by simpa using hv
      rcases among_app _ tr hv2 with w | w
      · obtain ⟨c0, w1, w2⟩ := am p' v w
        exact ⟨c0, w1, ext _ _ w2 codeO_ne⟩
      · exact ⟨c', w, upd_same⟩
    · exact fun b hb => upd_non (upd_non hb)
  · obtain ⟨c', rfl, ho⟩ := am pos cv ha
    refine PySem.W.kla_makeFunctionHit (closure_ok ef) J.ok.glob (J.mod.glob.keeps J.bk) ec (B.code.keeps J.bk) eP tr ha bP ?_
    intro ctv g tk gx ge
    exact k g.objs.size c' _ ctv H _ (J.kept fun b o e => Heap.get?_push_of_some _ (gx b o e)) (fun _ _ _ e => e) ⟨ps, e1, tr, am⟩ (fun _ e => e) (Heap.get?_push_size _ rfl) ho
end
theorem leK_eq : PySem.W.dataLe false (fun b : V × Int => PyData.int b.2) = LeK := by
  funext b c
  show (!PyProof.Rows.lexLt itemOrd [Sum.inl c.2] [Sum.inl b.2]) = decide (b.2 ≤ c.2)
  have e : PyProof.Rows.lexLt itemOrd [Sum.inl c.2] [Sum.inl b.2] = decide (c.2 < b.2) := by
    show (decide (c.2 < b.2) || (!decide (b.2 < c.2) && false)) = _
    rw [Bool.and_false, Bool.or_false]
  rw [e, ← decide_not]
  exact decide_eq_decide.mpr (by omega)
section
variable {X : Cx}
theorem pe_sortKey {c P : Addr} {x q : Str} {params : Arguments} {scope : Scope} {j : Nat} {e : Expr} {te : TE} {pos p lpos kp p1 p2 p3 : Pos} {k : Nat} (hr : Room k X.A) (hg : Gl X "sorted") (hm : X.mg "sorted" = none)
    (he : PE X e te) (TB : TabB X.base X.mg c P) (hcode : X.env.code = .ref c) (hql : X.env.qual ++ "<lambda>" = q)
    (hk : scope.kind = .function) (hco : scope.isCoroutine = false) (hge : scope.isGenerator = false) (hnm : scope.names = [(x, .local)]) (hx : (x == ("__debug__" : Str)) = false)
    (hdef : defaultsOf params X.env = ([], []))
    (hbind : ∀ (q : Str) (cl : List (Str × Addr)) (pm cv ctv v : Value), bindArgs (PySem.W.kla_fn "<lambda>" q params (.Subscript (.Name x p1) (.Constant (.int 0) j p2) p3) scope cl pm cv ctv) ⟨[v], []⟩ = pure [(x, v)])
    (hs1 : starEach [e] X.env = (false, eval e X.env) :: starEach [] X.env := by rfl) (hst : backTo pos (starEach [e] X.env) = (false, eval e X.env) :: backTo pos (starEach [] X.env) := by rfl) (hpl : (backTo pos (starEach [e] X.env)).any (·.1) = false := by rfl) :
    PE X (.Call (.Name "sorted" p) [e] [⟨some "key", .Lambda params (.Subscript (.Name x p1) (.Constant (.int 0) j p2) p3) scope lpos, kp⟩] pos) (tSortKey X.K P q te) := by
  refine ⟨fun pins s σ H Q I h => ?_⟩
  refine wpAny_Call_Name_kw (ld_blt I hg hm (u := .builtin "sorted") (by first | rfl | decide +kernel) ?_ (by decide) (by decide))
  have ha := pa_cons he pa_nil hs1
  refine PyProof.Rows.callWith_kw (thn (ha.run pos pins s σ H (SkQ X.K P q Q) I h) fun us s1 ⟨vs, H1, I1, r1, q1⟩ => ?_) hst hpl (by rfl) (by rfl)
  obtain ⟨a, bs, rfl, hs, hks, hT, qq⟩ := q1
  refine kwAll_cons ?_
  refine lam_make3 I1 TB hcode hql hT hdef (fun y hy e => by rw [hnm] at hy; simp at hy; rw [hy] at e; cases e) fun f c' pm ctv H2 s2 I2 eB T2 hback hf hco' => ?_
  refine kwAll_nil ?_
  have nP : ∀ {b : Addr} {o : HO}, H1 b = some o → (∀ ps, o ≠ .tbl ps) → b ≠ P := fun {b o} e n z => by
    obtain ⟨ps, e1, _⟩ := hT
    rw [z, e1] at e
    exact n ps (Option.some.inj e).symm
  have eN : ExtN H1 H2 := fun b o e n => eB b o (nP e n) e
  rw [Vals.ref1 r1]
  show wpAny _ _ (call (.builtin "sorted") [.ref a] [(Str.ofString "key", .ref f)]) _ _ _
  have hs2 := sq_ext hs eN
  obtain ⟨its, rv, hl, hz⟩ := I2.list hs2
  have hlen : bs.length ≤ sizeLine := by rw [List.length_map] at hz; exact hz
  have hco2 := codeO_at I2.hok hco'
  have e := eachK (R := fun u n => ∃ (t : Addr) (its : List Value) (tk : Tok), u = .ref t ∧ IsTup s2.heap t its.toArray ∧ its[0]? = some (.int n tk)) rv fun b hb u ru => by
    obtain ⟨t, ys, e1, e2⟩ := hks b hb
    rw [e1] at ru
    obtain rfl : u = .ref t := ru
    obtain ⟨its2, rv2, hl2, _⟩ := I2.tuple (st_ext e2 eN)
    cases rv2 with
    | cons h1 h2 =>
      obtain ⟨tk, rfl⟩ := h1
      exact ⟨t, _, tk, rfl, hl2, rfl⟩
  have fin : ∀ (out : List Value) (c3 : Nat) (h3 : Heap) (tk : Nat), (∀ b o, s2.heap.get? b = some o → h3.get? b = some o) → h3.get? (s2.heap.objs.size + 1) = some (seqObj "list" (List.toArray out) c3) →
      PySem.W.EachIs (fun u (b : V × Int) => RelV b.1 u ∧ ∃ (t : Addr) (its : List Value) (tk : Tok), u = .ref t ∧ IsTup s2.heap t its.toArray ∧ its[0]? = some (.int b.2 tk)) out (bs.mergeSort LeK) → EP X pins σ Q (.ref (s2.heap.objs.size + 1)) { s2 with heap := h3, toks := tk } := fun out c3 h3 tk kp h4 eo => by
    have hlen2 : ((bs.mergeSort LeK).map (·.1)).length ≤ sizeLine := by rw [List.length_map, List.length_mergeSort]; exact hlen
    have n2 : H2 (s2.heap.objs.size + 1) = none := I2.hok.fresh (Nat.le_succ _)
    have n1 : H1 (s2.heap.objs.size + 1) = none := hback _ n2
    exact ⟨.ref _, upd H2 (s2.heap.objs.size + 1) (.lst ((bs.mergeSort LeK).map (·.1))), I2.laid (t' := tk) kp (Nat.le_succ _) ⟨hlen2, out, c3, eachKB (R := fun u n => ∃ (t : Addr) (its : List Value) (tk : Tok), u = .ref t ∧ IsTup s2.heap t its.toArray ∧ its[0]? = some (.int n tk)) eo, h4⟩, rfl,
      qq _ _ (fun b o h1 h2 => by rw [upd_ne (ne_of_none (eB b o h1 h2) n2)]; exact eB b o h1 h2) (T2.ext fun b o h1 => by rw [upd_ne (ne_of_none h1 n2)]; exact h1) n1 (fun b hb => hback b (upd_non hb)) upd_same⟩
  refine PySem.W.sorted_key_data (k := fun b : V × Int => PyData.int b.2) (b := false) hl.isList e ?_ ?_ hlen ?_ (PyProof.Rows.ksk_s1 _ _) (fun _ => PyProof.Rows.ksk_l1 _ _) (fun _ => PyProof.Rows.ksk_t1 _ _) ?_ ?_
  · intro d1 h1 d2 h2
    obtain ⟨b1, _, rfl⟩ := List.mem_map.mp h1
    obtain ⟨b2, _, rfl⟩ := List.mem_map.mp h2
    rfl
  · refine .inr fun d hd => ?_
    obtain ⟨b1, _, rfl⟩ := List.mem_map.mp hd
    constructor
    · intro z
      cases z
    · intro xs z
      cases z
  · intro b hb
    show X.A.units + 2 + 0 < cLine
    have := hr.un
    omega
  · rintro v x ⟨_, t, its2, tk, rfl, ht, h0⟩ hx h tk2 kp
    refine key0_call (s := { s2 with heap := h, toks := tk2 }) ?_ (I2.nolimit.keeps kp) (kp _ _ hf) ?_ hk hco hge hnm ‹_› (fun v => hbind _ _ _ _ _ v) (ht.keeps kp) h0
    · show X.A.depth < recursionLimit
      have := hr.dp
      omega
    · obtain ⟨c2, oc, us, t, z, z1, z2, z3⟩ := hco2
      exact ⟨c2, oc, us, t, z, kp _ _ z1, z2, z3⟩
  · intro out c3 h3 tk kp n0 h4 _ eo
    rw [leK_eq] at eo
    exact fin out c3 h3 tk kp h4 eo
end
/-- a def whose code object is told -/
structure FunC (K : PySem.W.Frag) (x qual : Str) (st : Stmt) (f : Addr) (fd : FuncData) (c : Addr) : Prop where
  ex : ∃ (oc : Value) (od : Option Addr) (kV doc pm : Value) (an : Option Addr) (ct : Value) (osl : Array (Option Value)),
    fd = PySem.W.fnOf x qual (defArgs st) (defBody st) (defScope st) .none kV doc pm an (.ref c) ct ∧ K.lookup f = some ⟨oc, od, .func fd, osl⟩ ∧ PySem.W.codeIn K (.ref c) qual = true
  kp : PySem.W.keepIn K (.ref f) = true
theorem FunC.fn {K : PySem.W.Frag} {x qual : Str} {st : Stmt} {f c : Addr} {fd : FuncData} (F : FunC K x qual st f fd c) : Fun K x qual st f fd := by
  obtain ⟨oc, od, kV, doc, pm, an, ct, osl, e1, e2, e3⟩ := F.ex
  exact ⟨⟨oc, od, kV, doc, pm, an, .ref c, ct, osl, e1, e2, e3⟩, F.kp⟩
theorem FunC.okC {P : Program} {w : World} {K : PySem.W.Frag} {mg : Str → Option Value} {base : Heap} {x qual : Str} {st : Stmt} {f c : Addr} {fd : FuncData} {N ps : List Str} {k : Nat} {sp : Sp} (F : FunC K x qual st f fd c) (S : FnScope N ps (defScope st)) (len : ∀ vs H Q E, sp vs H Q E → vs.length = ps.length)
    (body : ∀ (A : Around) (outer : List Env) (s : Shared) (H : Hp) (vs : List V) (Q : VK) (E : XK), Room k (A.deeper (envOfC qual (defScope st) s.heap.objs.size f (.ref c))) → sp vs H Q E →
      ∃ t, PSs (cxOf CX0 P w K mg base N qual (defScope st) f (.ref c) A outer s H E).nox (defBody st) t ∧ t { nx := fun _ H' => Q .non H', rt := Q } (start N vs) H) : FnOk P w K mg base CX0 (k + 1) f fd ps sp := by
  obtain ⟨oc, od, kV, doc, pm, an, ct, osl, rfl, lk, hcd⟩ := F.ex
  refine fn_of lk hcd S len fun A outer s H vs Q E hr hsp => ?_
  obtain ⟨t, z1, z2⟩ := body A outer s H vs Q E hr hsp
  exact ⟨t, z1.nox, z2⟩
theorem funC_mk {K : PySem.W.Frag} {x qual : Str} {st : Stmt} {f c : Addr} {oc : Value} {od an : Option Addr} {osl : Array (Option Value)} {kV doc pm ct : Value} (l : K.lookup f = some ⟨oc, od, .func (PySem.W.fnOf x qual (defArgs st) (defBody st) (defScope st) .none kV doc pm an (.ref c) ct), osl⟩)
    (h : PySem.W.codeIn K (.ref c) qual = true) (k : PySem.W.keepIn K (.ref f) = true) : FunC K x qual st f (PySem.W.fnOf x qual (defArgs st) (defBody st) (defScope st) .none kV doc pm an (.ref c) ct) c := ⟨⟨oc, od, kV, doc, pm, an, ct, osl, rfl, l, h⟩, k⟩
theorem tab_in {K : PySem.W.Frag} {x : Str} {f c P : Addr} {oc occ : Value} {od odc : Option Addr} {fd : FuncData} {osl slc : Array (Option Value)} {vs : Array Value} (a : PySem.W.nsIn K mainGlobals x = some (some (.ref f))) (l : K.lookup f = some ⟨oc, od, .func fd, osl⟩) (ec : fd.code = .ref c)
    (lc : K.lookup c = some ⟨occ, odc, .fields vs, slc⟩) (pv : vs[11]? = some (.ref P)) : PySem.W.tabIn K x = some (c, P) := by
  unfold PySem.W.tabIn
  rw [a]
  show (match K.lookup f with | _ => _) = _
  simp only [l, ec, lc, pv]
theorem walk_ofT {l : PySem.W.OpenLaw} {n k : Nat} {q : Program} {loose : List Str} {XP : (Str → Option Value) → Heap → Prop} {YP : World → Heap → Prop} {d d2 : DefRec} {K : Params → PySem.W.Frag} {sp : PySem.W.Frag → Addr → Sp} {x xn : Str}
    (hn : l.most = some n) (hn2 : n ≤ sizeLine) (hdf : d.params.defaults = []) (hr : Room k callerA) (hrec : (recsOf q).find? (fun e => e.name == xn) = some d2)
    (hY : ∀ (w : World) (h : Heap), YP w h → (K w.params).In h)
    (F : ∀ (w : World) (mg : Str → Option Value) (fa : Addr) (h : Heap), (K w.params).In h → h.Ns mainGlobals mg → mg d.name = some (.ref fa) →
      ∃ (c P : Addr) (fd : FuncData), PySem.W.tabIn (K w.params) xn = some (c, P) ∧ (K w.params).lookup P = none ∧ (∀ (s : Shared) (u : Value), BindsTo s fd ⟨[u], []⟩ [(x, u)]) ∧
        ∀ base : Heap, (K w.params).In base → base.Ns mainGlobals mg → TabB base mg c P → FnOk l.prog w (K w.params) mg base CX0 k fa fd [x] (sp (K w.params) P))
    (hsp : ∀ (K : PySem.W.Frag) (H : Hp) (P a : Addr) (ns : List Int), ns.length ≤ n → H P = some (.tbl #[]) → SqL K H a (ns.map V.int) → sp K P [.ref a] H (fun v _ => v = .bl true) fun _ _ _ => False) :
    PySem.W.WalkO q loose XP YP l.row.toRowW d [] (fun f vs => PySem.call f vs) := by
  refine Att.attach_call hn hdf fun w s₀ s₁ mg mb fa o pm cd doc a vs ns G Y ho hd hcd hmg hobj hints hlen hg => ?_
  have KX := hY w _ Y
  obtain ⟨c, P, fd, ht, hnone, hb, hF⟩ := F w mg fa _ KX G.T.g hmg
  obtain ⟨hC, hP⟩ := PySem.W.tab_of G.T KX hrec ht
  refine LamX.law_callTs (cs := [(c, P)]) KX G.T.g G.T.b G.T.builtins G.T.nolimit hg ?_ ?_ ?_ G.T.bmain hobj hints (Nat.le_trans hlen hn2) hr (fun base z1 z2 z3 => hF base z1 z2 (z3 (c, P) (List.mem_cons_self ..))) hb (fun H hH hS => hsp (K w.params) H P a ns hlen (hH (c, P) (List.mem_cons_self ..)) hS) ?_
  · intro p hp
    rw [List.mem_singleton.mp hp]
    exact hP
  · intro p hp
    rw [List.mem_singleton.mp hp]
    exact hnone
  · intro p hp
    rw [List.mem_singleton.mp hp]
    exact hC
  · exact fun _ _ _ h => h
/-! ### two fors, lists or tuples -/
structure IsIt (J : It) (S : Hp → Prop) (xs : List V) : Prop where
  go : ∀ i H, S H → i < xs.length → J.go i H
  yld : ∀ i x y H H', S H → xs[i]? = some x → J.yld i H y H' → H' = H ∧ y = x
  stop : ∀ H, S H → J.stop xs.length H
theorem isItl {K : PySem.W.Frag} {a : Addr} {xs : List V} : IsIt (Itl K a) (fun H => SqL K H a xs) xs :=
  ⟨fun i H h hi => ⟨xs, xs[i], h, by simp [hi]⟩, fun i x y H H' h hx ⟨e, z⟩ => ⟨e, Option.some.inj ((z xs h).symm.trans hx)⟩, fun H h => ⟨xs, h, Nat.le_refl _⟩⟩
theorem isItt {K : PySem.W.Frag} {a : Addr} {xs : List V} : IsIt (Itt K a) (fun H => SqT K H a xs) xs :=
  ⟨fun i H h hi => ⟨xs, xs[i], h, by simp [hi]⟩, fun i x y H H' h hx ⟨e, z⟩ => ⟨e, Option.some.inj ((z xs h).symm.trans hx)⟩, fun H h => ⟨xs, h, Nat.le_refl _⟩⟩
def rI2 (S : Hp → Addr → List V → Prop) (J : Addr → It) (g1 : TG) (tt1 : TT) (te : TE) (vs1 : List Nat) (σ2 : L2.St) (Dl : Addr) (N : Hp → Prop) : VK := fun x H4 => ∃ a, x = .ref a ∧ (∃ xs, S H4 a xs) ∧ RIn (J a) g1 tt1 te vs1 σ2 Dl N H4
def rO2 (S : Hp → Addr → List V → Prop) (J : Addr → It) (g : TG) (te1 : TE) (rI : L2.St → Addr → (Hp → Prop) → VK) (vs : List Nat) (σ : L2.St) (Q : VK) : VK := fun x H1 => ∃ a, x = .ref a ∧ (∃ xs, S H1 a xs) ∧ ∀ D, H1 D = none → ∃ W : Nat → Nat → Hp → Prop, (∃ m, W 0 m (upd H1 D (.lst []))) ∧ ∀ i m H, W i m H →
  ((J a).stop i H ∧ Q (.ref D) H) ∨ ((J a).go i H ∧ ∃ Nx : Hp → Prop, (∀ H', Nx H' → ∃ m', m' < m ∧ W (i + 1) m' H') ∧ ∀ x H', (J a).yld i H x H' → g x (wipe σ vs) H' fun σ2 H2 => wipe σ2 vs = wipe σ vs ∧ te1 σ2 H2 (rI σ2 D Nx))
section
variable {K : PySem.W.Frag} {σ σ2 : L2.St} {H : Hp} {Q : VK} {tx te te1 : TE} {g g1 : TG} {tt1 : TT} {vs vs1 : List Nat} {S : Hp → Addr → List V → Prop} {J : Addr → It}
theorem x_lc2LT (q : tx σ H (rO2 (SqL K) (Itl K) g te1 (rI2 (SqT K) (Itt K) g1 tt1 te vs1) vs σ Q)) : tLc2 (iList K tx) g tYes (iTup K te1) g1 tt1 te vs vs1 σ H Q := q
theorem x_lc2TT (q : tx σ H (rO2 (SqT K) (Itt K) g te1 (rI2 (SqT K) (Itt K) g1 tt1 te vs1) vs σ Q)) : tLc2 (iTup K tx) g tYes (iTup K te1) g1 tt1 te vs vs1 σ H Q := q
theorem x_in2 {a Dl : Addr} {xs : List V} {N : Hp → Prop} (hJ : IsIt (J a) (fun H => S H a xs) xs) (Pv : Nat → Hp → Prop) (hx : S H a xs) (p0 : Pv 0 H) (hl : ∀ i H', Pv i H' → S H' a xs)
    (hs : ∀ i x H', xs[i]? = some x → Pv i H' → g1 x (wipe σ2 vs1) H' fun σ3 H5 => wipe σ3 vs1 = wipe σ2 vs1 ∧ tt1 σ3 H5 fun b H6 => if b = true then te σ3 H6 (fun y H7 => ∃ acc, H7 Dl = some (.lst acc) ∧ acc.length < sizeLine ∧ Pv (i + 1) (upd H7 Dl (.lst (acc ++ [y])))) else Pv (i + 1) H6)
    (hd : ∀ H', Pv xs.length H' → N H') : rI2 S J g1 tt1 te vs1 σ2 Dl N (.ref a) H := by
  refine ⟨a, rfl, ⟨xs, hx⟩, fun i m H => m = xs.length - i ∧ i ≤ xs.length ∧ Pv i H, ⟨xs.length, by omega, Nat.zero_le _, p0⟩, ?_⟩
  intro i m H' h
  obtain ⟨em, hi, p⟩ := h
  have q := hl i H' p
  rcases Nat.lt_or_ge i xs.length with lt | ge
  · obtain ⟨x, hx2⟩ := Xk.lt_at (xs := xs) (j := i) lt
    refine .inr ⟨hJ.go i H' q lt, Pv (i + 1), fun H2 p2 => ⟨xs.length - (i + 1), by omega, rfl, lt, p2⟩, fun y H2 yl => ?_⟩
    obtain ⟨rfl, rfl⟩ := hJ.yld i x y H' H2 q hx2 yl
    exact hs i y _ hx2 p
  · obtain rfl : i = xs.length := by omega
    exact .inl ⟨hJ.stop H' q, hd H' p⟩
theorem x_out2 {rI : L2.St → Addr → (Hp → Prop) → VK} {a : Addr} {xs : List V} (hJ : IsIt (J a) (fun H => S H a xs) xs) (Pv : Addr → Nat → Hp → Prop) (hx : S H a xs) (h0 : ∀ Dl, Fr Dl H → Pv Dl 0 (upd H Dl (.lst []))) (hl : ∀ Dl i H', Fr Dl H → Pv Dl i H' → S H' a xs)
    (hs : ∀ Dl, Fr Dl H → ∀ i x H', xs[i]? = some x → Pv Dl i H' → g x (wipe σ vs) H' fun σ2 H2 => wipe σ2 vs = wipe σ vs ∧ te1 σ2 H2 (rI σ2 Dl (Pv Dl (i + 1))))
    (hd : ∀ Dl H', Fr Dl H → Pv Dl xs.length H' → Q (.ref Dl) H') : rO2 S J g te1 rI vs σ Q (.ref a) H := by
  refine ⟨a, rfl, ⟨xs, hx⟩, fun Dl hD => ⟨fun i m H => m = xs.length - i ∧ i ≤ xs.length ∧ Pv Dl i H, ⟨xs.length, by omega, Nat.zero_le _, h0 Dl ⟨hD⟩⟩, ?_⟩⟩
  intro i m H' h
  obtain ⟨em, hi, p⟩ := h
  have q := hl Dl i H' ⟨hD⟩ p
  rcases Nat.lt_or_ge i xs.length with lt | ge
  · obtain ⟨x, hx2⟩ := Xk.lt_at (xs := xs) (j := i) lt
    refine .inr ⟨hJ.go i H' q lt, Pv Dl (i + 1), fun H2 p2 => ⟨xs.length - (i + 1), by omega, rfl, lt, p2⟩, fun y H2 yl => ?_⟩
    obtain ⟨rfl, rfl⟩ := hJ.yld i x y H' H2 q hx2 yl
    exact hs Dl ⟨hD⟩ i y _ hx2 p
  · obtain rfl : i = xs.length := by omega
    exact .inl ⟨hJ.stop H' q, hd Dl H' ⟨hD⟩ p⟩
theorem k_pit {X : Cx} {tg l : Expr} {tl : TE} (e : X.K = K) (h : PE X l tl) : PI X tg l (iTup K tl) := e ▸ pi_tup h
end
section
variable {K : PySem.W.Frag} {X : Cx}
theorem k_sortKey {c P : Addr} {x q : Str} {params : Arguments} {scope : Scope} {j : Nat} {e : Expr} {te : TE} {pos p lpos kp p1 p2 p3 : Pos} (eK : X.K = K) {k : Nat} (hr : Room k X.A) (hg : Gl X "sorted") (hm : X.mg "sorted" = none)
    (he : PE X e te) (TB : TabB X.base X.mg c P) (hcode : X.env.code = .ref c) (hql : X.env.qual ++ "<lambda>" = q)
    (hk : scope.kind = .function) (hco : scope.isCoroutine = false) (hge : scope.isGenerator = false) (hnm : scope.names = [(x, .local)]) (hx : (x == ("__debug__" : Str)) = false)
    (hdef : defaultsOf params X.env = ([], []))
    (hbind : ∀ (q : Str) (cl : List (Str × Addr)) (pm cv ctv v : Value), bindArgs (PySem.W.kla_fn "<lambda>" q params (.Subscript (.Name x p1) (.Constant (.int 0) j p2) p3) scope cl pm cv ctv) ⟨[v], []⟩ = pure [(x, v)])
    (hs1 : starEach [e] X.env = (false, eval e X.env) :: starEach [] X.env := by rfl) (hst : backTo pos (starEach [e] X.env) = (false, eval e X.env) :: backTo pos (starEach [] X.env) := by rfl) (hpl : (backTo pos (starEach [e] X.env)).any (·.1) = false := by rfl) :
    PE X (.Call (.Name "sorted" p) [e] [⟨some "key", .Lambda params (.Subscript (.Name x p1) (.Constant (.int 0) j p2) p3) scope lpos, kp⟩] pos) (tSortKey K P q te) :=
  eK ▸ pe_sortKey hr hg hm he TB hcode hql hk hco hge hnm hx hdef hbind hs1 hst hpl
end
theorem x_sortK {K : PySem.W.Frag} {σ : L2.St} {H : Hp} {Q : VK} {P : Addr} {q : Str} {te : TE} (h : te σ H fun v H1 => SkQ K P q Q [v] H1) : tSortKey K P q te σ H Q := h
end Xk


local macro_rules | `(tactic| wtm_at "key") => `(tactic| (first | assumption | exact rfl | fail "key"))
local macro_rules | `(tactic| wtm_at "few") => `(tactic| (first | assumption | exact Nat.le_of_ble_eq_true rfl | fail "few"))
local macro_rules | `(tactic| wtm_at "cls") => `(tactic| (first | assumption | fail "cls"))
local macro_rules | `(tactic| wtm_at "neq") => `(tactic| (first | assumption | exact Ne.symm (by assumption) | exact Xk.ne_new (by assumption) (by wtm_at "hx") | exact (Xk.ne_new (by assumption) (by wtm_at "hx")).symm | fail "neq"))
local macro_rules | `(tactic| wtm_at "hx") => `(tactic| (first | assumption | exact L2.upd_same | ((refine' (L2.upd_ne ?un).trans ?uh); (case un => wtm_at "neq"); (case uh => wtm_at "hx")) | ((refine' Xk.same_at ?ue ?uh); (case ue => assumption); (case uh => wtm_at "hx")) | ((refine' Xk.but_at ?ue ?un ?uh); (case ue => assumption); (case un => wtm_at "neq"); (case uh => wtm_at "hx")) | fail "hx"))
local macro_rules | `(tactic| wtm_at "free") => `(tactic| (first | assumption | ((refine' Xk.free_back ?uh ?ue); (case uh => assumption); (case ue => wtm_at "sm")) | ((refine' Xk.free_back ?uh ?ue); (case uh => (refine' Xk.fr_upd ?uf; case uf => assumption)); (case ue => wtm_at "sm")) | fail "free"))
local macro_rules | `(tactic| wtm_at "sm") => `(tactic| (first | assumption | exact L2.Same.refl _ | ((refine' Xk.same_mut ?ue ?uh); (case ue => wtm_at "sm"); (case uh => wtm_at "free")) | ((refine' L2.Same.trans ?ue ?uh); (case uh => assumption); (case ue => wtm_at "sm")) | ((refine' Xk.same_but ?ue ?uh ?us); (case ue => assumption); (case uh => wtm_at "free"); (case us => wtm_at "sm")) | fail "sm"))
local macro_rules | `(tactic| wtm_at "bm") => `(tactic| (first | assumption | exact Xk.But.refl _ _ | ((refine' Xk.but_mut ?ue); (case ue => wtm_at "bm")) | ((refine' Xk.but_new ?ue ?uh); (case ue => wtm_at "bm"); (case uh => wtm_at "free")) | ((refine' Xk.but_trans ?ue ?uh); (case uh => assumption); (case ue => wtm_at "bm")) | ((refine' Xk.but_trans ?ue (Xk.but_same ?uh)); (case uh => assumption); (case ue => wtm_at "bm")) | fail "bm"))
local macro_rules | `(tactic| wtm_at "sq") => `(tactic| (first | assumption | exact Xk.sq_of (by wtm_at "hx") | ((refine' Xk.sq_same ?uh ?ue); (case uh => assumption); (case ue => wtm_at "sm")) | fail "sq"))
local macro_rules | `(tactic| wtm_at "st") => `(tactic| (first | assumption | exact Xk.st_of (by wtm_at "hx") | ((refine' Xk.st_same ?uh ?ue); (case uh => assumption); (case ue => wtm_at "sm")) | fail "st"))
local macro_rules | `(tactic| wtm_at "side") => `(tactic| (first | assumption | decide | omega | (refine Or.inr ?_; omega) | (refine Or.inl ?_; omega) | (refine ⟨?_, ?_⟩ <;> omega) | (refine ⟨?_, ?_, ?_⟩ <;> first | omega | decide) | fail "side"))
local macro_rules | `(tactic| wtm_at "len") => `(tactic| (first | omega | (simp only [List.length_map, List.length_append, List.length_cons, List.length_nil, List.length_set, List.length_replicate] at *; omega) | exact Nat.le_of_ble_eq_true rfl | fail "len"))
local macro_rules | `(tactic| wtm_at "x") => `(tactic| (first
  | ((with_reducible refine' Xk.x_var ?a1 ?_); (case a1 => exact rfl))
  | (with_reducible refine Xk.x_c ?_)
  | (with_reducible refine Xk.x_op ?_)
  | (with_reducible refine Xk.x_I0 ?_)
  | ((with_reducible refine' Xk.x_I ?a1 ?_); (case a1 => wtm_at "side"))
  | (with_reducible refine Xk.x_cons ?_)
  | (with_reducible refine Xk.x_nil ?_)
  | (with_reducible refine Xk.x_cb ?_)
  | (with_reducible refine Xk.x_call ?_)
  | (with_reducible refine Xk.x_sasg ?_)
  | (with_reducible refine Xk.x_asg ?_)
  | (with_reducible refine Xk.x_ret ?_)
  | (with_reducible refine Xk.x_test ?_)
  | (with_reducible refine Xk.x_bl ?_)
  | (with_reducible refine Xk.x_isI ?_)
  | (with_reducible refine Xk.x_sif ?_)
  | (with_reducible refine Xk.x_ifS ?_)
  | (with_reducible refine Xk.x_and ?_)
  | (with_reducible refine Xk.x_or ?_)
  | (with_reducible refine Xk.x_not ?_)
  | (with_reducible refine Xk.x_B ?_)
  | (with_reducible refine Xk.x_nInt ?_)
  | (with_reducible refine Xk.x_nIntB ?_)
  | ((with_reducible refine' Xk.x_lenL ?a1 ?_); (case a1 => wtm_at "sq"))
  | ((with_reducible refine' Xk.x_lenT ?a1 ?_); (case a1 => wtm_at "st"))
  | (with_reducible refine Xk.x_un ?_)
  | (with_reducible refine Xk.x_U ?_)
  | ((with_reducible refine' Xk.x_eq ?a1 ?_); (case a1 => exact rfl))
  | ((with_reducible refine' Xk.x_ne ?a1 ?_); (case a1 => exact rfl))
  | ((with_reducible refine' Xk.x_ixL ?a1 ?a2 ?_); (case a1 => wtm_at "sq"); (case a2 => first | exact rfl | assumption | exact Xk.at_nat rfl (Xk.map_at (by assumption)) | exact Xk.at_nat rfl (by assumption)))
  | ((with_reducible refine' Xk.x_ixT ?a1 ?a2 ?_); (case a1 => wtm_at "st"); (case a2 => first | exact rfl | assumption | exact Xk.at_nat rfl (Xk.map_at (by assumption)) | exact Xk.at_nat rfl (by assumption)))
  | (with_reducible refine Xk.x_lst ?_)
  | (with_reducible refine Xk.x_tup ?_)
  | ((with_reducible refine' Xk.x_new ?a1 ?_); (case a1 => wtm_at "len"))
  | ((with_reducible refine' Xk.x_listL ?a1 ?_); (case a1 => wtm_at "sq"))
  | ((with_reducible refine' Xk.x_listT ?a1 ?_); (case a1 => wtm_at "st"))
  | ((with_reducible refine' Xk.x_tupleL ?a1 ?_); (case a1 => wtm_at "sq"))
  | ((with_reducible refine' Xk.x_tupleT ?a1 ?_); (case a1 => wtm_at "st"))
  | (with_reducible refine Xk.x_seq ?_)
  | (with_reducible refine Xk.x_next ?_)
  | (with_reducible refine Xk.x_sdrop ?_)
  | (with_reducible refine Xk.x_drop ?_)
  | (with_reducible refine Xk.x_bm ?_)
  | (with_reducible refine Xk.x_bm0 ?_)
  | ((with_reducible refine' Xk.x_tyL ?a1 ?_); (case a1 => wtm_at "sq"))
  | ((with_reducible refine' Xk.x_app ?a1 ?a2 ?_); (case a1 => wtm_at "hx"); (case a2 => wtm_at "len"))
  | (with_reducible refine Xk.x_sasgG ?_)
  | (with_reducible refine Xk.x_asgG ?_)
  | (with_reducible refine Xk.x_gName ?_)
  | ((with_reducible refine' Xk.x_gTup ?a1 ?a2 ?_); (case a1 => wtm_at "st"); (case a2 => exact rfl))
  | ((with_reducible refine' Xk.x_gLst ?a1 ?a2 ?_); (case a1 => wtm_at "sq"); (case a2 => exact rfl))
  | (with_reducible refine Xk.x_gCons ?_)
  | (with_reducible refine Xk.x_gNil ?_)
  | (with_reducible refine Xk.x_gSub ?_)
  | (with_reducible refine Xk.x_if ?_)
  | (with_reducible refine Xk.x_andV ?_)
  | (with_reducible refine Xk.x_orV ?_)
  | (with_reducible refine Xk.x_notV ?_)
  | (with_reducible refine Xk.x_chain ?_)
  | (with_reducible refine Xk.x_yes ?_)
  | (with_reducible refine Xk.x_sl ?_)
  | (with_reducible refine Xk.x_nopart ?_)
  | (with_reducible refine Xk.x_part ?_)
  | ((with_reducible refine' Xk.x_slL ?a1 ?_); (case a1 => wtm_at "sq"))
  | ((with_reducible refine' Xk.x_saug ?a1 ?_); (case a1 => exact rfl))
  | ((with_reducible refine' Xk.x_aug ?a1 ?_); (case a1 => exact rfl))
  | (with_reducible refine Xk.x_ipI ?_)
  | ((with_reducible refine' Xk.x_isiInt ?a1 ?_); (case a1 => first | exact Xk.kit_T (by decide +kernel) | exact Xk.kit_F (by decide +kernel)))
  | ((with_reducible refine' Xk.x_isiBl ?a1 ?_); (case a1 => first | exact Xk.kit_T (by decide +kernel) | exact Xk.kit_F (by decide +kernel)))
  | ((with_reducible refine' Xk.x_isiStr ?a1 ?_); (case a1 => first | exact Xk.kit_T (by decide +kernel) | exact Xk.kit_F (by decide +kernel)))
  | ((with_reducible refine' Xk.x_isiNon ?a1 ?_); (case a1 => first | exact Xk.kit_T (by decide +kernel) | exact Xk.kit_F (by decide +kernel)))
  | ((with_reducible refine' Xk.x_isiLst ?a1 ?a2 ?_); (case a1 => wtm_at "hx"); (case a2 => first | exact Xk.kit_T (by decide +kernel) | exact Xk.kit_F (by decide +kernel)))
  | ((with_reducible refine' Xk.x_isiTup ?a1 ?a2 ?_); (case a1 => wtm_at "hx"); (case a2 => first | exact Xk.kit_T (by decide +kernel) | exact Xk.kit_F (by decide +kernel)))
  | (with_reducible refine Xk.x_forR1 ?_)
  | (with_reducible refine Xk.x_forL1 ?_)
  | (with_reducible refine Xk.x_forT1 ?_)
  | (with_reducible refine Xk.x_brk ?_)
  | (with_reducible refine Xk.x_ct ?_)
  | (with_reducible refine Xk.x_retN ?_)
  | (with_reducible refine Xk.x_lcL1 ?_)
  | (with_reducible refine Xk.x_lcT1 ?_)
  | (with_reducible refine Xk.x_lcR1 ?_)
  | (with_reducible refine Xk.x_lcE1 ?_)
  | (with_reducible refine Xk.x_nocutW ?_)
  | (with_reducible refine Xk.x_nIsN ?_)
  | (with_reducible refine Xk.x_nNotN ?_)
  | (with_reducible refine Xk.x_and255 ?_)
  | (with_reducible refine Xk.x_wT ?_)
  | (with_reducible refine Xk.x_wF ?_)
  | (with_reducible refine Xk.x_lstRg ?_)
  | (with_reducible refine Xk.x_rg1 ?_)
  | ((with_reducible refine' Xk.x_nRg ?a1 ?_); (case a1 => omega))
  | (with_reducible refine L2.iteT ?_)
  | (with_reducible refine L2.iteF ?_)
  | (with_reducible refine Xk.x_nT ?_)
  | (with_reducible refine Xk.x_nF ?_)
  | ((with_reducible refine' Xk.x_dY ?a1 ?_); (case a1 => first | exact rfl | assumption | omega))
  | ((with_reducible refine' Xk.x_dN ?a1 ?_); (case a1 => first | assumption | omega | (intro z; cases z; done)))
  | ((with_reducible refine' Xk.x_ndY ?a1 ?_); (case a1 => first | exact rfl | assumption | omega))
  | ((with_reducible refine' Xk.x_ndN ?a1 ?_); (case a1 => first | assumption | omega | (intro z; cases z; done)))
  | (with_reducible refine Xk.x_lc2 ?_)
  | (with_reducible refine Xk.x_fld1 ?_)
  | ((with_reducible refine' Xk.x_rFld ?a1 ?a2 ?a3 ?a4 ?_); (case a1 => wtm_at "hx"); (case a2 => wtm_at "cls"); (case a3 => wtm_at "cls"); (case a4 => exact rfl))
  | (with_reducible refine Xk.x_ssfld ?_)
  | (with_reducible refine Xk.x_sfld ?_)
  | ((with_reducible refine' Xk.x_rSetF ?a1 ?a2 ?a3 ?a4 ?_); (case a1 => wtm_at "hx"); (case a2 => wtm_at "cls"); (case a3 => wtm_at "cls"); (case a4 => exact Nat.le_of_ble_eq_true rfl))
  | (with_reducible refine Xk.x_prop ?_)
  | ((with_reducible refine' Xk.x_rProp ?a1 ?_); (case a1 => wtm_at "hx"))
  | (with_reducible refine Xk.x_meth ?_)
  | ((with_reducible refine' Xk.x_rMeth ?a1 ?a2 ?_); (case a1 => wtm_at "hx"); (case a2 => exact rfl))
  | (with_reducible refine Xk.x_make ?_)
  | (with_reducible refine Xk.x_sdelT ?_)
  | (with_reducible refine Xk.x_delT ?_)
  | (with_reducible refine Xk.x_nMax2 ?_)
  | (with_reducible refine Xk.x_nMin2 ?_)
  | ((with_reducible refine' Xk.x_nRepS ?a1 ?a2 ?_); (case a1 => wtm_at "side"); (case a2 => decide))
  | (with_reducible refine Xk.x_inS ?_)
  | (with_reducible refine Xk.x_notInS ?_)
  | ((with_reducible refine' Xk.x_nAddS ?a1 ?_); (case a1 => wtm_at "len"))
  | ((with_reducible refine' Xk.x_nLenS ?a1 ?_); (case a1 => wtm_at "len"))
  | ((with_reducible refine' Xk.x_slS ?a1 ?_); (case a1 => wtm_at "len"))
  | (with_reducible refine Xk.x_lcS1 ?_)
  | (with_reducible refine Xk.x_forS1 ?_)
  | (with_reducible refine Xk.x_ord ?_)
  | (with_reducible refine Xk.x_dget1 ?_)
  | ((with_reducible refine' Xk.x_rGetD ?a1 ?_); (case a1 => wtm_at "hx"))
  | ((with_reducible refine' Xk.x_rGet1 ?a1 ?_); (case a1 => wtm_at "hx"))
  | (with_reducible refine Xk.x_dget2 ?_)
  | ((with_reducible refine' Xk.x_rGetE ?a1 ?_); (case a1 => wtm_at "hx"))
  | ((with_reducible refine' Xk.x_rGet2 ?a1 ?_); (case a1 => wtm_at "hx"))
  | (with_reducible refine Xk.x_dpop1 ?_)
  | ((with_reducible refine' Xk.x_rPopD ?a1 ?_); (case a1 => wtm_at "hx"))
  | (with_reducible refine Xk.x_dpop2 ?_)
  | ((with_reducible refine' Xk.x_rPopE ?a1 ?_); (case a1 => wtm_at "hx"))
  | (with_reducible refine Xk.x_din ?_)
  | ((with_reducible refine' Xk.x_rDInK ?a1 ?_); (case a1 => wtm_at "hx"))
  | (with_reducible refine Xk.x_dnew ?_)
  | (with_reducible refine Xk.x_notBl ?_)
  | (with_reducible refine Xk.x_isBl ?_)
  | (with_reducible refine Xk.x_dget ?_)
  | ((with_reducible refine' Xk.x_rDG ?a1 ?a2 ?_); (case a1 => wtm_at "hx"); (case a2 => wtm_at "key"))
  | (with_reducible refine Xk.x_sdput ?_)
  | (with_reducible refine Xk.x_dput ?_)
  | ((with_reducible refine' Xk.x_rDP ?a1 ?a2 ?a3 ?_); (case a1 => wtm_at "hx"); (case a2 => wtm_at "few"); (case a3 => wtm_at "key"))
  | (with_reducible refine Xk.x_pcons ?_)
  | (with_reducible refine Xk.x_pnil ?_)
  | (with_reducible refine Xk.x_forRev1 ?_)
  | (with_reducible refine Xk.x_forR2 ?_)
  | ((with_reducible refine' Xk.x_geP ?a1 ?a2 ?_); (case a1 => wtm_at "st"); (case a2 => wtm_at "st"))
  | ((with_reducible refine' Xk.x_ltP ?a1 ?a2 ?_); (case a1 => wtm_at "st"); (case a2 => wtm_at "st"))
  | (with_reducible refine Xk.x_lcZ1 ?_)
  | (with_reducible refine Xk.x_lcET1 ?_)
  | (with_reducible refine Xk.x_dcT1 ?_)
  | (with_reducible refine Xk.x_nLtS ?_)
  | (with_reducible refine Xk.x_nLeS ?_)
  | (with_reducible refine Xk.x_nGeS ?_)
  | (with_reducible refine Xk.x_spar ?_)
  | (with_reducible refine Xk.x_par ?_)
  | (with_reducible refine Xk.x_rPar ?_)
  | (with_reducible refine Xk.x_gSubSl ?_)
  | fail "x"))
local macro_rules | `(tactic| wtm_at "xs") => `(tactic| ((repeat wtm_at "x"); try dsimp only [L2.wipe, List.set, List.append_nil, List.cons_append, List.nil_append]))
local macro_rules | `(tactic| wtm_at "x0") => `(tactic| (dsimp only [L2.cxOf, L2.start, List.map, List.length, List.replicate, Nat.reduceAdd, Nat.reduceSub, List.cons_append, List.nil_append]))
local macro_rules | `(tactic| wtm_at "xc") => `(tactic| (dsimp only [L2.wipe, List.set, List.append_nil, List.cons_append, List.nil_append]))

local macro_rules | `(tactic| wtm_at "x") => `(tactic| (first | (with_reducible refine Xk.x_lc2LT ?_) | (with_reducible refine Xk.x_lc2TT ?_) | (with_reducible refine Xk.x_sortK ?_) | fail "x"))
namespace K05
open PySem PySem.Spec PyProof.Rows L2
def qL : Str := ("_by_place.<locals>." : Str) ++ "<lambda>"
def topS (i : Nat) : Stmt := PySem.Challenge.pw_crosskeep_k05_whole_deal_is_its_parts.main.body.getD i (.Pass ⟨0, 0, 0, 0⟩)
abbrev s_is_integer : Stmt := topS 1
abbrev N_is_integer : List Str := ["data"]
theorem sc_is_integer : FnScope ["data"] ["data"] (defScope s_is_integer) := ⟨rfl, rfl, rfl, by decide +kernel, rfl, by decide +kernel, by decide +kernel⟩
abbrev s_is_text : Stmt := topS 5
abbrev N_is_text : List Str := ["data", "sign"]
theorem sc_is_text : FnScope ["data", "sign"] ["data"] (defScope s_is_text) := ⟨rfl, rfl, rfl, by decide +kernel, rfl, by decide +kernel, by decide +kernel⟩
abbrev s_is_integer_within : Stmt := topS 9
abbrev N_is_integer_within : List Str := ["data", "most"]
theorem sc_is_integer_within : FnScope ["data", "most"] ["data", "most"] (defScope s_is_integer_within) := ⟨rfl, rfl, rfl, by decide +kernel, rfl, by decide +kernel, by decide +kernel⟩
abbrev s_is_value : Stmt := topS 10
abbrev N_is_value : List Str := ["data"]
theorem sc_is_value : FnScope ["data"] ["data"] (defScope s_is_value) := ⟨rfl, rfl, rfl, by decide +kernel, rfl, by decide +kernel, by decide +kernel⟩
abbrev s_key_of_deed : Stmt := topS 12
abbrev N_key_of_deed : List Str := ["deed"]
theorem sc_key_of_deed : FnScope ["deed"] ["deed"] (defScope s_key_of_deed) := ⟨rfl, rfl, rfl, by decide +kernel, rfl, by decide +kernel, by decide +kernel⟩
abbrev s_apply_deed : Stmt := topS 13
abbrev N_apply_deed : List Str := ["rows", "deed", "word", "key", "before"]
theorem sc_apply_deed : FnScope ["rows", "deed", "word", "key", "before"] ["rows", "deed"] (defScope s_apply_deed) := ⟨rfl, rfl, rfl, by decide +kernel, rfl, by decide +kernel, by decide +kernel⟩
abbrev s__add : Stmt := topS 14
abbrev N__add : List Str := ["rows", "key", "number", "before"]
theorem sc__add : FnScope ["rows", "key", "number", "before"] ["rows", "key", "number"] (defScope s__add) := ⟨rfl, rfl, rfl, by decide +kernel, rfl, by decide +kernel, by decide +kernel⟩
abbrev s_part_of : Stmt := topS 16
abbrev N_part_of : List Str := ["deal", "keys", "checks", "deeds", "place", "key", "value", "deed"]
theorem sc_part_of : FnScope ["deal", "keys", "checks", "deeds", "place", "key", "value", "deed"] ["deal", "keys"] (defScope s_part_of) := ⟨rfl, rfl, rfl, by decide +kernel, rfl, by decide +kernel, by decide +kernel⟩
abbrev s_keys_of_part : Stmt := topS 17
abbrev N_keys_of_part : List Str := ["part", "checks", "deeds", "place", "key", "value", "deed"]
theorem sc_keys_of_part : FnScope ["part", "checks", "deeds", "place", "key", "value", "deed"] ["part"] (defScope s_keys_of_part) := ⟨rfl, rfl, rfl, by decide +kernel, rfl, by decide +kernel, by decide +kernel⟩
abbrev s_try_part : Stmt := topS 18
abbrev N_try_part : List Str := ["rows", "part", "checks", "deeds", "values", "keys", "behind", "answers", "writes", "place", "key", "value", "deed"]
theorem sc_try_part : FnScope ["rows", "part", "checks", "deeds", "values", "keys", "behind", "answers", "writes", "place", "key", "value", "deed"] ["rows", "part"] (defScope s_try_part) := ⟨rfl, rfl, rfl, by decide +kernel, rfl, by decide +kernel, by decide +kernel⟩
abbrev s_write_rows : Stmt := topS 19
abbrev N_write_rows : List Str := ["rows", "writes", "key", "value"]
theorem sc_write_rows : FnScope ["rows", "writes", "key", "value"] ["rows", "writes"] (defScope s_write_rows) := ⟨rfl, rfl, rfl, by decide +kernel, rfl, by decide +kernel, by decide +kernel⟩
abbrev s_join_parts : Stmt := topS 20
abbrev N_join_parts : List Str := ["tried", "held", "values", "answers", "writes", "pair"]
theorem sc_join_parts : FnScope ["tried", "held", "values", "answers", "writes", "pair"] ["tried"] (defScope s_join_parts) := ⟨rfl, rfl, rfl, by decide +kernel, rfl, by decide +kernel, by decide +kernel⟩
abbrev s__by_place : Stmt := topS 21
abbrev N__by_place : List Str := ["pairs", "place", "told"]
theorem sc__by_place : FnScope ["pairs", "place", "told"] ["pairs"] (defScope s__by_place) := ⟨rfl, rfl, rfl, by decide +kernel, rfl, by decide +kernel, by decide +kernel⟩
abbrev s_keys_of : Stmt := topS 23
abbrev N_keys_of : List Str := ["deal", "checks", "deeds", "key", "value", "deed"]
theorem sc_keys_of : FnScope ["deal", "checks", "deeds", "key", "value", "deed"] ["deal"] (defScope s_keys_of) := ⟨rfl, rfl, rfl, by decide +kernel, rfl, by decide +kernel, by decide +kernel⟩
abbrev s_do_deal : Stmt := topS 24
abbrev N_do_deal : List Str := ["rows", "deal", "checks", "deeds", "values", "key", "value", "deed"]
theorem sc_do_deal : FnScope ["rows", "deal", "checks", "deeds", "values", "key", "value", "deed"] ["rows", "deal"] (defScope s_do_deal) := ⟨rfl, rfl, rfl, by decide +kernel, rfl, by decide +kernel, by decide +kernel⟩
abbrev s__law_row : Stmt := topS 26
abbrev N__law_row : List Str := ["script", "k", "cell", "first", "second"]
theorem sc__law_row : FnScope ["script", "k", "cell", "first", "second"] ["script", "k"] (defScope s__law_row) := ⟨rfl, rfl, rfl, by decide +kernel, rfl, by decide +kernel, by decide +kernel⟩
abbrev s__law_digits : Stmt := topS 27
abbrev N__law_digits : List Str := ["row", "sizes", "digits", "size"]
theorem sc__law_digits : FnScope ["row", "sizes", "digits", "size"] ["row", "sizes"] (defScope s__law_digits) := ⟨rfl, rfl, rfl, by decide +kernel, rfl, by decide +kernel, by decide +kernel⟩
abbrev s__law_sign : Stmt := topS 28
abbrev N__law_sign : List Str := ["number", "signs"]
theorem sc__law_sign : FnScope ["number", "signs"] ["number"] (defScope s__law_sign) := ⟨rfl, rfl, rfl, by decide +kernel, rfl, by decide +kernel, by decide +kernel⟩
abbrev s__law_text : Stmt := topS 29
abbrev N__law_text : List Str := ["row", "count", "text", "rest", "k"]
theorem sc__law_text : FnScope ["row", "count", "text", "rest", "k"] ["row", "count"] (defScope s__law_text) := ⟨rfl, rfl, rfl, by decide +kernel, rfl, by decide +kernel, by decide +kernel⟩
abbrev s__law_key : Stmt := topS 30
abbrev N__law_key : List Str := ["row", "most", "signs", "count", "rest", "key", "k"]
theorem sc__law_key : FnScope ["row", "most", "signs", "count", "rest", "key", "k"] ["row", "most"] (defScope s__law_key) := ⟨rfl, rfl, rfl, by decide +kernel, rfl, by decide +kernel, by decide +kernel⟩
abbrev s__law_value : Stmt := topS 31
abbrev N__law_value : List Str := ["row", "kind", "sign", "more", "number"]
theorem sc__law_value : FnScope ["row", "kind", "sign", "more", "number"] ["row"] (defScope s__law_value) := ⟨rfl, rfl, rfl, by decide +kernel, rfl, by decide +kernel, by decide +kernel⟩
abbrev s__law_deed : Stmt := topS 32
abbrev N__law_deed : List Str := ["keys", "row", "kind", "at", "sign", "number", "key"]
theorem sc__law_deed : FnScope ["keys", "row", "kind", "at", "sign", "number", "key"] ["keys", "row"] (defScope s__law_deed) := ⟨rfl, rfl, rfl, by decide +kernel, rfl, by decide +kernel, by decide +kernel⟩
abbrev s__law_done : Stmt := topS 33
abbrev N__law_done : List Str := ["rows", "deed", "key", "before"]
theorem sc__law_done : FnScope ["rows", "deed", "key", "before"] ["rows", "deed"] (defScope s__law_done) := ⟨rfl, rfl, rfl, by decide +kernel, rfl, by decide +kernel, by decide +kernel⟩
abbrev s__law_same : Stmt := topS 34
abbrev N__law_same : List Str := ["actual", "due"]
theorem sc__law_same : FnScope ["actual", "due"] ["actual", "due"] (defScope s__law_same) := ⟨rfl, rfl, rfl, by decide +kernel, rfl, by decide +kernel, by decide +kernel⟩
abbrev s__law_copy : Stmt := topS 35
abbrev N__law_copy : List Str := ["rows", "twin", "key"]
theorem sc__law_copy : FnScope ["rows", "twin", "key"] ["rows"] (defScope s__law_copy) := ⟨rfl, rfl, rfl, by decide +kernel, rfl, by decide +kernel, by decide +kernel⟩
abbrev s__law_keys : Stmt := topS 36
abbrev N__law_keys : List Str := ["script", "at", "most", "keys", "count", "k", "key"]
theorem sc__law_keys : FnScope ["script", "at", "most", "keys", "count", "k", "key"] ["script", "at", "most"] (defScope s__law_keys) := ⟨rfl, rfl, rfl, by decide +kernel, rfl, by decide +kernel, by decide +kernel⟩
abbrev s__law_rows : Stmt := topS 37
abbrev N__law_rows : List Str := ["script", "at", "keys", "rows", "k"]
theorem sc__law_rows : FnScope ["script", "at", "keys", "rows", "k"] ["script", "at", "keys"] (defScope s__law_rows) := ⟨rfl, rfl, rfl, by decide +kernel, rfl, by decide +kernel, by decide +kernel⟩
abbrev s__law_deal : Stmt := topS 38
abbrev N__law_deal : List Str := ["keys", "rows", "row", "more", "checks", "deeds", "many_checks", "many_deeds", "right", "k", "at", "kind", "value", "key", "check"]
theorem sc__law_deal : FnScope ["keys", "rows", "row", "more", "checks", "deeds", "many_checks", "many_deeds", "right", "k", "at", "kind", "value", "key", "check"] ["keys", "rows", "row", "more"] (defScope s__law_deal) := ⟨rfl, rfl, rfl, by decide +kernel, rfl, by decide +kernel, by decide +kernel⟩
abbrev s__law_deal_done : Stmt := topS 39
abbrev N__law_deal_done : List Str := ["rows", "deal", "values", "held", "key", "value", "answers", "deed"]
theorem sc__law_deal_done : FnScope ["rows", "deal", "values", "held", "key", "value", "answers", "deed"] ["rows", "deal"] (defScope s__law_deal_done) := ⟨rfl, rfl, rfl, by decide +kernel, rfl, by decide +kernel, by decide +kernel⟩
abbrev s__law_same_answer : Stmt := topS 40
abbrev N__law_same_answer : List Str := ["actual", "due", "k"]
theorem sc__law_same_answer : FnScope ["actual", "due", "k"] ["actual", "due"] (defScope s__law_same_answer) := ⟨rfl, rfl, rfl, by decide +kernel, rfl, by decide +kernel, by decide +kernel⟩
abbrev s__law_split : Stmt := topS 42
abbrev N__law_split : List Str := ["keys", "row", "many", "sets", "k", "chosen"]
theorem sc__law_split : FnScope ["keys", "row", "many", "sets", "k", "chosen"] ["keys", "row", "many"] (defScope s__law_split) := ⟨rfl, rfl, rfl, by decide +kernel, rfl, by decide +kernel, by decide +kernel⟩
abbrev s__law_tried_parts : Stmt := topS 43
abbrev N__law_tried_parts : List Str := ["rows", "deal", "sets", "tried", "named", "keys", "part", "known", "key"]
theorem sc__law_tried_parts : FnScope ["rows", "deal", "sets", "tried", "named", "keys", "part", "known", "key"] ["rows", "deal", "sets"] (defScope s__law_tried_parts) := ⟨rfl, rfl, rfl, by decide +kernel, rfl, by decide +kernel, by decide +kernel⟩
abbrev s_law : Stmt := topS 44
abbrev N_law : List Str := ["script", "keys", "rows", "k", "deal", "many", "turn", "names", "pair", "tried", "model", "due", "passed", "whole", "some"]
theorem sc_law : FnScope ["script", "keys", "rows", "k", "deal", "many", "turn", "names", "pair", "tried", "model", "due", "passed", "whole", "some"] ["script"] (defScope s_law) := ⟨rfl, rfl, rfl, by decide +kernel, rfl, by decide +kernel, by decide +kernel⟩
structure Txt (K : PySem.W.Frag) (mg : Str → Option Value) where
  t_HIGH_SIGNS : Tok
  g_HIGH_SIGNS : mg "HIGH_SIGNS" = some (.str "&'()*+,-./0123456789:;<=>?@ABCDEFGHIJKLMNOPQRSTUVWXYZ[\\]^_`abcdefghijklmnopqrstuvwxyz{|}~" t_HIGH_SIGNS)
  t_LOW_SIGNS : Tok
  g_LOW_SIGNS : mg "LOW_SIGNS" = some (.str " !\"#$" t_LOW_SIGNS)
  t_MOST_VALUE : Tok
  g_MOST_VALUE : mg "MOST_VALUE" = some (.int 1000000000000000 t_MOST_VALUE)
  t_VALUE_SIGNS : Tok
  g_VALUE_SIGNS : mg "VALUE_SIGNS" = some (.int 20 t_VALUE_SIGNS)
  f_is_integer : Addr
  d_is_integer : FuncData
  F_is_integer : Fun K "is_integer" "is_integer" s_is_integer f_is_integer d_is_integer
  b_is_integer : Binds K d_is_integer ["data"] []
  g_is_integer : mg "is_integer" = some (.ref f_is_integer)
  f_is_text : Addr
  d_is_text : FuncData
  F_is_text : Fun K "is_text" "is_text" s_is_text f_is_text d_is_text
  b_is_text : Binds K d_is_text ["data"] []
  g_is_text : mg "is_text" = some (.ref f_is_text)
  f_is_integer_within : Addr
  d_is_integer_within : FuncData
  F_is_integer_within : Fun K "is_integer_within" "is_integer_within" s_is_integer_within f_is_integer_within d_is_integer_within
  b_is_integer_within : Binds K d_is_integer_within ["data", "most"] []
  g_is_integer_within : mg "is_integer_within" = some (.ref f_is_integer_within)
  f_is_value : Addr
  d_is_value : FuncData
  F_is_value : Fun K "is_value" "is_value" s_is_value f_is_value d_is_value
  b_is_value : Binds K d_is_value ["data"] []
  g_is_value : mg "is_value" = some (.ref f_is_value)
  f_key_of_deed : Addr
  d_key_of_deed : FuncData
  F_key_of_deed : Fun K "key_of_deed" "key_of_deed" s_key_of_deed f_key_of_deed d_key_of_deed
  b_key_of_deed : Binds K d_key_of_deed ["deed"] []
  g_key_of_deed : mg "key_of_deed" = some (.ref f_key_of_deed)
  f_apply_deed : Addr
  d_apply_deed : FuncData
  F_apply_deed : Fun K "apply_deed" "apply_deed" s_apply_deed f_apply_deed d_apply_deed
  b_apply_deed : Binds K d_apply_deed ["rows", "deed"] []
  g_apply_deed : mg "apply_deed" = some (.ref f_apply_deed)
  f__add : Addr
  d__add : FuncData
  F__add : Fun K "_add" "_add" s__add f__add d__add
  b__add : Binds K d__add ["rows", "key", "number"] []
  g__add : mg "_add" = some (.ref f__add)
  f_part_of : Addr
  d_part_of : FuncData
  F_part_of : Fun K "part_of" "part_of" s_part_of f_part_of d_part_of
  b_part_of : Binds K d_part_of ["deal", "keys"] []
  g_part_of : mg "part_of" = some (.ref f_part_of)
  f_keys_of_part : Addr
  d_keys_of_part : FuncData
  F_keys_of_part : Fun K "keys_of_part" "keys_of_part" s_keys_of_part f_keys_of_part d_keys_of_part
  b_keys_of_part : Binds K d_keys_of_part ["part"] []
  g_keys_of_part : mg "keys_of_part" = some (.ref f_keys_of_part)
  f_try_part : Addr
  d_try_part : FuncData
  F_try_part : Fun K "try_part" "try_part" s_try_part f_try_part d_try_part
  b_try_part : Binds K d_try_part ["rows", "part"] []
  g_try_part : mg "try_part" = some (.ref f_try_part)
  f_write_rows : Addr
  d_write_rows : FuncData
  F_write_rows : Fun K "write_rows" "write_rows" s_write_rows f_write_rows d_write_rows
  b_write_rows : Binds K d_write_rows ["rows", "writes"] []
  g_write_rows : mg "write_rows" = some (.ref f_write_rows)
  f_join_parts : Addr
  d_join_parts : FuncData
  F_join_parts : Fun K "join_parts" "join_parts" s_join_parts f_join_parts d_join_parts
  b_join_parts : Binds K d_join_parts ["tried"] []
  g_join_parts : mg "join_parts" = some (.ref f_join_parts)
  f__by_place : Addr
  d__by_place : FuncData
  c__by_place : Addr
  P__by_place : Addr
  F__by_place : Xk.FunC K "_by_place" "_by_place" s__by_place f__by_place d__by_place c__by_place
  b__by_place : Binds K d__by_place ["pairs"] []
  g__by_place : mg "_by_place" = some (.ref f__by_place)
  f_keys_of : Addr
  d_keys_of : FuncData
  F_keys_of : Fun K "keys_of" "keys_of" s_keys_of f_keys_of d_keys_of
  b_keys_of : Binds K d_keys_of ["deal"] []
  g_keys_of : mg "keys_of" = some (.ref f_keys_of)
  f_do_deal : Addr
  d_do_deal : FuncData
  F_do_deal : Fun K "do_deal" "do_deal" s_do_deal f_do_deal d_do_deal
  b_do_deal : Binds K d_do_deal ["rows", "deal"] []
  g_do_deal : mg "do_deal" = some (.ref f_do_deal)
  f__law_row : Addr
  d__law_row : FuncData
  F__law_row : Fun K "_law_row" "_law_row" s__law_row f__law_row d__law_row
  b__law_row : Binds K d__law_row ["script", "k"] []
  g__law_row : mg "_law_row" = some (.ref f__law_row)
  f__law_digits : Addr
  d__law_digits : FuncData
  F__law_digits : Fun K "_law_digits" "_law_digits" s__law_digits f__law_digits d__law_digits
  b__law_digits : Binds K d__law_digits ["row", "sizes"] []
  g__law_digits : mg "_law_digits" = some (.ref f__law_digits)
  f__law_sign : Addr
  d__law_sign : FuncData
  F__law_sign : Fun K "_law_sign" "_law_sign" s__law_sign f__law_sign d__law_sign
  b__law_sign : Binds K d__law_sign ["number"] []
  g__law_sign : mg "_law_sign" = some (.ref f__law_sign)
  f__law_text : Addr
  d__law_text : FuncData
  F__law_text : Fun K "_law_text" "_law_text" s__law_text f__law_text d__law_text
  b__law_text : Binds K d__law_text ["row", "count"] []
  g__law_text : mg "_law_text" = some (.ref f__law_text)
  f__law_key : Addr
  d__law_key : FuncData
  F__law_key : Fun K "_law_key" "_law_key" s__law_key f__law_key d__law_key
  b__law_key : Binds K d__law_key ["row", "most"] []
  g__law_key : mg "_law_key" = some (.ref f__law_key)
  f__law_value : Addr
  d__law_value : FuncData
  F__law_value : Fun K "_law_value" "_law_value" s__law_value f__law_value d__law_value
  b__law_value : Binds K d__law_value ["row"] []
  g__law_value : mg "_law_value" = some (.ref f__law_value)
  f__law_deed : Addr
  d__law_deed : FuncData
  F__law_deed : Fun K "_law_deed" "_law_deed" s__law_deed f__law_deed d__law_deed
  b__law_deed : Binds K d__law_deed ["keys", "row"] []
  g__law_deed : mg "_law_deed" = some (.ref f__law_deed)
  f__law_done : Addr
  d__law_done : FuncData
  F__law_done : Fun K "_law_done" "_law_done" s__law_done f__law_done d__law_done
  b__law_done : Binds K d__law_done ["rows", "deed"] []
  g__law_done : mg "_law_done" = some (.ref f__law_done)
  f__law_same : Addr
  d__law_same : FuncData
  F__law_same : Fun K "_law_same" "_law_same" s__law_same f__law_same d__law_same
  b__law_same : Binds K d__law_same ["actual", "due"] []
  g__law_same : mg "_law_same" = some (.ref f__law_same)
  f__law_copy : Addr
  d__law_copy : FuncData
  F__law_copy : Fun K "_law_copy" "_law_copy" s__law_copy f__law_copy d__law_copy
  b__law_copy : Binds K d__law_copy ["rows"] []
  g__law_copy : mg "_law_copy" = some (.ref f__law_copy)
  f__law_keys : Addr
  d__law_keys : FuncData
  F__law_keys : Fun K "_law_keys" "_law_keys" s__law_keys f__law_keys d__law_keys
  b__law_keys : Binds K d__law_keys ["script", "at", "most"] []
  g__law_keys : mg "_law_keys" = some (.ref f__law_keys)
  f__law_rows : Addr
  d__law_rows : FuncData
  F__law_rows : Fun K "_law_rows" "_law_rows" s__law_rows f__law_rows d__law_rows
  b__law_rows : Binds K d__law_rows ["script", "at", "keys"] []
  g__law_rows : mg "_law_rows" = some (.ref f__law_rows)
  f__law_deal : Addr
  d__law_deal : FuncData
  F__law_deal : Fun K "_law_deal" "_law_deal" s__law_deal f__law_deal d__law_deal
  b__law_deal : Binds K d__law_deal ["keys", "rows", "row", "more"] []
  g__law_deal : mg "_law_deal" = some (.ref f__law_deal)
  f__law_deal_done : Addr
  d__law_deal_done : FuncData
  F__law_deal_done : Fun K "_law_deal_done" "_law_deal_done" s__law_deal_done f__law_deal_done d__law_deal_done
  b__law_deal_done : Binds K d__law_deal_done ["rows", "deal"] []
  g__law_deal_done : mg "_law_deal_done" = some (.ref f__law_deal_done)
  f__law_same_answer : Addr
  d__law_same_answer : FuncData
  F__law_same_answer : Fun K "_law_same_answer" "_law_same_answer" s__law_same_answer f__law_same_answer d__law_same_answer
  b__law_same_answer : Binds K d__law_same_answer ["actual", "due"] []
  g__law_same_answer : mg "_law_same_answer" = some (.ref f__law_same_answer)
  f__law_split : Addr
  d__law_split : FuncData
  F__law_split : Fun K "_law_split" "_law_split" s__law_split f__law_split d__law_split
  b__law_split : Binds K d__law_split ["keys", "row", "many"] []
  g__law_split : mg "_law_split" = some (.ref f__law_split)
  f__law_tried_parts : Addr
  d__law_tried_parts : FuncData
  F__law_tried_parts : Fun K "_law_tried_parts" "_law_tried_parts" s__law_tried_parts f__law_tried_parts d__law_tried_parts
  b__law_tried_parts : Binds K d__law_tried_parts ["rows", "deal", "sets"] []
  g__law_tried_parts : mg "_law_tried_parts" = some (.ref f__law_tried_parts)
  f_law : Addr
  d_law : FuncData
  F_law : Fun K "law" "law" s_law f_law d_law
  b_law : Binds K d_law ["script"] []
  g_law : mg "law" = some (.ref f_law)
  m_all : mg "all" = none
  m_bool : mg "bool" = none
  m_enumerate : mg "enumerate" = none
  m_int : mg "int" = none
  m_isinstance : mg "isinstance" = none
  m_len : mg "len" = none
  m_list : mg "list" = none
  m_range : mg "range" = none
  m_set : mg "set" = none
  m_sorted : mg "sorted" = none
  m_str : mg "str" = none
  m_tuple : mg "tuple" = none
section
variable {P : Program} {w : World} {K : PySem.W.Frag} {mg : Str → Option Value} {base : Heap}
def sp__law_row (K : PySem.W.Frag) : Sp := fun vs H Q _ => ∃ (a : Addr) (k : Int) (ns : List Int), vs = [.ref a, .int k] ∧ SqL K H a (ns.map V.int) ∧ ns.length ≤ 63 ∧ 0 ≤ k ∧ k ≤ 1000 ∧ ∀ n : Int, 0 ≤ n → Q (.int n) H
theorem ok__law_row (T : Txt K mg) : FnOk P w K mg base CX0 1 T.f__law_row T.d__law_row ["script", "k"] (sp__law_row K) := by
  refine T.F__law_row.ok sc__law_row (fun vs H Q E h => ?_) (fun cdv A outer s H vs Q E hr h => ?_)
  · obtain ⟨a, k, ns, rfl, _⟩ := h
    rfl
  obtain ⟨a, k, ns, rfl, hS, hl, hk, hk2, q⟩ := h
  refine ⟨_, (pss_cons (ps_set (i := 2) sc__law_row.nd rfl (Or.inl rfl) (pe_int))
      (Evl.pss_cut (ps_if (pt_cmpR op_gt (pe_callB (Xk.k_len (K := K) (by rfl)) (by rfl) T.m_len PySem.boot_len (pa_cons (pv 0) pa_nil)) (pe_int) (nomark _)) (pss_one (ps_set (i := 2) sc__law_row.nd rfl (Or.inl rfl) (pe_ix (Xk.k_ixL (K := K) (by rfl)) (pv 0) (pe_op op_mod (pe_callTy Xk.call_nInt (by rfl) T.m_int (by decide +kernel) (pa_cons (pv 1) pa_nil)) (pe_callB (Xk.k_len (K := K) (by rfl)) (by rfl) T.m_len PySem.boot_len (pa_cons (pv 0) pa_nil))) (fun _ _ => rfl)))) pss_nil)
      (Evl.pss_cut (ps_if (pt_cmpR op_lt (pv 2) (pe_int) (nomark _)) (pss_one (ps_set (i := 2) sc__law_row.nd rfl (Or.inl rfl) (pe_op op_sub (pe_int) (pe_op op_mul (pe_int) (pv 2))))) pss_nil)
      (Evl.pss_cut (ps_if (PW.pt (pw_and (pt_cmpR op_ge (pv 2) (pe_op op_pow (pe_int) (pe_int)) (nomark _)) (pw_and1 (pt_cmpR op_lt (pv 1) (pe_callB (Xk.k_len (K := K) (by rfl)) (by rfl) T.m_len PySem.boot_len (pa_cons (pv 0) pa_nil)) (nomark _))))) (pss_one (ps_ret (pv 2))) pss_nil)
      (pss_cons (ps_set (i := 3) sc__law_row.nd rfl (Or.inl rfl) (pe_op op_mod (pe_callTy Xk.call_nInt (by rfl) T.m_int (by decide +kernel) (pa_cons (pe_op op_add (pe_op op_add (pe_op op_mul (pv 2) (pe_int)) (pe_op op_mul (pe_op op_add (pv 1) (pe_int)) (pe_int))) (pe_callB (Xk.k_len (K := K) (by rfl)) (by rfl) T.m_len PySem.boot_len (pa_cons (pv 0) pa_nil))) pa_nil)) (pe_int)))
      (pss_cons (ps_set (i := 4) sc__law_row.nd rfl (Or.inl rfl) (pe_op op_mod (pe_callTy Xk.call_nInt (by rfl) T.m_int (by decide +kernel) (pa_cons (pe_op op_add (pe_op op_add (pe_op op_mul (pv 3) (pv 3)) (pe_op op_mul (pv 2) (pe_int))) (pv 1)) pa_nil)) (pe_int)))
      (pss_one (ps_ret (pe_op op_add (pe_op op_mul (pv 4) (pe_int)) (pe_op op_mod (pe_callTy Xk.call_nInt (by rfl) T.m_int (by decide +kernel) (pa_cons (pe_op op_mul (pv 3) (pe_int)) pa_nil)) (pe_int))))))))))), ?_⟩
  wtm_at "x0"
  wtm_at "xs"
  refine Xk.x_cut (fun σ' H' => H = H' ∧ ∃ c : Int, σ' = [some (.ref a), some (.int k), some (.int c), none, none]) ?_ ?_
  · wtm_at "xs"
    refine Xk.x_itd (fun h => ?_) (fun h => ?_)
    · wtm_at "xs"
      rw [List.length_map] at h ⊢
      have h1 : k % (ns.length : Int) < ns.length := Int.emod_lt_of_pos _ h
      have h2 : 0 ≤ k % (ns.length : Int) := Int.emod_nonneg _ (by omega)
      obtain ⟨j, hj⟩ := Int.eq_ofNat_of_zero_le h2
      rw [hj] at h1 ⊢
      have h3 : j < ns.length := by omega
      refine Xk.x_ixL hS (atI_nat (j := j) (by rw [List.getElem?_map, List.getElem?_eq_getElem h3]; rfl)) ?_
      exact ⟨rfl, _, rfl⟩
    · wtm_at "xs"
      exact ⟨rfl, _, rfl⟩
  rintro σ' H' ⟨rfl, c, rfl⟩
  refine Xk.x_cut (fun σ' H' => H = H' ∧ ∃ c : Int, 0 ≤ c ∧ σ' = [some (.ref a), some (.int k), some (.int c), none, none]) ?_ ?_
  · wtm_at "xs"
    refine Xk.x_itd (fun h => ?_) (fun h => ?_)
    · wtm_at "xs"
      exact ⟨rfl, _, by omega, rfl⟩
    · wtm_at "xs"
      exact ⟨rfl, _, by omega, rfl⟩
  rintro σ' H' ⟨rfl, c, hc, rfl⟩
  refine Xk.x_cut (fun σ' H' => H = H' ∧ σ' = [some (.ref a), some (.int k), some (.int c), none, none]) ?_ ?_
  · wtm_at "xs"
    refine Xk.x_itd (fun h => ?_) (fun h => ?_)
    · wtm_at "xs"
      refine Xk.x_itd (fun h => ?_) (fun h => ?_)
      · wtm_at "xs"
        exact q _ hc
      · wtm_at "xs"
        exact ⟨rfl, rfl⟩
    · wtm_at "xs"
      exact ⟨rfl, rfl⟩
  rintro σ' H' ⟨rfl, rfl⟩
  wtm_at "xs"
  exact q _ (by omega)
def sp__law_digits (K : PySem.W.Frag) : Sp := fun vs H Q _ => ∃ (n : Int) (a : Addr) (zs : List Int), vs = [.int n, .ref a] ∧ SqL K H a (zs.map V.int) ∧ zs.length ≤ 20 ∧ (∀ z ∈ zs, 0 < z ∧ z < 1152921504606846976) ∧
  ∀ (p : Addr) (H2 : Hp) (ds : List Int), Xk.Fr p H → Same H H2 → H2 p = some (.lst (ds.map V.int)) → ds.length = zs.length → (∀ (i : Nat) d z, ds[i]? = some d → zs[i]? = some z → 0 ≤ d ∧ d < z) → Q (.ref p) H2
theorem ok__law_digits (T : Txt K mg) : FnOk P w K mg base CX0 1 T.f__law_digits T.d__law_digits ["row", "sizes"] (sp__law_digits K) := by
  refine T.F__law_digits.ok sc__law_digits (fun vs H Q E h => ?_) (fun cdv A outer s H vs Q E hr h => ?_)
  · obtain ⟨n, a, zs, rfl, _⟩ := h
    rfl
  obtain ⟨n, a, zs, rfl, hS, hl, hz, q⟩ := h
  refine ⟨_, (pss_cons (ps_set (i := 2) sc__law_digits.nd rfl (Or.inl rfl) (pe_lst pa_nil))
      (pss_cons (ps_for PassesOwn.never rfl (pi_list (pv 1)) (pg_name (i := 3) sc__law_digits.nd rfl (Or.inl rfl)) (pss_cons (ps_expr (pe_bm PySem.F.plainAttrs_list PySem.F.slot_list_append PySem.F.type_list_append mt_append (pv 2) (pa_cons (pe_op op_mod (pe_callTy Xk.call_nInt (by rfl) T.m_int (by decide +kernel) (pa_cons (pv 0) pa_nil)) (pv 3)) pa_nil)))
      (pss_one (ps_set (i := 0) sc__law_digits.nd rfl (Or.inl rfl) (pe_op op_fdivW (pv 0) (pv 3))))))
      (pss_one (ps_ret (pv 2))))), ?_⟩
  wtm_at "x0"
  wtm_at "xs"
  intro p H1 hp s1 h1
  wtm_at "xs"
  refine Xk.x_forL (fun i σ' H' => ∃ y n ds, σ' = [some (.int n), some (.ref a), some (.ref p), y] ∧ Same H H' ∧ H' p = some (.lst (ds.map V.int)) ∧ ds.length = i ∧ (∀ (i : Nat) d z, ds[i]? = some d → zs[i]? = some z → 0 ≤ d ∧ d < z)) (by wtm_at "sq") ⟨_, _, [], rfl, s1, h1, rfl, by simp⟩ ?_ ?_ ?_
  · rintro i σ' H' hi ⟨y, n, ds, rfl, s2, h2, hd, hw⟩
    wtm_at "sq"
  · rintro i x σ' H' hi ⟨y, n, ds, rfl, s2, h2, hd, hw⟩
    rw [List.getElem?_map] at hi
    obtain ⟨z, ho, rfl⟩ := Option.map_eq_some_iff.mp hi
    have hz1 := hz z (List.mem_of_getElem? ho)
    have hi2 := (List.getElem?_eq_some_iff.mp ho).1
    wtm_at "xs"
    refine Xk.x_I (wide_div (b := 60) (by omega) (by omega) (by decide) (by decide)) ?_
    wtm_at "xs"
    refine ⟨_, _, ds ++ [n % z], rfl, by wtm_at "sm", ?_, by rw [List.length_append]; simp [hd], ?_⟩
    · rw [upd_same, List.map_append]
      rfl
    · intro j d z' h3 h4
      by_cases hj : j < ds.length
      · rw [List.getElem?_append_left hj] at h3
        exact hw j d z' h3 h4
      · have hj2 : j = i := by
          have h5 := (List.getElem?_eq_some_iff.mp h3).1
          simp at h5
          omega
        subst hj2
        rw [List.getElem?_append_right (by omega), hd, Nat.sub_self] at h3
        have e1 : n % z = d := Option.some.inj h3
        have e2 : z = z' := Option.some.inj (ho.symm.trans h4)
        subst e2 e1
        exact ⟨Int.emod_nonneg _ (by omega), Int.emod_lt_of_pos _ (by omega)⟩
  · rintro σ' H' ⟨y, n, ds, rfl, s2, h2, hd, hw⟩
    wtm_at "xs"
    rw [List.length_map] at hd
    exact q p _ ds hp s2 h2 hd hw
--CUT--
/-! ### signs, keys, values, deeds -/
def lowS : Str := " !\"#$"
def highS : Str := "&'()*+,-./0123456789:;<=>?@ABCDEFGHIJKLMNOPQRSTUVWXYZ[\\]^_`abcdefghijklmnopqrstuvwxyz{|}~"
def alphS : Str := "abcdefghijklmnopqrstuvwxyz0123456789"
def tx (c : Nat) : Bool := decide (c ∈ lowS.cps.toList) || decide (c ∈ highS.cps.toList)
def al (c : Nat) : Bool := decide (c ∈ alphS.cps.toList)
def isKey : V → Bool
  | .str s => decide (1 ≤ s.length) && (decide (s.length ≤ 8) && Xk.AllC al s)
  | _ => false
def isInt (m : Int) : V → Bool
  | .int i => decide (-m ≤ i) && decide (i ≤ m)
  | _ => false
def isVal : V → Bool
  | .str s => decide (s.length ≤ 20) && Xk.AllC tx s
  | v => isInt (10 ^ 15) v
/-- what may be asked whether it is a deed, a key, a value -/
def Kd (H : Hp) (v : V) : Prop := v = .non ∨ (∃ i, v = .int i) ∨ (∃ s : Str, v = .str s ∧ s.length ≤ 1000) ∨ ∃ a xs, v = .ref a ∧ H a = some (.tup xs) ∧ xs.length ≤ 100
theorem Kd.same {H H' : Hp} {v : V} (h : Kd H v) (e : Same H H') : Kd H' v := by
  rcases h with h | h | h | ⟨a, xs, h1, h2, h3⟩
  · exact .inl h
  · exact .inr (.inl h)
  · exact .inr (.inr (.inl h))
  · exact .inr (.inr (.inr ⟨a, xs, h1, e _ _ h2, h3⟩))
def sp_is_text (K : PySem.W.Frag) : Sp := fun vs H Q _ => ∃ s : Str, vs = [.str s] ∧ s.length ≤ 1000 ∧ ∀ H', Same H H' → Q (.bl (Xk.AllC tx s)) H'
theorem ok_is_text (T : Txt K mg) : FnOk P w K mg base CX0 1 T.f_is_text T.d_is_text ["data"] (sp_is_text K) := by
  refine T.F_is_text.ok sc_is_text (fun vs H Q E h => ?_) (fun cdv A outer s H vs Q E hr h => ?_)
  · obtain ⟨s, rfl, _⟩ := h
    rfl
  obtain ⟨s', rfl, hl, q⟩ := h
  refine ⟨_, (pss_one (ps_ret ((pe_and (pe_callB (Xk.k_isi (K := K) (by rfl)) (by rfl) T.m_isinstance (by decide +kernel) (pa_cons (pv 0) (pa_cons (pe_bltn (v := .ty "str") (u := .type "str") (by rfl) T.m_str (by decide +kernel) Xk.rel_ty) pa_nil))) (pe_one (pe_callB (Xk.k_all (K := K) rfl (by rfl)) (by rfl) T.m_all (by decide +kernel) (pa_cons (pe_lc (own := [("sign", 1)]) (g := gName 1) (tt := tYes) rfl sc_is_text.nd  (pi_str (pv 0)) (blkOk_by (N := N_is_text) (sc := defScope s_is_text) (own := [("sign", 1)]) (by decide +kernel)) (fun _ _ _ _ _ => pg_name (i := 1) sc_is_text.nd rfl (Or.inl rfl)) (fun _ _ _ _ _ => pts_nil) (fun _ _ _ _ _ => ((pe_or (pe_cmpR Xk.op_nInS (pv 1) (pe_glob (by rfl) T.g_LOW_SIGNS Xk.rel_str) (by rfl)) (pe_one (pe_cmpR Xk.op_nInS (pv 1) (pe_glob (by rfl) T.g_HIGH_SIGNS Xk.rel_str) (by rfl))))))) pa_nil))))))), ?_⟩
  wtm_at "x0"
  wtm_at "xs"
  refine Xk.x_lcS (fun Dl i H' => Same H H' ∧ ∃ bs : List Bool, H' Dl = some (.lst (bs.map V.bl)) ∧ bs = (s'.cps.toList.take i).map tx) ?_ ?_ ?_
  · intro Dl hD
    exact ⟨Xk.same_fr hD, [], upd_same, rfl⟩
  · rintro Dl hD i c H' hi ⟨s2, bs, h2, hb⟩
    have hi2 := Xk.at_lt hi
    wtm_at "xs"
    refine ⟨rfl, ?_⟩
    wtm_at "xs"
    have sz : (bs.map V.bl).length < sizeLine := Xk.size_lt (by rw [hb]; simp only [List.length_map, List.length_take]; have : s'.length = s'.cps.toList.length := rfl; omega)
    have nx : ∀ b : Bool, b = tx c → Same H (upd H' Dl (.lst (bs.map V.bl ++ [V.bl b]))) ∧ ∃ bs' : List Bool, upd H' Dl (.lst (bs.map V.bl ++ [V.bl b])) Dl = some (.lst (bs'.map V.bl)) ∧ bs' = (s'.cps.toList.take (i + 1)).map tx := fun b hb2 => by
      refine ⟨Xk.same_mut s2 hD, bs ++ [b], by rw [upd_same, Xk.snoc_map], ?_⟩
      rw [List.take_add_one, hi, hb, List.map_append, hb2]
      rfl
    refine Xk.x_itd (fun h => ?_) (fun h => ?_)
    · exact ⟨_, h2, sz, nx true (by unfold tx; rw [decide_eq_true (show c ∈ lowS.cps.toList from h)]; rfl)⟩
    · wtm_at "xs"
      exact ⟨_, h2, sz, nx _ (by unfold tx; rw [decide_eq_false (show ¬ c ∈ lowS.cps.toList from h)]; rfl)⟩
  · rintro Dl H' hD ⟨s2, bs, h2, hb⟩
    wtm_at "xs"
    refine Xk.x_all (bs := bs) (by wtm_at "sq") ?_
    have e : bs.all id = Xk.AllC tx s' := by
      rw [hb, List.take_of_length_le (show s'.cps.toList.length ≤ s'.length from Nat.le_refl _), List.all_map]
      rfl
    rw [e]
    exact q _ s2
def isI : V → Bool
  | .int _ => true
  | _ => false
def sp_is_integer (K : PySem.W.Frag) : Sp := fun vs H Q _ => ∃ v, vs = [v] ∧ Kd H v ∧ Q (.bl (isI v)) H
theorem ok_is_integer (T : Txt K mg) : FnOk P w K mg base CX0 1 T.f_is_integer T.d_is_integer ["data"] (sp_is_integer K) := by
  refine T.F_is_integer.ok sc_is_integer (fun vs H Q E h => ?_) (fun cdv A outer s H vs Q E hr h => ?_)
  · obtain ⟨v, rfl, _⟩ := h
    rfl
  obtain ⟨v, rfl, hk, q⟩ := h
  refine ⟨_, (pss_one (ps_ret ((pe_and (pe_callB (Xk.k_isi (K := K) (by rfl)) (by rfl) T.m_isinstance (by decide +kernel) (pa_cons (pv 0) (pa_cons (pe_bltn (v := .ty "int") (u := .type "int") (by rfl) T.m_int (by decide +kernel) Xk.rel_ty) pa_nil))) (pe_one (pe_not (pe_callB (Xk.k_isi (K := K) (by rfl)) (by rfl) T.m_isinstance (by decide +kernel) (pa_cons (pv 0) (pa_cons (pe_bltn (v := .ty "bool") (u := .type "bool") (by rfl) T.m_bool (by decide +kernel) Xk.rel_ty) pa_nil))))))))), ?_⟩
  wtm_at "x0"
  rcases hk with rfl | ⟨i, rfl⟩ | ⟨s', rfl, hl⟩ | ⟨a, xs, rfl, ha, hl⟩
  · wtm_at "xs"
    exact q
  · wtm_at "xs"
    exact q
  · wtm_at "xs"
    exact q
  · wtm_at "xs"
    exact q
def sp_is_integer_within (K : PySem.W.Frag) : Sp := fun vs H Q _ => ∃ v m, vs = [v, .int m] ∧ Kd H v ∧ Q (.bl (isInt m v)) H
theorem ok_is_integer_within (T : Txt K mg) : FnOk P w K mg base CX0 2 T.f_is_integer_within T.d_is_integer_within ["data", "most"] (sp_is_integer_within K) := by
  refine T.F_is_integer_within.ok sc_is_integer_within (fun vs H Q E h => ?_) (fun cdv A outer s H vs Q E hr h => ?_)
  · obtain ⟨v, m, rfl, _⟩ := h
    rfl
  obtain ⟨v, m, rfl, hk, q⟩ := h
  refine ⟨_, (pss_one (ps_ret ((pe_and (pe_call (ok_is_integer T) (hr.mono (by decide)) (by rfl) T.g_is_integer T.F_is_integer.kp T.b_is_integer .nil pass0 (pa_cons (pv 0) pa_nil)) (pe_one (pe_chain op_le op_le (pe_un un_neg (pv 1)) (pv 0) (pv 1))))))), ?_⟩
  wtm_at "x0"
  rcases hk with rfl | ⟨i, rfl⟩ | ⟨s', rfl, hl⟩ | ⟨a, xs, rfl, ha, hl⟩
  · wtm_at "xs"
    refine ⟨_, rfl, .inl rfl, ?_⟩
    dsimp only [isI]
    wtm_at "xs"
    exact q
  · wtm_at "xs"
    refine ⟨_, rfl, .inr (.inl ⟨_, rfl⟩), ?_⟩
    dsimp only [isI]
    wtm_at "xs"
    refine Xk.x_itd (fun h1 => ?_) (fun h1 => ?_)
    · wtm_at "xs"
      have e : isInt m (.int i) = decide (i ≤ m) := by
        show (decide (-m ≤ i) && decide (i ≤ m)) = _
        rw [decide_eq_true h1]
        rfl
      rw [e] at q
      exact q
    · have e : isInt m (.int i) = false := by
        show (decide (-m ≤ i) && decide (i ≤ m)) = _
        rw [decide_eq_false h1]
        rfl
      rw [e] at q
      exact q
  · wtm_at "xs"
    refine ⟨_, rfl, .inr (.inr (.inl ⟨_, rfl, hl⟩)), ?_⟩
    dsimp only [isI]
    wtm_at "xs"
    exact q
  · wtm_at "xs"
    refine ⟨_, rfl, .inr (.inr (.inr ⟨_, _, rfl, ha, hl⟩)), ?_⟩
    dsimp only [isI]
    wtm_at "xs"
    exact q
def sp_is_value (K : PySem.W.Frag) : Sp := fun vs H Q _ => ∃ v, vs = [v] ∧ Kd H v ∧ ∀ H', Same H H' → Q (.bl (isVal v)) H'
theorem ok_is_value (T : Txt K mg) : FnOk P w K mg base CX0 3 T.f_is_value T.d_is_value ["data"] (sp_is_value K) := by
  refine T.F_is_value.ok sc_is_value (fun vs H Q E h => ?_) (fun cdv A outer s H vs Q E hr h => ?_)
  · obtain ⟨v, rfl, _⟩ := h
    rfl
  obtain ⟨v, rfl, hk, q⟩ := h
  refine ⟨_, (Evl.pss_cut (ps_if (pt_val (pe_callB (Xk.k_isi (K := K) (by rfl)) (by rfl) T.m_isinstance (by decide +kernel) (pa_cons (pv 0) (pa_cons (pe_bltn (v := .ty "str") (u := .type "str") (by rfl) T.m_str (by decide +kernel) Xk.rel_ty) pa_nil)))) (pss_one (ps_ret ((pe_and (pe_cmpR op_le (pe_callB Xk.call_nLenS (by rfl) T.m_len PySem.boot_len (pa_cons (pv 0) pa_nil)) (pe_glob (by rfl) T.g_VALUE_SIGNS Xk.rel_int) (nomark _)) (pe_one (pe_call (ok_is_text T) (hr.mono (by decide)) (by rfl) T.g_is_text T.F_is_text.kp T.b_is_text .nil pass0 (pa_cons (pv 0) pa_nil))))))) pss_nil)
      (pss_one (ps_ret (pe_call (ok_is_integer_within T) (hr.mono (by decide)) (by rfl) T.g_is_integer_within T.F_is_integer_within.kp T.b_is_integer_within .nil pass0 (pa_cons (pv 0) (pa_cons (pe_glob (by rfl) T.g_MOST_VALUE Xk.rel_int) pa_nil)))))), ?_⟩
  wtm_at "x0"
  refine Xk.x_nocut ?_
  rcases hk with rfl | ⟨i, rfl⟩ | ⟨s', rfl, hl⟩ | ⟨a, xs, rfl, ha, hl⟩
  · wtm_at "xs"
    exact ⟨_, _, rfl, .inl rfl, q _ (Same.refl _)⟩
  · wtm_at "xs"
    exact ⟨_, _, rfl, .inr (.inl ⟨_, rfl⟩), q _ (Same.refl _)⟩
  · wtm_at "xs"
    refine Xk.x_itd (fun h1 => ?_) (fun h1 => ?_)
    · wtm_at "xs"
      refine ⟨_, rfl, hl, fun H' s1 => ?_⟩
      have e : isVal (.str s') = Xk.AllC tx s' := by
        show (decide (s'.length ≤ 20) && Xk.AllC tx s') = _
        rw [decide_eq_true (show s'.length ≤ 20 by omega)]
        rfl
      rw [e] at q
      exact q _ s1
    · have e : isVal (.str s') = false := by
        show (decide (s'.length ≤ 20) && Xk.AllC tx s') = _
        rw [decide_eq_false (show ¬ s'.length ≤ 20 by omega)]
        rfl
      rw [e] at q
      exact q _ (Same.refl _)
  · wtm_at "xs"
    exact ⟨_, _, rfl, .inr (.inr (.inr ⟨a, xs, rfl, ha, hl⟩)), q _ (Same.refl _)⟩
def sp_key_of_deed (K : PySem.W.Frag) : Sp := fun vs H Q _ => ∃ a k xs, vs = [.ref a] ∧ SqT K H a xs ∧ xs[1]? = some k ∧ Q k H
theorem ok_key_of_deed (T : Txt K mg) : FnOk P w K mg base CX0 1 T.f_key_of_deed T.d_key_of_deed ["deed"] (sp_key_of_deed K) := by
  refine T.F_key_of_deed.ok sc_key_of_deed (fun vs H Q E h => ?_) (fun cdv A outer s H vs Q E hr h => ?_)
  · obtain ⟨a, k, xs, rfl, _⟩ := h
    rfl
  obtain ⟨a, k, xs, rfl, ha, hk, q⟩ := h
  refine ⟨_, (pss_one (ps_ret (pe_ix (Xk.k_ixT (K := K) (by rfl)) (pv 0) (pe_int) (fun _ _ => rfl)))), ?_⟩
  wtm_at "x0"
  wtm_at "xs"
  exact q
--CUT--
inductive Dd where
  | get (k : Str)
  | put (k : Str) (v : V)
  | del (k : Str)
  | add (k : Str) (n : Int)
def Dd.key : Dd → Str
  | .get k | .put k _ | .del k | .add k _ => k
def Dd.xs : Dd → List V
  | .get k => [.str "get", .str k]
  | .put k v => [.str "put", .str k, v]
  | .del k => [.str "del", .str k]
  | .add k n => [.str "add", .str k, .int n]
abbrev Kvs := List (Key × V)
def VOk (v : V) : Prop := (∃ i, v = .int i) ∨ ∃ s : Str, v = .str s ∧ s.length ≤ 20 ∧ Xk.AllC tx s = true
def Dd.ok : Dd → Prop
  | .put _ v => VOk v
  | .add _ n => -1000000000 ≤ n ∧ n ≤ 1000000000
  | _ => True
def gv (kvs : Kvs) (k : Str) : V := (valV kvs (Sum.inr k)).getD .non
def addR (kvs : Kvs) (k : Str) (n : Int) : Option V → Kvs × V
  | none => (putK kvs (Sum.inr k) (.int n), .int n)
  | some (.int i) => if -1000000000000000 ≤ i + n ∧ i + n ≤ 1000000000000000 then (putK kvs (Sum.inr k) (.int (i + n)), .int (i + n)) else (kvs, .non)
  | some _ => (kvs, .non)
/-- what doing a deed makes of rows, and its answer -/
def app (kvs : Kvs) : Dd → Kvs × V
  | .get k => (kvs, gv kvs k)
  | .put k v => (putK kvs (Sum.inr k) v, gv kvs k)
  | .del k => (if (valV kvs (Sum.inr k)).isSome = true then dropK kvs (Sum.inr k) else kvs, gv kvs k)
  | .add k n => addR kvs k n (valV kvs (Sum.inr k))
theorem Kd.val {H : Hp} {v : V} (h : VOk v) : Kd H v := by
  rcases h with h | ⟨s, h, hl, _⟩
  · exact .inr (.inl h)
  · exact .inr (.inr (.inl ⟨s, h, by omega⟩))
theorem put_get (kvs : Kvs) (k : Str) (v : V) : valV (putK kvs (Sum.inr k) v) (Sum.inr k) = some v := by
  rw [valV_put, if_pos rfl]
def sp__add (K : PySem.W.Frag) : Sp := fun vs H Q _ => ∃ r kvs k n, vs = [.ref r, .str k, .int n] ∧ H r = some (.dK kvs) ∧ (∀ v, valV kvs (Sum.inr k) = some v → VOk v) ∧ kvs.length ≤ 500 ∧ Dd.ok (.add k n) ∧
  ∀ H', Xk.But r H H' → H' r = some (.dK (app kvs (.add k n)).1) → Q (app kvs (.add k n)).2 H'
theorem ok__add (T : Txt K mg) : FnOk P w K mg base CX0 4 T.f__add T.d__add ["rows", "key", "number"] (sp__add K) := by
  refine T.F__add.ok sc__add (fun vs H Q E h => ?_) (fun cdv A outer s H vs Q E hr h => ?_)
  · obtain ⟨r, kvs, k, n, rfl, _⟩ := h
    rfl
  obtain ⟨r, kvs, k, n, rfl, hr0, hv, hl, hn, q⟩ := h
  have hn1 : -1000000000 ≤ n ∧ n ≤ 1000000000 := hn
  refine ⟨_, (pss_cons (ps_set (i := 3) sc__add.nd rfl (Or.inl rfl) (pe_dget2 (hu_of hr) (pv 0) (pv 1) (pe_int) ⟨by rfl, by rfl, by rfl, by rfl⟩))
      (Evl.pss_cut (ps_if (PW.pt (pw_or (pt_val (pe_callB (Xk.k_isi (K := K) (by rfl)) (by rfl) T.m_isinstance (by decide +kernel) (pa_cons (pv 3) (pa_cons (pe_bltn (v := .ty "str") (u := .type "str") (by rfl) T.m_str (by decide +kernel) Xk.rel_ty) pa_nil)))) (pw_or1 (pt_not (pt_val (pe_call (ok_is_value T) (hr.mono (by decide)) (by rfl) T.g_is_value T.F_is_value.kp T.b_is_value .nil pass0 (pa_cons (pe_op op_add (pv 3) (pv 2)) pa_nil))))))) (pss_one (ps_ret (pe_non))) pss_nil)
      (pss_cons (ps_dput (hu_of hr) (pv 0) (pv 1) (pe_op op_add (pv 3) (pv 2)) rfl)
      (pss_one (ps_ret (pe_dget (hu_of hr) (pv 0) (pv 1) (fun _ _ => rfl))))))), ?_⟩
  wtm_at "x0"
  wtm_at "xs"
  have hl2 : kvs.length < 1000 := by omega
  have big : ∀ j : Int, isVal (.int j) = (decide (-1000000000000000 ≤ j) && decide (j ≤ 1000000000000000)) := fun j => rfl
  cases hb : valV kvs (Sum.inr k) with
  | none =>
    have e : app kvs (.add k n) = (putK kvs (Sum.inr k) (.int (0 + n)), .int (0 + n)) := by
      show addR kvs k n (valV kvs (Sum.inr k)) = _
      rw [hb, Int.zero_add]
      rfl
    rw [e] at q
    have pg := put_get kvs k (.int (0 + n))
    refine Xk.x_nocut ?_
    dsimp only [Option.getD]
    wtm_at "xs"
    refine ⟨_, rfl, .inr (.inl ⟨_, rfl⟩), fun H' s1 => ?_⟩
    have e3 : (decide (-1000000000000000 ≤ 0 + n) && decide (0 + n ≤ 1000000000000000)) = true := by
      rw [decide_eq_true (by omega), decide_eq_true (by omega)]
      rfl
    rw [big, e3]
    have r1 := s1 _ _ hr0
    wtm_at "xs"
    exact q _ (Xk.but_mut (Xk.but_same s1)) upd_same
  | some v =>
    rcases hv v hb with ⟨i, rfl⟩ | ⟨s', rfl, h1, h2⟩
    · have e : app kvs (.add k n) = if -1000000000000000 ≤ i + n ∧ i + n ≤ 1000000000000000 then (putK kvs (Sum.inr k) (.int (i + n)), .int (i + n)) else (kvs, .non) := by
        show addR kvs k n (valV kvs (Sum.inr k)) = _
        rw [hb]
        rfl
      rw [e] at q
      have pg := put_get kvs k (.int (i + n))
      refine Xk.x_nocut ?_
      dsimp only [Option.getD]
      wtm_at "xs"
      refine ⟨_, rfl, .inr (.inl ⟨_, rfl⟩), fun H' s1 => ?_⟩
      rw [big]
      have r1 := s1 _ _ hr0
      by_cases h3 : -1000000000000000 ≤ i + n ∧ i + n ≤ 1000000000000000
      · rw [if_pos h3] at q
        have e3 : (decide (-1000000000000000 ≤ i + n) && decide (i + n ≤ 1000000000000000)) = true := by
          rw [decide_eq_true h3.1, decide_eq_true h3.2]
          rfl
        rw [e3]
        wtm_at "xs"
        exact q _ (Xk.but_mut (Xk.but_same s1)) upd_same
      · rw [if_neg h3] at q
        have e2 : (decide (-1000000000000000 ≤ i + n) && decide (i + n ≤ 1000000000000000)) = false := by
          rw [Bool.and_eq_false_iff]
          by_cases h4 : -1000000000000000 ≤ i + n
          · exact .inr (decide_eq_false fun z => h3 ⟨h4, z⟩)
          · exact .inl (decide_eq_false h4)
        rw [e2]
        wtm_at "xs"
        exact q _ (Xk.but_same s1) r1
    · have e : app kvs (.add k n) = (kvs, .non) := by
        show addR kvs k n (valV kvs (Sum.inr k)) = _
        rw [hb]
        rfl
      rw [e] at q
      refine Xk.x_nocut ?_
      dsimp only [Option.getD]
      wtm_at "xs"
      exact q _ (Xk.But.refl _ _) hr0
def sp_apply_deed (K : PySem.W.Frag) : Sp := fun vs H Q _ => ∃ r a kvs d, vs = [.ref r, .ref a] ∧ H r = some (.dK kvs) ∧ H a = some (.tup (Dd.xs d)) ∧ (∀ k v, valV kvs k = some v → VOk v) ∧ kvs.length ≤ 500 ∧ d.ok ∧
  ∀ H', Xk.But r H H' → H' r = some (.dK (app kvs d).1) → Q (app kvs d).2 H'
theorem ok_apply_deed (T : Txt K mg) : FnOk P w K mg base CX0 5 T.f_apply_deed T.d_apply_deed ["rows", "deed"] (sp_apply_deed K) := by
  refine T.F_apply_deed.ok sc_apply_deed (fun vs H Q E h => ?_) (fun cdv A outer s H vs Q E hr h => ?_)
  · obtain ⟨r, a, kvs, d, rfl, _⟩ := h
    rfl
  obtain ⟨r, a, kvs, d, rfl, hr0, ha, hv, hl, hd, q⟩ := h
  refine ⟨_, (pss_cons (ps_set (i := 2) sc_apply_deed.nd rfl (Or.inl rfl) (pe_ix (Xk.k_ixT (K := K) (by rfl)) (pv 1) (pe_int) (fun _ _ => rfl)))
      (pss_cons (ps_set (i := 3) sc_apply_deed.nd rfl (Or.inl rfl) (pe_call (ok_key_of_deed T) (hr.mono (by decide)) (by rfl) T.g_key_of_deed T.F_key_of_deed.kp T.b_key_of_deed .nil pass0 (pa_cons (pv 1) pa_nil)))
      (Evl.pss_cut (ps_if (pt_cmpR op_eq (pv 2) (pe_str) (nomark _)) (pss_one (ps_ret (pe_call (ok__add T) (hr.mono (by decide)) (by rfl) T.g__add T.F__add.kp T.b__add .nil pass0 (pa_cons (pv 0) (pa_cons (pv 3) (pa_cons (pe_ix (Xk.k_ixT (K := K) (by rfl)) (pv 1) (pe_int) (fun _ _ => rfl)) pa_nil)))))) pss_nil)
      (pss_cons (ps_set (i := 4) sc_apply_deed.nd rfl (Or.inl rfl) (pe_dget1 (hu_of hr) (pv 0) (pv 3) ⟨by rfl, by rfl, by rfl, by rfl⟩))
      (Evl.pss_cut (ps_if (pt_cmpR op_eq (pv 2) (pe_str) (nomark _)) (pss_one (ps_dput (hu_of hr) (pv 0) (pv 3) (pe_ix (Xk.k_ixT (K := K) (by rfl)) (pv 1) (pe_int) (fun _ _ => rfl)) rfl)) (pss_one (ps_if (pt_cmpR op_eq (pv 2) (pe_str) (nomark _)) (pss_one (ps_expr (pe_dpop2 (pv 0) (pv 3) (pe_non) ⟨by rfl, by rfl, by rfl, by rfl⟩))) pss_nil)))
      (pss_one (ps_ret (pv 4)))))))), ?_⟩
  have hl2 : kvs.length < 1000 := by omega
  wtm_at "x0"
  cases d with
  | get k =>
    have ha1 : H a = some (.tup [.str "get", .str k]) := ha
    wtm_at "xs"
    refine ⟨a, .str k, _, rfl, Xk.st_of ha1, rfl, ?_⟩
    refine Xk.x_nocut ?_
    wtm_at "xs"
    refine Xk.x_nocut ?_
    wtm_at "xs"
    exact q _ (Xk.But.refl _ _) hr0
  | put k v =>
    have ha1 : H a = some (.tup [.str "put", .str k, v]) := ha
    wtm_at "xs"
    refine ⟨a, .str k, _, rfl, Xk.st_of ha1, rfl, ?_⟩
    refine Xk.x_nocut ?_
    wtm_at "xs"
    refine Xk.x_nocut ?_
    wtm_at "xs"
    exact q _ (Xk.but_mut (Xk.But.refl _ _)) upd_same
  | del k =>
    have ha1 : H a = some (.tup [.str "del", .str k]) := ha
    wtm_at "xs"
    refine ⟨a, .str k, _, rfl, Xk.st_of ha1, rfl, ?_⟩
    refine Xk.x_nocut ?_
    wtm_at "xs"
    refine Xk.x_nocut ?_
    wtm_at "xs"
    have q0 : ∀ H', Xk.But r H H' → H' r = some (.dK (if (valV kvs (Sum.inr k)).isSome = true then dropK kvs (Sum.inr k) else kvs)) → Q (gv kvs k) H' := q
    refine Xk.x_rPop2 hr0 (fun v hv2 => ?_) (fun hn => ?_)
    · rw [hv2] at q0
      wtm_at "xs"
      exact q0 _ (Xk.but_mut (Xk.But.refl _ _)) upd_same
    · rw [hn] at q0
      wtm_at "xs"
      exact q0 _ (Xk.But.refl _ _) hr0
  | add k n =>
    have ha1 : H a = some (.tup [.str "add", .str k, .int n]) := ha
    wtm_at "xs"
    refine ⟨a, .str k, _, rfl, Xk.st_of ha1, rfl, ?_⟩
    refine Xk.x_nocut ?_
    wtm_at "xs"
    exact ⟨r, kvs, k, n, rfl, hr0, fun v h => hv _ v h, hl, hd, q⟩
--CUT--
def signS : Str := " !\"#$&'()*+,-./0123456789:;<=>?@ABCDEFGHIJKLMNOPQRSTUVWXYZ[\\]^_`abcdefghijklmnopqrstuvwxyz{|}~"
def sp__law_sign (K : PySem.W.Frag) : Sp := fun vs H Q _ => ∃ n : Int, vs = [.int n] ∧ 0 ≤ n ∧ ∀ c, tx c = true → Q (.str ⟨#[c]⟩) H
theorem ok__law_sign (T : Txt K mg) : FnOk P w K mg base CX0 1 T.f__law_sign T.d__law_sign ["number"] (sp__law_sign K) := by
  refine T.F__law_sign.ok sc__law_sign (fun vs H Q E h => ?_) (fun cdv A outer s H vs Q E hr h => ?_)
  · obtain ⟨n, rfl, _⟩ := h
    rfl
  obtain ⟨n, rfl, hn, q⟩ := h
  refine ⟨_, (pss_cons (ps_set (i := 1) sc__law_sign.nd rfl (Or.inl rfl) (pe_str))
      (pss_one (ps_ret (pe_ix ix_str (pv 1) (pe_op op_mod (pe_callTy Xk.call_nInt (by rfl) T.m_int (by decide +kernel) (pa_cons (pv 0) pa_nil)) (pe_int)) (fun _ _ => rfl))))), ?_⟩
  wtm_at "x0"
  wtm_at "xs"
  obtain ⟨j, hj⟩ := Int.eq_ofNat_of_zero_le (Int.emod_nonneg n (show (94 : Int) ≠ 0 by decide))
  have hj2 := Int.emod_lt_of_pos n (show (0 : Int) < 94 by decide)
  obtain ⟨c, hc⟩ := Xk.lt_at (xs := signS.cps.toList) (j := j) (by rw [show signS.cps.toList.length = 94 by decide +kernel]; omega)
  refine Xk.x_ixS (c := c) (by decide +kernel) (show atI signS.cps.toList _ = some c from Xk.at_nat hj hc) ?_
  exact q c (List.all_eq_true.mp (show signS.cps.toList.all tx = true by decide +kernel) c (List.mem_of_getElem? hc))
theorem one_len (c : Nat) : (⟨#[c]⟩ : Str).length = 1 := rfl
theorem one_all {p : Nat → Bool} {c : Nat} (h : p c = true) : Xk.AllC p ⟨#[c]⟩ = true := by
  unfold Xk.AllC
  simp [h]
theorem nil_all (p : Nat → Bool) : Xk.AllC p "" = true := rfl
def sp__law_text (K : PySem.W.Frag) : Sp := fun vs H Q _ => ∃ n c : Int, vs = [.int n, .int c] ∧ 0 ≤ n ∧ 0 ≤ c ∧ c ≤ 100 ∧ ∀ s, Xk.AllC tx s = true → (s.length : Int) = c → Q (.str s) H
theorem ok__law_text (T : Txt K mg) : FnOk P w K mg base CX0 2 T.f__law_text T.d__law_text ["row", "count"] (sp__law_text K) := by
  refine T.F__law_text.ok sc__law_text (fun vs H Q E h => ?_) (fun cdv A outer s H vs Q E hr h => ?_)
  · obtain ⟨n, c, rfl, _⟩ := h
    rfl
  obtain ⟨n, c, rfl, hn, h0, h1, q⟩ := h
  refine ⟨_, (pss_cons (ps_set (i := 2) sc__law_text.nd rfl (Or.inl rfl) (pe_str))
      (pss_cons (ps_set (i := 3) sc__law_text.nd rfl (Or.inl rfl) (pe_callTy Xk.call_nInt (by rfl) T.m_int (by decide +kernel) (pa_cons (pv 0) pa_nil)))
      (pss_cons (ps_for PassesOwn.never rfl (pi_range1 (by rfl) T.m_range (pa_cons (pv 1) pa_nil)) (pg_name (i := 4) sc__law_text.nd rfl (Or.inl rfl)) (pss_cons (ps_set (i := 2) sc__law_text.nd rfl (Or.inl rfl) (pe_op Xk.op_nAddS (pv 2) (pe_call (ok__law_sign T) (hr.mono (by decide)) (by rfl) T.g__law_sign T.F__law_sign.kp T.b__law_sign .nil pass0 (pa_cons (pe_op op_fdiv (pv 3) (pe_int)) pa_nil))))
      (pss_one (ps_set (i := 3) sc__law_text.nd rfl (Or.inl rfl) (pe_op op_add (pe_op op_add (pe_op op_fdiv (pv 3) (pe_int)) (pe_op op_mul (pe_op op_mod (pv 3) (pe_int)) (pe_int))) (pv 4))))))
      (pss_one (ps_ret (pv 2)))))), ?_⟩
  wtm_at "x0"
  wtm_at "xs"
  refine Xk.x_range (fun i σ' H' => ∃ (s : Str) (r : Int) (y : Option V), σ' = [some (.int n), some (.int c), some (.str s), some (.int r), y] ∧ H = H' ∧ Xk.AllC tx s = true ∧ s.length = i ∧ 0 ≤ r) ⟨by omega, by omega⟩ ⟨_, _, _, rfl, rfl, nil_all _, rfl, hn⟩ ?_ ?_
  · rintro i σ' H' hi ⟨s', r, y, rfl, rfl, hs, hl, hr0⟩
    wtm_at "xs"
    refine ⟨_, rfl, by omega, fun ch hch => ?_⟩
    refine Xk.x_nAddS (by rw [one_len]; omega) ?_
    wtm_at "xs"
    exact ⟨_, _, _, rfl, rfl, Xk.allC_add hs (one_all hch), by rw [Xk.len_add, one_len, hl], by omega⟩
  · rintro σ' H' ⟨s', r, y, rfl, rfl, hs, hl, hr0⟩
    wtm_at "xs"
    exact q s' hs (by omega)
def sp__law_key (K : PySem.W.Frag) : Sp := fun vs H Q _ => ∃ n m : Int, vs = [.int n, .int m] ∧ 0 ≤ n ∧ 1 ≤ m ∧ m ≤ 8 ∧ ∀ s, Xk.AllC al s = true → 1 ≤ s.length → (s.length : Int) ≤ m → Q (.str s) H
theorem ok__law_key (T : Txt K mg) : FnOk P w K mg base CX0 1 T.f__law_key T.d__law_key ["row", "most"] (sp__law_key K) := by
  refine T.F__law_key.ok sc__law_key (fun vs H Q E h => ?_) (fun cdv A outer s H vs Q E hr h => ?_)
  · obtain ⟨n, m, rfl, _⟩ := h
    rfl
  obtain ⟨n, m, rfl, hn, h0, h1, q⟩ := h
  refine ⟨_, (pss_cons (ps_set (i := 2) sc__law_key.nd rfl (Or.inl rfl) (pe_str))
      (pss_cons (ps_set (i := 3) sc__law_key.nd rfl (Or.inl rfl) (pe_op op_add (pe_int) (pe_op op_mod (pe_callTy Xk.call_nInt (by rfl) T.m_int (by decide +kernel) (pa_cons (pv 0) pa_nil)) (pv 1))))
      (pss_cons (ps_set (i := 4) sc__law_key.nd rfl (Or.inl rfl) (pe_op op_fdiv (pe_callTy Xk.call_nInt (by rfl) T.m_int (by decide +kernel) (pa_cons (pv 0) pa_nil)) (pe_int)))
      (pss_cons (ps_set (i := 5) sc__law_key.nd rfl (Or.inl rfl) (pe_str))
      (pss_cons (ps_for PassesOwn.never rfl (pi_range1 (by rfl) T.m_range (pa_cons (pv 3) pa_nil)) (pg_name (i := 6) sc__law_key.nd rfl (Or.inl rfl)) (pss_cons (ps_set (i := 5) sc__law_key.nd rfl (Or.inl rfl) (pe_op Xk.op_nAddS (pv 5) (pe_ix ix_str (pv 2) (pe_op op_mod (pe_callTy Xk.call_nInt (by rfl) T.m_int (by decide +kernel) (pa_cons (pv 4) pa_nil)) (pe_int)) (fun _ _ => rfl))))
      (pss_one (ps_set (i := 4) sc__law_key.nd rfl (Or.inl rfl) (pe_op op_add (pe_op op_fdiv (pv 4) (pe_int)) (pe_op op_mul (pe_int) (pv 6)))))))
      (pss_one (ps_ret (pv 5)))))))), ?_⟩
  wtm_at "x0"
  wtm_at "xs"
  have e1 := Int.emod_nonneg n (show m ≠ 0 by omega)
  have e2 := Int.emod_lt_of_pos n (show 0 < m by omega)
  refine Xk.x_range (fun i σ' H' => ∃ (s : Str) (r : Int) (y : Option V), σ' = [some (.int n), some (.int m), some (.str alphS), some (.int (1 + n % m)), some (.int r), some (.str s), y] ∧ H = H' ∧ Xk.AllC al s = true ∧ s.length = i ∧ 0 ≤ r) ⟨by omega, by omega⟩ ⟨_, _, _, rfl, rfl, nil_all _, rfl, by omega⟩ ?_ ?_
  · rintro i σ' H' hi ⟨s', r, y, rfl, rfl, hs, hl, hr0⟩
    wtm_at "xs"
    obtain ⟨j, hj⟩ := Int.eq_ofNat_of_zero_le (Int.emod_nonneg r (show (36 : Int) ≠ 0 by decide))
    have hj2 := Int.emod_lt_of_pos r (show (0 : Int) < 36 by decide)
    obtain ⟨c, hc⟩ := Xk.lt_at (xs := alphS.cps.toList) (j := j) (by rw [show alphS.cps.toList.length = 36 by decide +kernel]; omega)
    refine Xk.x_ixS (c := c) (by decide +kernel) (show atI alphS.cps.toList _ = some c from Xk.at_nat hj hc) ?_
    have hch : al c = true := decide_eq_true (List.mem_of_getElem? hc)
    refine Xk.x_nAddS (by rw [one_len]; omega) ?_
    wtm_at "xs"
    exact ⟨_, _, _, rfl, rfl, Xk.allC_add hs (one_all hch), by rw [Xk.len_add, one_len, hl], by omega⟩
  · rintro σ' H' ⟨s', r, y, rfl, rfl, hs, hl, hr0⟩
    wtm_at "xs"
    exact q s' hs (by omega) (by omega)
--CUT--
def sp__law_value (K : PySem.W.Frag) : Sp := fun vs H Q _ => ∃ n : Int, vs = [.int n] ∧ 0 ≤ n ∧ ∀ v H', Same H H' → VOk v → isVal v = true → Q v H'
theorem ok__law_value (T : Txt K mg) : FnOk P w K mg base CX0 3 T.f__law_value T.d__law_value ["row"] (sp__law_value K) := by
  refine T.F__law_value.ok sc__law_value (fun vs H Q E h => ?_) (fun cdv A outer s H vs Q E hr h => ?_)
  · obtain ⟨n, rfl, _⟩ := h
    rfl
  obtain ⟨n, rfl, hn, q⟩ := h
  refine ⟨_, (pss_cons (ps_asg (pe_call (ok__law_digits T) (hr.mono (by decide)) (by rfl) T.g__law_digits T.F__law_digits.kp T.b__law_digits .nil pass0 (pa_cons (pv 0) (pa_cons (pe_lst (pa_cons (pe_int) (pa_cons (pe_int) (pa_cons (pe_op op_pow (pe_int) (pe_int)) pa_nil)))) pa_nil))) (pg_lst rfl (pgs_cons (pg_name (i := 1) sc__law_value.nd rfl (Or.inl rfl)) (pgs_cons (pg_name (i := 2) sc__law_value.nd rfl (Or.inl rfl)) (pgs_cons (pg_name (i := 3) sc__law_value.nd rfl (Or.inl rfl)) pgs_nil)))))
      (Evl.pss_cut (ps_if (pt_cmpR op_eq (pv 1) (pe_int) (nomark _)) (pss_one (ps_ret (pe_call (ok__law_text T) (hr.mono (by decide)) (by rfl) T.g__law_text T.F__law_text.kp T.b__law_text .nil pass0 (pa_cons (pe_op op_fdiv (pv 3) (pe_int)) (pa_cons (pe_op op_mod (pv 3) (pe_int)) pa_nil))))) pss_nil)
      (pss_cons (ps_set (i := 4) sc__law_value.nd rfl (Or.inl rfl) (pe_ix (Xk.k_ixL (K := K) (by rfl)) (pe_lst (pa_cons (pe_int) (pa_cons (pe_op op_mod (pv 3) (pe_int)) (pa_cons (pe_op op_mod (pv 3) (pe_int)) (pa_cons (pv 3) (pa_cons (pe_op op_sub (pe_op op_pow (pe_int) (pe_int)) (pe_op op_mod (pv 3) (pe_int))) pa_nil)))))) (pv 1) (fun _ _ => rfl)))
      (Evl.pss_cut (ps_if (pt_cmpR op_eq (pv 2) (pe_int) (nomark _)) (pss_one (ps_ret (pe_un un_neg (pv 4)))) pss_nil)
      (pss_one (ps_ret (pv 4))))))), ?_⟩
  wtm_at "x0"
  wtm_at "xs"
  intro p1 H1 hp1 s1 h1
  wtm_at "xs"
  refine ⟨_, _, [5, 2, 1000000000000000], rfl, Xk.sq_of h1, by decide, by decide, fun p2 H2 ds hp2 s2 h2 hd hw => ?_⟩
  obtain ⟨kd, sg, mo, rfl⟩ : ∃ a b c, ds = [a, b, c] := by
    match ds, hd with
    | [a, b, c], _ => exact ⟨a, b, c, rfl⟩
  have b1 := hw 0 _ _ rfl rfl
  have b2 := hw 1 _ _ rfl rfl
  have b3 := hw 2 _ _ rfl rfl
  replace h2 : H2 p2 = some (.lst [.int kd, .int sg, .int mo]) := h2
  have s02 := s1.trans s2
  clear hw hd s1 s2 hp1 hp2 h1
  wtm_at "xs"
  refine Xk.x_cut (fun σ' H' => H2 = H' ∧ σ' = [some (.int n), some (.int kd), some (.int sg), some (.int mo), none]) ?_ ?_
  · wtm_at "xs"
    refine Xk.x_itd (fun h3 => ?_) (fun h3 => ?_)
    · wtm_at "xs"
      refine ⟨_, _, rfl, by omega, by omega, by omega, fun s' hs hl => ?_⟩
      refine q _ _ s02 (.inr ⟨s', rfl, by omega, hs⟩) ?_
      show (decide (s'.length ≤ 20) && Xk.AllC tx s') = true
      rw [decide_eq_true (show s'.length ≤ 20 by omega), hs]
      rfl
    · wtm_at "xs"
      exact ⟨rfl, rfl⟩
  rintro σ' H' ⟨rfl, rfl⟩
  wtm_at "xs"
  intro p3 H3 hp3 s3 h3
  obtain ⟨j, hj⟩ := Int.eq_ofNat_of_zero_le b1.1
  obtain ⟨x, hx⟩ := Xk.lt_at (xs := [0, mo % 7, mo % 2000, mo, 1000000000000000 - mo % 3]) (j := j) (by simp only [List.length_cons, List.length_nil]; omega)
  wtm_at "xs"
  refine Xk.x_ixL (Xk.sq_of h3) (Xk.at_nat hj (show ([0, mo % 7, mo % 2000, mo, 1000000000000000 - mo % 3].map V.int)[j]? = _ from Xk.map_at hx)) ?_
  have hb : 0 ≤ x ∧ x ≤ 1000000000000000 := by
    have hm := List.mem_of_getElem? hx
    simp only [List.mem_cons, List.not_mem_nil, or_false] at hm
    omega
  have fin : ∀ y : Int, -1000000000000000 ≤ y ∧ y ≤ 1000000000000000 → Q (.int y) H3 := fun y hy => by
    refine q _ _ (s02.trans s3) (.inl ⟨_, rfl⟩) ?_
    show (decide (-1000000000000000 ≤ y) && decide (y ≤ 1000000000000000)) = true
    rw [decide_eq_true hy.1, decide_eq_true hy.2]
    rfl
  wtm_at "xs"
  refine Xk.x_nocut ?_
  wtm_at "xs"
  refine Xk.x_itd (fun h4 => ?_) (fun h4 => ?_)
  · wtm_at "xs"
    exact fin _ (by omega)
  · wtm_at "xs"
    exact fin _ (by omega)
--CUT--
/-- a key that stands among keys -/
def KeyIn (ks : List Str) (k : Str) : Prop := k ∈ ks ∧ isKey (.str k) = true
def sp__law_deed (K : PySem.W.Frag) : Sp := fun vs H Q _ => ∃ (a : Addr) (n : Int) (ks : List Str), vs = [.ref a, .int n] ∧ SqL K H a (ks.map V.str) ∧ 1 ≤ ks.length ∧ ks.length ≤ 100 ∧ 0 ≤ n ∧
  ∀ H' p d, Same H H' → Xk.Fr p H → H' p = some (.tup (Dd.xs d)) → d.ok → d.key ∈ ks → (∀ k v, d = .put k v → isVal v = true) → Q (.ref p) H'
theorem ok__law_deed (T : Txt K mg) : FnOk P w K mg base CX0 4 T.f__law_deed T.d__law_deed ["keys", "row"] (sp__law_deed K) := by
  refine T.F__law_deed.ok sc__law_deed (fun vs H Q E h => ?_) (fun cdv A outer s H vs Q E hr h => ?_)
  · obtain ⟨a, n, ks, rfl, _⟩ := h
    rfl
  obtain ⟨a, n, ks, rfl, ha, hl1, hl2, hn, q⟩ := h
  refine ⟨_, (pss_cons (ps_asg (pe_call (ok__law_digits T) (hr.mono (by decide)) (by rfl) T.g__law_digits T.F__law_digits.kp T.b__law_digits .nil pass0 (pa_cons (pv 1) (pa_cons (pe_lst (pa_cons (pe_int) (pa_cons (pe_callB (Xk.k_len (K := K) (by rfl)) (by rfl) T.m_len PySem.boot_len (pa_cons (pv 0) pa_nil)) (pa_cons (pe_int) (pa_cons (pe_op op_add (pe_op op_pow (pe_int) (pe_int)) (pe_int)) pa_nil))))) pa_nil))) (pg_lst rfl (pgs_cons (pg_name (i := 2) sc__law_deed.nd rfl (Or.inl rfl)) (pgs_cons (pg_name (i := 3) sc__law_deed.nd rfl (Or.inl rfl)) (pgs_cons (pg_name (i := 4) sc__law_deed.nd rfl (Or.inl rfl)) (pgs_cons (pg_name (i := 5) sc__law_deed.nd rfl (Or.inl rfl)) pgs_nil))))))
      (pss_cons (ps_set (i := 6) sc__law_deed.nd rfl (Or.inl rfl) (pe_ix (Xk.k_ixL (K := K) (by rfl)) (pv 0) (pv 3) (fun _ _ => rfl)))
      (Evl.pss_cut (ps_if (pt_cmpR op_lt (pv 2) (pe_int) (nomark _)) (pss_one (ps_ret (pe_tup (pa_cons (pe_str) (pa_cons (pv 6) pa_nil))))) pss_nil)
      (Evl.pss_cut (ps_if (pt_cmpR op_lt (pv 2) (pe_int) (nomark _)) (pss_one (ps_ret (pe_tup (pa_cons (pe_str) (pa_cons (pv 6) (pa_cons (pe_call (ok__law_value T) (hr.mono (by decide)) (by rfl) T.g__law_value T.F__law_value.kp T.b__law_value .nil pass0 (pa_cons (pe_op op_fdivW (pv 1) (pe_op op_pow (pe_int) (pe_int))) pa_nil)) pa_nil)))))) pss_nil)
      (Evl.pss_cut (ps_if (pt_cmpR op_eq (pv 2) (pe_int) (nomark _)) (pss_one (ps_ret (pe_tup (pa_cons (pe_str) (pa_cons (pv 6) pa_nil))))) pss_nil)
      (pss_cons (ps_set (i := 5) sc__law_deed.nd rfl (Or.inl rfl) (pe_ix (Xk.k_ixL (K := K) (by rfl)) (pe_lst (pa_cons (pv 5) (pa_cons (pe_op op_mod (pv 5) (pe_int)) (pa_cons (pe_op op_pow (pe_int) (pe_int)) pa_nil)))) (pe_op op_sub (pv 2) (pe_int)) (fun _ _ => rfl)))
      (Evl.pss_cut (ps_if (pt_cmpR op_eq (pv 4) (pe_int) (nomark _)) (pss_one (ps_set (i := 5) sc__law_deed.nd rfl (Or.inl rfl) (pe_un un_neg (pv 5)))) pss_nil)
      (pss_one (ps_ret (pe_tup (pa_cons (pe_str) (pa_cons (pv 6) (pa_cons (pv 5) pa_nil))))))))))))), ?_⟩
  wtm_at "x0"
  wtm_at "xs"
  rw [List.length_map]
  intro p1 H1 hp1 s1 h1
  wtm_at "xs"
  refine ⟨_, _, [8, (ks.length : Int), 2, 1000000001], rfl, Xk.sq_of h1, Nat.le_of_ble_eq_true rfl, ?_, fun p2 H2 ds hp2 s2 h2 hd hw => ?_⟩
  · intro z hz
    simp only [List.mem_cons, List.not_mem_nil, or_false] at hz
    omega
  obtain ⟨kd, at_, sg, nu, rfl⟩ : ∃ a b c e, ds = [a, b, c, e] := by
    match ds, hd with
    | [a, b, c, e], _ => exact ⟨a, b, c, e, rfl⟩
  have b1 := hw 0 _ _ rfl rfl
  have b2 := hw 1 _ _ rfl rfl
  have b3 := hw 2 _ _ rfl rfl
  have b4 := hw 3 _ _ rfl rfl
  replace h2 : H2 p2 = some (.lst [.int kd, .int at_, .int sg, .int nu]) := h2
  have s02 := s1.trans s2
  have ha2 := Xk.sq_same ha s02
  clear hw hd s1 s2 hp1 hp2 h1
  wtm_at "xs"
  obtain ⟨j, hj⟩ := Int.eq_ofNat_of_zero_le b2.1
  obtain ⟨k, hk⟩ := Xk.lt_at (xs := ks) (j := j) (by omega)
  have hkm := List.mem_of_getElem? hk
  refine Xk.x_ixL ha2 (Xk.at_nat hj (Xk.map_at hk)) ?_
  wtm_at "xs"
  refine Xk.x_nocut ?_
  wtm_at "xs"
  refine Xk.x_itd (fun h3 => ?_) (fun h3 => ?_)
  · wtm_at "xs"
    intro p H3 hp s3 h4
    exact q _ p (.get k) (s02.trans s3) (Xk.free_back hp s02) h4 trivial hkm (fun _ _ z => by cases z)
  wtm_at "xs"
  refine Xk.x_nocut ?_
  wtm_at "xs"
  refine Xk.x_itd (fun h3 => ?_) (fun h3 => ?_)
  · wtm_at "xs"
    refine Xk.x_I (wide_div (b := 40) (by decide) (by decide) (by decide) (by decide)) ?_
    wtm_at "xs"
    refine ⟨_, rfl, Int.ediv_nonneg hn (by decide), fun v H3 s3 hv hv2 => ?_⟩
    wtm_at "xs"
    intro p H4 hp s4 h4
    refine q _ p (.put k v) (s02.trans (s3.trans s4)) (Xk.free_back hp (s02.trans s3)) h4 hv hkm (fun _ _ z => by cases z; exact hv2)
  wtm_at "xs"
  refine Xk.x_nocut ?_
  wtm_at "xs"
  refine Xk.x_itd (fun h5 => ?_) (fun h5 => ?_)
  · wtm_at "xs"
    intro p H3 hp s3 h4
    exact q _ p (.del k) (s02.trans s3) (Xk.free_back hp s02) h4 trivial hkm (fun _ _ z => by cases z)
  have h5' : kd ≠ 4 := fun z => h5 (congrArg V.int z)
  wtm_at "xs"
  intro p3 H3 hp3 s3 h4
  obtain ⟨j2, hj2⟩ := Int.eq_ofNat_of_zero_le (show 0 ≤ kd - 5 by omega)
  obtain ⟨x, hx⟩ := Xk.lt_at (xs := [nu, nu % 9, 1000000000]) (j := j2) (by simp only [List.length_cons, List.length_nil]; omega)
  wtm_at "xs"
  refine Xk.x_ixL (Xk.sq_of h4) (Xk.at_nat hj2 (show ([nu, nu % 9, 1000000000].map V.int)[j2]? = _ from Xk.map_at hx)) ?_
  have hb : 0 ≤ x ∧ x ≤ 1000000000 := by
    have hm := List.mem_of_getElem? hx
    simp only [List.mem_cons, List.not_mem_nil, or_false] at hm
    omega
  wtm_at "xs"
  refine Xk.x_nocut ?_
  wtm_at "xs"
  refine Xk.x_itd (fun h6 => ?_) (fun h6 => ?_)
  · wtm_at "xs"
    intro p H4 hp s4 h7
    exact q _ p (.add k (-x)) (s02.trans (s3.trans s4)) (Xk.free_back hp (s02.trans s3)) h7 (show _ ∧ _ by omega) hkm (fun _ _ z => by cases z)
  · wtm_at "xs"
    intro p H4 hp s4 h7
    exact q _ p (.add k x) (s02.trans (s3.trans s4)) (Xk.free_back hp (s02.trans s3)) h7 (show _ ∧ _ by omega) hkm (fun _ _ z => by cases z)
--CUT--
/-- the keys that the law draws -/
def KsOk (ks : List Str) : Prop := ∀ k ∈ ks, isKey (.str k) = true
theorem isKey_str {s : Str} (h : isKey (.str s) = true) : 1 ≤ s.length ∧ s.length ≤ 8 ∧ Xk.AllC al s = true := by
  have h2 : (decide (1 ≤ s.length) && (decide (s.length ≤ 8) && Xk.AllC al s)) = true := h
  rw [Bool.and_eq_true, Bool.and_eq_true, decide_eq_true_eq, decide_eq_true_eq] at h2
  exact h2
theorem isKey_of {s : Str} (h1 : 1 ≤ s.length) (h2 : s.length ≤ 8) (h3 : Xk.AllC al s = true) : isKey (.str s) = true := by
  show (decide (1 ≤ s.length) && (decide (s.length ≤ 8) && Xk.AllC al s)) = true
  rw [decide_eq_true h1, decide_eq_true h2, h3]
  rfl
theorem len_take (z : Str) (n : Nat) : (cutS z none (some (n : Int))).length = min n z.length := by
  show (cutS z none (some (n : Int))).cps.size = _
  unfold cutS
  rw [HT.sIx_none, HT.sIx_nat]
  simp only [List.size_toArray, List.length_take, List.length_drop, Array.length_toList]
  have : z.length = z.cps.size := rfl
  omega
theorem flat_strs : ∀ ks : List Str, (ks.map V.str).all flatV = true
  | [] => rfl
  | k :: r => by
    rw [List.map_cons, List.all_cons, flat_strs r]
    rfl
theorem in_strs (s : Str) : ∀ ks : List Str, inV (.str s) (ks.map V.str) = decide (s ∈ ks)
  | [] => by simp [inV]
  | k :: r => by
    have h := in_strs s r
    unfold inV at h ⊢
    rw [List.map_cons, List.any_cons, h]
    by_cases e : k = s
    · subst e
      simp [eqV]
    · have e' : ¬ s = k := fun z => e z.symm
      simp [eqV, e, e']
def sp__law_keys (K : PySem.W.Frag) : Sp := fun vs H Q _ => ∃ (a : Addr) (at_ m : Int) (ns : List Int), vs = [.ref a, .int at_, .int m] ∧ SqL K H a (ns.map V.int) ∧ ns.length ≤ 63 ∧ 0 ≤ at_ ∧ at_ ≤ 500 ∧ 1 ≤ m ∧ m ≤ 50 ∧
  ∀ H' p (ks : List Str), Same H H' → Xk.Fr p H → H' p = some (.lst (ks.map V.str)) → 1 ≤ ks.length → (ks.length : Int) ≤ m → KsOk ks → ks.Nodup → Q (.ref p) H'
theorem ok__law_keys (T : Txt K mg) : FnOk P w K mg base CX0 2 T.f__law_keys T.d__law_keys ["script", "at", "most"] (sp__law_keys K) := by
  refine T.F__law_keys.ok sc__law_keys (fun vs H Q E h => ?_) (fun cdv A outer s H vs Q E hr h => ?_)
  · obtain ⟨a, at_, m, ns, rfl, _⟩ := h
    rfl
  obtain ⟨a, at_, m, ns, rfl, ha, hl, h0, h1, h2, h3, q⟩ := h
  refine ⟨_, (pss_cons (ps_set (i := 3) sc__law_keys.nd rfl (Or.inl rfl) (pe_lst pa_nil))
      (pss_cons (ps_set (i := 4) sc__law_keys.nd rfl (Or.inl rfl) (pe_op op_add (pe_int) (pe_op op_mod (pe_callTy Xk.call_nInt (by rfl) T.m_int (by decide +kernel) (pa_cons (pe_call (ok__law_row T) (hr.mono (by decide)) (by rfl) T.g__law_row T.F__law_row.kp T.b__law_row .nil pass0 (pa_cons (pv 0) (pa_cons (pv 1) pa_nil))) pa_nil)) (pv 2))))
      (pss_cons (ps_for PassesOwn.never rfl (pi_range1 (by rfl) T.m_range (pa_cons (pv 4) pa_nil)) (pg_name (i := 5) sc__law_keys.nd rfl (Or.inl rfl)) (pss_cons (ps_set (i := 6) sc__law_keys.nd rfl (Or.inl rfl) (pe_call (ok__law_key T) (hr.mono (by decide)) (by rfl) T.g__law_key T.F__law_key.kp T.b__law_key .nil pass0 (pa_cons (pe_call (ok__law_row T) (hr.mono (by decide)) (by rfl) T.g__law_row T.F__law_row.kp T.b__law_row .nil pass0 (pa_cons (pv 0) (pa_cons (pe_op op_add (pe_op op_add (pv 1) (pe_int)) (pv 5)) pa_nil))) (pa_cons (pe_int) pa_nil))))
      (Evl.pss_cut (ps_if (pt_cmpR op_eq (pe_op op_mod (pv 5) (pe_int)) (pe_int) (nomark _)) (pss_one (ps_set (i := 6) sc__law_keys.nd rfl (Or.inl rfl) (pe_slice sl_str (pe_op Xk.op_nAddS (pe_ix (Xk.k_ixL (K := K) (by rfl)) (pv 3) (pe_int) (fun _ _ => rfl)) (pv 6)) po_none (po_some (pe_int))))) pss_nil)
      (pss_one (ps_if (pt_cmpR (Xk.k_nin (K := K) (by rfl)) (pv 6) (pv 3) (by rfl)) (pss_one (ps_expr (pe_bm PySem.F.plainAttrs_list PySem.F.slot_list_append PySem.F.type_list_append mt_append (pv 3) (pa_cons (pv 6) pa_nil)))) pss_nil)))))
      (pss_one (ps_ret (pv 3)))))), ?_⟩
  wtm_at "x0"
  wtm_at "xs"
  intro p H1 hp s1 hp1
  wtm_at "xs"
  refine ⟨_, _, ns, rfl, Xk.sq_same ha s1, hl, by omega, by omega, fun n hn => ?_⟩
  wtm_at "xs"
  have e1 := Int.emod_nonneg n (show m ≠ 0 by omega)
  have e2 := Int.emod_lt_of_pos n (show 0 < m by omega)
  refine Xk.x_range (fun i σ' H' => ∃ (ks : List Str) (y1 y2 : Option V), σ' = [some (.ref a), some (.int at_), some (.int m), some (.ref p), some (.int (1 + n % m)), y1, y2] ∧ Same H H' ∧ H' p = some (.lst (ks.map V.str)) ∧ ks.length ≤ i ∧ (1 ≤ i → 1 ≤ ks.length) ∧ KsOk ks ∧ ks.Nodup)
    ⟨by omega, by omega⟩ ⟨[], _, _, rfl, s1, hp1, Nat.le_refl _, fun z => (by omega), fun k z => (by cases z), .nil⟩ ?_ ?_
  · rintro i σ' H' hi ⟨ks, y1, y2, rfl, s2, hp2, hk1, hk2, hk3, hk4⟩
    wtm_at "xs"
    refine ⟨_, _, ns, rfl, Xk.sq_same ha s2, hl, by omega, by omega, fun n2 hn2 => ?_⟩
    wtm_at "xs"
    refine ⟨_, _, rfl, hn2, by decide, by decide, fun s' hs1 hs2 hs3 => ?_⟩
    refine Xk.x_cut (fun σ'' H'' => ∃ s' : Str, H' = H'' ∧ isKey (.str s') = true ∧ σ'' = [some (.ref a), some (.int at_), some (.int m), some (.ref p), some (.int (1 + n % m)), some (.int i), some (.str s')]) ?_ ?_
    · wtm_at "xs"
      refine Xk.x_itd (fun h4 => ?_) (fun h4 => ?_)
      · have h5 : (i : Int) % 3 = 2 := V.int.inj h4
        obtain ⟨k0, hk0⟩ := Xk.lt_at (xs := ks) (j := 0) (by have := hk2 (by omega); omega)
        have hk0' := isKey_str (hk3 k0 (List.mem_of_getElem? hk0))
        wtm_at "xs"
        refine Xk.x_slS (by rw [Xk.len_add]; omega) ?_
        have hc : (cutS (k0 ++ s') none (some 8)).length = min 8 (k0 ++ s').length := len_take _ 8
        rw [Xk.len_add] at hc
        exact ⟨_, rfl, isKey_of (by omega) (by omega) (Xk.allC_cut (Xk.allC_add hk0'.2.2 hs1)), rfl⟩
      · wtm_at "xs"
        exact ⟨s', rfl, isKey_of hs2 (by omega) hs1, rfl⟩
    rintro σ'' H'' ⟨s2', rfl, hs, rfl⟩
    wtm_at "xs"
    refine Xk.x_niL (Xk.sq_of hp2) rfl (flat_strs _) ?_
    rw [in_strs]
    wtm_at "xs"
    refine Xk.x_itn (fun h4 => ?_) (fun h4 => ?_)
    · wtm_at "xs"
      refine ⟨ks ++ [s2'], _, _, rfl, Xk.same_mut s2 hp, by rw [upd_same, List.map_append]; rfl, by rw [List.length_append]; show ks.length + 1 ≤ i + 1; omega, fun _ => by rw [List.length_append]; show 1 ≤ ks.length + 1; omega, fun k hk => ?_, ?_⟩
      · rcases List.mem_append.mp hk with hk | hk
        · exact hk3 k hk
        · rw [List.mem_singleton.mp hk]
          exact hs
      · refine List.nodup_append.mpr ⟨hk4, by simp, fun x hx y hy => ?_⟩
        rw [List.mem_singleton.mp hy]
        rintro rfl
        exact h4 hx
    · wtm_at "xs"
      exact ⟨ks, _, _, rfl, s2, hp2, by omega, fun _ => by have := List.length_pos_of_mem h4; omega, hk3, hk4⟩
  · rintro σ' H' ⟨ks, y1, y2, rfl, s2, hp2, hk1, hk2, hk3, hk4⟩
    wtm_at "xs"
    exact q H' p ks s2 hp hp2 (hk2 (by omega)) (by omega) hk3 hk4
--CUT--
/-- rows of the keys that the law draws -/
structure KvOk (ks : List Str) (kvs : Kvs) : Prop where
  nd : (kvs.map (·.1)).Nodup
  ok : ∀ p ∈ kvs, (∃ k ∈ ks, p.1 = Sum.inr k) ∧ VOk p.2
theorem val_mem {kvs : Kvs} {k : Key} {v : V} (h : valV kvs k = some v) : (k, v) ∈ kvs := by
  unfold valV at h
  obtain ⟨p, hp, rfl⟩ := Option.map_eq_some_iff.mp h
  have h1 := List.mem_of_find?_eq_some hp
  have h2 := List.find?_some hp
  have h3 : p.1 = k := of_decide_eq_true h2
  rw [← h3]
  exact h1
theorem KvOk.val {ks : List Str} {kvs : Kvs} (h : KvOk ks kvs) {k : Key} {v : V} (e : valV kvs k = some v) : VOk v := (h.ok _ (val_mem e)).2
theorem KvOk.put {ks : List Str} {kvs : Kvs} (h : KvOk ks kvs) {k : Str} {v : V} (hk : k ∈ ks) (hv : VOk v) : KvOk ks (putK kvs (Sum.inr k) v) ∧ (putK kvs (Sum.inr k) v).length ≤ kvs.length + 1 := by
  cases e : valV kvs (Sum.inr k) with
  | none =>
    refine ⟨⟨nd_putK v h.nd e, ?_⟩, ?_⟩
    · rw [putK_new v e]
      intro p hp
      rcases List.mem_append.mp hp with hp | hp
      · exact h.ok p hp
      · rw [List.mem_singleton.mp hp]
        exact ⟨⟨k, hk, rfl⟩, hv⟩
    · rw [putK_new v e, List.length_append]
      exact Nat.le_refl _
  | some u =>
    have e2 : putK kvs (Sum.inr k) v = kvs.map fun kv => if kv.1 = Sum.inr k then (kv.1, v) else kv := by
      unfold putK
      rw [valV_any, e]
      rfl
    rw [e2]
    refine ⟨⟨?_, ?_⟩, by rw [List.length_map]; omega⟩
    · rw [List.map_map]
      have e3 : ((fun x : Key × V => x.1) ∘ fun kv : Key × V => if kv.1 = Sum.inr k then (kv.1, v) else kv) = fun x => x.1 := by
        funext x
        simp only [Function.comp]
        split <;> rfl
      rw [e3]
      exact h.nd
    · intro p hp
      obtain ⟨q, hq, rfl⟩ := List.mem_map.mp hp
      have h4 := h.ok q hq
      split
      · exact ⟨h4.1, hv⟩
      · exact h4
theorem KvOk.drop {ks : List Str} {kvs : Kvs} (h : KvOk ks kvs) (k : Key) : KvOk ks (dropK kvs k) ∧ (dropK kvs k).length ≤ kvs.length := by
  unfold dropK
  exact ⟨⟨h.nd.sublist ((List.filter_sublist).map _), fun p hp => h.ok p (List.mem_filter.mp hp).1⟩, List.length_filter_le _ _⟩
theorem app_ok {ks : List Str} {kvs : Kvs} (h : KvOk ks kvs) {d : Dd} (hd : d.ok) (hk : d.key ∈ ks) : KvOk ks (app kvs d).1 ∧ (app kvs d).1.length ≤ kvs.length + 1 ∧ ((app kvs d).2 = .non ∨ VOk (app kvs d).2) := by
  have hg : ∀ k, gv kvs k = .non ∨ VOk (gv kvs k) := fun k => by
    unfold gv
    cases e : valV kvs (Sum.inr k) with
    | none => exact .inl rfl
    | some v => exact .inr (h.val e)
  cases d with
  | get k => exact ⟨h, Nat.le_succ _, hg k⟩
  | put k v =>
    have h2 := h.put (k := k) (v := v) hk hd
    exact ⟨h2.1, h2.2, hg k⟩
  | del k =>
    show KvOk ks (if (valV kvs (Sum.inr k)).isSome = true then dropK kvs (Sum.inr k) else kvs) ∧ (if (valV kvs (Sum.inr k)).isSome = true then dropK kvs (Sum.inr k) else kvs).length ≤ _ ∧ _
    split
    · exact ⟨(h.drop _).1, Nat.le_succ_of_le (h.drop _).2, hg k⟩
    · exact ⟨h, Nat.le_succ _, hg k⟩
  | add k n =>
    show KvOk ks (addR kvs k n (valV kvs (Sum.inr k))).1 ∧ (addR kvs k n (valV kvs (Sum.inr k))).1.length ≤ _ ∧ ((addR kvs k n (valV kvs (Sum.inr k))).2 = .non ∨ VOk (addR kvs k n (valV kvs (Sum.inr k))).2)
    cases e : valV kvs (Sum.inr k) with
    | none =>
      have h2 := h.put (k := k) (v := .int n) hk (.inl ⟨_, rfl⟩)
      exact ⟨h2.1, h2.2, .inr (.inl ⟨_, rfl⟩)⟩
    | some v =>
      rcases h.val e with ⟨i, rfl⟩ | ⟨s', rfl, _⟩
      · show KvOk ks (if -1000000000000000 ≤ i + n ∧ i + n ≤ 1000000000000000 then (putK kvs (Sum.inr k) (.int (i + n)), V.int (i + n)) else (kvs, .non)).1 ∧ (if -1000000000000000 ≤ i + n ∧ i + n ≤ 1000000000000000 then (putK kvs (Sum.inr k) (.int (i + n)), V.int (i + n)) else (kvs, .non)).1.length ≤ _ ∧
          ((if -1000000000000000 ≤ i + n ∧ i + n ≤ 1000000000000000 then (putK kvs (Sum.inr k) (.int (i + n)), V.int (i + n)) else (kvs, .non)).2 = .non ∨ VOk (if -1000000000000000 ≤ i + n ∧ i + n ≤ 1000000000000000 then (putK kvs (Sum.inr k) (.int (i + n)), V.int (i + n)) else (kvs, .non)).2)
        split
        · have h2 := h.put (k := k) (v := .int (i + n)) hk (.inl ⟨_, rfl⟩)
          exact ⟨h2.1, h2.2, .inr (.inl ⟨_, rfl⟩)⟩
        · exact ⟨h, Nat.le_succ _, .inl rfl⟩
      · exact ⟨h, Nat.le_succ _, .inl rfl⟩
def Iv (kvs : Kvs) : Prop := ∀ p ∈ kvs, isVal p.2 = true
theorem Iv.put {kvs : Kvs} (h : Iv kvs) {k : Str} {v : V} (hv : isVal v = true) : Iv (putK kvs (Sum.inr k) v) := by
  cases e : valV kvs (Sum.inr k) with
  | none =>
    rw [putK_new v e]
    intro p hp
    rcases List.mem_append.mp hp with hp | hp
    · exact h p hp
    · rw [List.mem_singleton.mp hp]
      exact hv
  | some u =>
    have e2 : putK kvs (Sum.inr k) v = kvs.map fun kv => if kv.1 = Sum.inr k then (kv.1, v) else kv := by
      unfold putK
      rw [valV_any, e]
      rfl
    rw [e2]
    intro p hp
    obtain ⟨q, hq, rfl⟩ := List.mem_map.mp hp
    split
    · exact hv
    · exact h q hq
theorem Iv.drop {kvs : Kvs} (h : Iv kvs) (k : Key) : Iv (dropK kvs k) := fun p hp => h p (List.mem_filter.mp hp).1
theorem val_int {n : Int} (h1 : -1000000000000000 ≤ n) (h2 : n ≤ 1000000000000000) : isVal (.int n) = true := by
  show (decide (-(10 ^ 15) ≤ n) && decide (n ≤ 10 ^ 15)) = true
  rw [decide_eq_true (by omega), decide_eq_true (by omega)]
  rfl
theorem Iv.gv {kvs : Kvs} (h : Iv kvs) (k : Str) : gv kvs k = .non ∨ isVal (gv kvs k) = true := by
  unfold K05.gv
  cases e : valV kvs (Sum.inr k) with
  | none => exact .inl rfl
  | some v => exact .inr (h _ (val_mem e))
theorem app_iv {kvs : Kvs} (h : Iv kvs) {d : Dd} (hd : d.ok) (hv : ∀ k v, d = .put k v → isVal v = true) : Iv (app kvs d).1 := by
  cases d with
  | get k => exact h
  | put k v => exact h.put (hv k v rfl)
  | del k =>
    show Iv (if (valV kvs (Sum.inr k)).isSome = true then dropK kvs (Sum.inr k) else kvs)
    split
    · exact h.drop _
    · exact h
  | add k n =>
    show Iv (addR kvs k n (valV kvs (Sum.inr k))).1
    have hn : -1000000000 ≤ n ∧ n ≤ 1000000000 := hd
    cases e : valV kvs (Sum.inr k) with
    | none => exact h.put (val_int (by omega) (by omega))
    | some v =>
      cases v with
      | int i =>
        show Iv (if -1000000000000000 ≤ i + n ∧ i + n ≤ 1000000000000000 then (putK kvs (Sum.inr k) (.int (i + n)), V.int (i + n)) else (kvs, .non)).1
        split
        · rename_i c
          exact h.put (val_int c.1 c.2)
        · exact h
      | _ => exact h
def sp__law_rows (K : PySem.W.Frag) : Sp := fun vs H Q _ => ∃ (a b : Addr) (at_ : Int) (ns : List Int) (ks : List Str), vs = [.ref a, .int at_, .ref b] ∧ SqL K H a (ns.map V.int) ∧ ns.length ≤ 63 ∧ 0 ≤ at_ ∧ at_ ≤ 500 ∧ SqL K H b (ks.map V.str) ∧ ks.length ≤ 50 ∧
  ∀ H' p kvs, Same H H' → Xk.Fr p H → H' p = some (.dK kvs) → KvOk ks kvs → Iv kvs → kvs.length ≤ 50 → Q (.ref p) H'
theorem ok__law_rows (T : Txt K mg) : FnOk P w K mg base CX0 4 T.f__law_rows T.d__law_rows ["script", "at", "keys"] (sp__law_rows K) := by
  refine T.F__law_rows.ok sc__law_rows (fun vs H Q E h => ?_) (fun cdv A outer s H vs Q E hr h => ?_)
  · obtain ⟨a, b, at_, ns, ks, rfl, _⟩ := h
    rfl
  obtain ⟨a, b, at_, ns, ks, rfl, ha, hl, h0, h1, hb, hk, q⟩ := h
  refine ⟨_, (pss_cons (ps_set (i := 3) sc__law_rows.nd rfl (Or.inl rfl) (pe_dnewK))
      (pss_cons (ps_for PassesOwn.never rfl (pi_range1 (by rfl) T.m_range (pa_cons (pe_callB (Xk.k_len (K := K) (by rfl)) (by rfl) T.m_len PySem.boot_len (pa_cons (pv 2) pa_nil)) pa_nil)) (pg_name (i := 4) sc__law_rows.nd rfl (Or.inl rfl)) (pss_one (ps_if (pt_cmpR op_gt (pe_op op_mod (pe_op op_fdiv (pe_callTy Xk.call_nInt (by rfl) T.m_int (by decide +kernel) (pa_cons (pe_call (ok__law_row T) (hr.mono (by decide)) (by rfl) T.g__law_row T.F__law_row.kp T.b__law_row .nil pass0 (pa_cons (pv 0) (pa_cons (pv 1) pa_nil))) pa_nil)) (pe_op op_add (pv 4) (pe_int))) (pe_int)) (pe_int) (nomark _)) (pss_one (ps_dput (hu_of hr) (pv 3) (pe_ix (Xk.k_ixL (K := K) (by rfl)) (pv 2) (pv 4) (fun _ _ => rfl)) (pe_call (ok__law_value T) (hr.mono (by decide)) (by rfl) T.g__law_value T.F__law_value.kp T.b__law_value .nil pass0 (pa_cons (pe_call (ok__law_row T) (hr.mono (by decide)) (by rfl) T.g__law_row T.F__law_row.kp T.b__law_row .nil pass0 (pa_cons (pv 0) (pa_cons (pe_op op_add (pe_op op_add (pv 1) (pe_int)) (pv 4)) pa_nil))) pa_nil)) rfl)) pss_nil)))
      (pss_one (ps_ret (pv 3))))), ?_⟩
  wtm_at "x0"
  wtm_at "xs"
  intro p H1 hp s1 hp1
  have hb1 := Xk.sq_same hb s1
  wtm_at "xs"
  rw [List.length_map]
  refine Xk.x_range (fun i σ' H' => ∃ (kvs : Kvs) (y : Option V), σ' = [some (.ref a), some (.int at_), some (.ref b), some (.ref p), y] ∧ Same H H' ∧ H' p = some (.dK kvs) ∧ KvOk ks kvs ∧ Iv kvs ∧ kvs.length ≤ i)
    ⟨by omega, by omega⟩ ⟨[], _, rfl, s1, hp1, ⟨.nil, fun p hp => by cases hp⟩, fun p hp => (by cases hp), Nat.le_refl _⟩ ?_ ?_
  · rintro i σ' H' hi ⟨kvs, y, rfl, s2, hp2, hkv, hiv, hlen⟩
    wtm_at "xs"
    refine ⟨_, _, ns, rfl, Xk.sq_same ha s2, hl, by omega, by omega, fun n hn => ?_⟩
    wtm_at "xs"
    obtain ⟨k, hk'⟩ := Xk.lt_at (xs := ks) (j := i) (by omega)
    refine Xk.x_itd (fun h => ?_) (fun h => ?_)
    · wtm_at "xs"
      refine ⟨_, _, ns, rfl, Xk.sq_same ha s2, hl, by omega, by omega, fun n2 hn2 => ?_⟩
      wtm_at "xs"
      refine ⟨_, rfl, hn2, fun v H2 s3 hv hv2 => ?_⟩
      have hb2 := Xk.sq_same hb (s2.trans s3)
      have hp3 := s3 _ _ hp2
      have few : kvs.length < 1000 := by omega
      have h5 := hkv.put (v := v) (List.mem_of_getElem? hk') hv
      wtm_at "xs"
      exact ⟨_, _, rfl, Xk.same_mut (s2.trans s3) hp, upd_same, h5.1, hiv.put hv2, by omega⟩
    · wtm_at "xs"
      exact ⟨kvs, _, rfl, s2, hp2, hkv, hiv, by omega⟩
  · rintro σ' H' ⟨kvs, y, rfl, s2, hp2, hkv, hiv, hlen⟩
    wtm_at "xs"
    exact q H' p kvs s2 hp hp2 hkv hiv (by omega)
--CUT--
theorem rise_pair : ∀ {l : List Str} {p : Str}, risingS p l = true → (p :: l).Pairwise (fun a b : Str => a.cps.toList ≤ b.cps.toList)
  | [], p, _ => List.pairwise_singleton _ _
  | x :: r, p, h => by
    have h2 : (!ltCps x.cps.toList p.cps.toList && risingS x r) = true := h
    rw [Bool.and_eq_true, ltCps_eq, Bool.not_eq_true', decide_eq_false_iff_not] at h2
    have h3 := rise_pair h2.2
    have h4 : p.cps.toList ≤ x.cps.toList := List.not_lt.mp h2.1
    refine List.pairwise_cons.mpr ⟨fun y hy => ?_, h3⟩
    rcases List.mem_cons.mp hy with rfl | hy
    · exact h4
    · exact List.le_trans h4 ((List.pairwise_cons.mp h3).1 y hy)
theorem srtS_pair {l : List Str} (h : sortedS l = true) : l.Pairwise (fun a b : Str => a.cps.toList ≤ b.cps.toList) := by
  cases l with
  | nil => exact .nil
  | cons p r => exact rise_pair h
theorem srtS_eq {xs ys : List Str} (p : xs.Perm ys) (h1 : sortedS xs = true) (h2 : sortedS ys = true) : xs = ys :=
  p.eq_of_pairwise (fun a b _ _ h h' => by
    have e := List.le_antisymm h h'
    cases a
    cases b
    exact congrArg Str.mk (Array.toList_inj.mp e)) (srtS_pair h1) (srtS_pair h2)
theorem pk_strs {H : Hp} {n : Nat} : ∀ ts : List Str, (∀ t ∈ ts, Xk.AllC Xk.okC t = true) → Xk.PkAll K H n (ts.map V.str) (ts.map PyData.str)
  | [], _ => Xk.pk_nil
  | t :: r, h => Xk.pk_cons (Xk.pk_str (Xk.lay_str (h t (List.mem_cons_self ..)))) (pk_strs r fun t ht => h t (List.mem_cons_of_mem _ ht))
theorem al_ok (c : Nat) (h : al c = true) : Xk.okC c = true := by
  have h2 : alphS.cps.toList.all Xk.okC = true := by decide +kernel
  exact List.all_eq_true.mp h2 c (of_decide_eq_true h)
theorem vok_flat {v : V} (h : VOk v) : flatB v = true := by
  rcases h with ⟨i, rfl⟩ | ⟨s', rfl, _⟩ <;> rfl
--CUT--
theorem tx_ok (c : Nat) (h : tx c = true) : Xk.okC c = true := by
  have h1 : lowS.cps.toList.all Xk.okC = true := by decide +kernel
  have h2 : highS.cps.toList.all Xk.okC = true := by decide +kernel
  have h3 : (decide (c ∈ lowS.cps.toList) || decide (c ∈ highS.cps.toList)) = true := h
  rcases Bool.or_eq_true_iff.mp h3 with h3 | h3
  · exact List.all_eq_true.mp h1 c (of_decide_eq_true h3)
  · exact List.all_eq_true.mp h2 c (of_decide_eq_true h3)
def FV (v : V) : Prop := v = .non ∨ VOk v
def pd : V → PyData
  | .int i => .int i
  | .str s => .str s
  | _ => .none
theorem pk_fv {H : Hp} {n : Nat} {v : V} (h : FV v) : Xk.Pk K H n v (pd v) := by
  rcases h with rfl | ⟨i, rfl⟩ | ⟨s', rfl, _, h⟩
  · exact Xk.pk_non
  · exact Xk.pk_int
  · exact Xk.pk_str (Xk.lay_str (Xk.allC_mono h tx_ok))
theorem pk_fvs {H : Hp} {n : Nat} : ∀ vs : List V, (∀ v ∈ vs, FV v) → Xk.PkAll K H n vs (vs.map pd)
  | [], _ => Xk.pk_nil
  | v :: r, h => Xk.pk_cons (pk_fv (h v (List.mem_cons_self ..))) (pk_fvs r fun v hv => h v (List.mem_cons_of_mem _ hv))
theorem keep_tup {H : Hp} {a c : Addr} {xs ys : List V} {o : HO} (h : H a = some (.tup xs)) (h' : H c = some (.lst ys)) : upd H c o a = some (.tup xs) :=
  (upd_ne (fun z => by subst z; rw [h'] at h; cases h)).trans h
abbrev Ck := Str × V
structure DlAt (H : Hp) (p : Addr) (C : List (Addr × Ck)) (D : List (Addr × Dd)) : Prop where
  tp : ∃ pc pd, H p = some (.tup [.ref pc, .ref pd]) ∧ H pc = some (.tup (C.map fun e => V.ref e.1)) ∧ H pd = some (.tup (D.map fun e => V.ref e.1))
  ck : ∀ e ∈ C, H e.1 = some (.tup [.str e.2.1, e.2.2])
  dd : ∀ e ∈ D, H e.1 = some (.tup e.2.xs)
  fv : ∀ e ∈ C, FV e.2.2
  ok : ∀ e ∈ D, e.2.ok
  cl : C.length ≤ 20
  dl : D.length ≤ 20
theorem DlAt.same {H H' : Hp} {p : Addr} {C : List (Addr × Ck)} {D : List (Addr × Dd)} (h : DlAt H p C D) (s : Same H H') : DlAt H' p C D := by
  obtain ⟨pc, pd, h1, h2, h3⟩ := h.tp
  exact ⟨⟨pc, pd, s _ _ h1, s _ _ h2, s _ _ h3⟩, fun e he => s _ _ (h.ck e he), fun e he => s _ _ (h.dd e he), h.fv, h.ok, h.cl, h.dl⟩
theorem gv_fv {ks : List Str} {kvs : Kvs} (h : KvOk ks kvs) (k : Str) : FV (gv kvs k) := by
  unfold gv
  cases e : valV kvs (Sum.inr k) with
  | none => exact .inl rfl
  | some v => exact .inr (h.val e)
--CUT--
def KvIn (ks : List Str) (k : Str) : Prop := k ∈ ks
def sp__law_deal (K : PySem.W.Frag) : Sp := fun vs H Q _ => ∃ (a r : Addr) (n m : Int) (ks : List Str) (kvs : Kvs) (ks2 : List Str), vs = [.ref a, .ref r, .int n, .int m] ∧ SqL K H a (ks.map V.str) ∧ 1 ≤ ks.length ∧ ks.length ≤ 100 ∧ 0 ≤ n ∧ 0 ≤ m ∧ H r = some (.dK kvs) ∧ KvOk ks2 kvs ∧ Iv kvs ∧
  ∀ H' p C D, Same H H' → Xk.Fr p H → DlAt H' p C D → (∀ e ∈ D, e.2.key ∈ ks ∧ ∀ k v, e.2 = .put k v → isVal v = true) → (∀ e ∈ C, e.2.1 ∈ ks ∧ (e.2.2 = .non ∨ isVal e.2.2 = true)) → C.length ≤ 4 → D.length ≤ 6 → C.length + D.length ≠ 0 → Q (.ref p) H'
theorem ok__law_deal (T : Txt K mg) : FnOk P w K mg base CX0 5 T.f__law_deal T.d__law_deal ["keys", "rows", "row", "more"] (sp__law_deal K) := by
  refine T.F__law_deal.ok sc__law_deal (fun vs H Q E h => ?_) (fun cdv A outer s H vs Q E hr h => ?_)
  · obtain ⟨a, r, n, m, ks, kvs, ks2, rfl, _⟩ := h
    rfl
  obtain ⟨a, r, n, m, ks, kvs, ks2, rfl, ha, hl1, hl2, hn, hm, hr0, hkv, hiv, q⟩ := h
  refine ⟨_, (pss_cons (ps_set (i := 4) sc__law_deal.nd rfl (Or.inl rfl) (pe_lst pa_nil))
      (pss_cons (ps_set (i := 5) sc__law_deal.nd rfl (Or.inl rfl) (pe_lst pa_nil))
      (pss_cons (ps_asg (pe_call (ok__law_digits T) (hr.mono (by decide)) (by rfl) T.g__law_digits T.F__law_digits.kp T.b__law_digits .nil pass0 (pa_cons (pv 2) (pa_cons (pe_lst (pa_cons (pe_int) (pa_cons (pe_int) (pa_cons (pe_int) pa_nil)))) pa_nil))) (pg_lst rfl (pgs_cons (pg_name (i := 6) sc__law_deal.nd rfl (Or.inl rfl)) (pgs_cons (pg_name (i := 7) sc__law_deal.nd rfl (Or.inl rfl)) (pgs_cons (pg_name (i := 8) sc__law_deal.nd rfl (Or.inl rfl)) pgs_nil)))))
      (Evl.pss_cut (ps_if (pt_cmpR op_eq (pe_op op_add (pv 6) (pv 7)) (pe_int) (nomark _)) (pss_one (ps_set (i := 7) sc__law_deal.nd rfl (Or.inl rfl) (pe_int))) pss_nil)
      (pss_cons (ps_for PassesOwn.never rfl (pi_range1 (by rfl) T.m_range (pa_cons (pv 6) pa_nil)) (pg_name (i := 9) sc__law_deal.nd rfl (Or.inl rfl)) (pss_cons (ps_asg (pe_call (ok__law_digits T) (hr.mono (by decide)) (by rfl) T.g__law_digits T.F__law_digits.kp T.b__law_digits .nil pass0 (pa_cons (pe_op op_fdiv (pv 2) (pe_op op_add (pe_int) (pe_op op_mul (pe_int) (pv 9)))) (pa_cons (pe_lst (pa_cons (pe_callB (Xk.k_len (K := K) (by rfl)) (by rfl) T.m_len PySem.boot_len (pa_cons (pv 0) pa_nil)) (pa_cons (pe_int) (pa_cons (pe_op op_pow (pe_int) (pe_int)) pa_nil)))) pa_nil))) (pg_lst rfl (pgs_cons (pg_name (i := 10) sc__law_deal.nd rfl (Or.inl rfl)) (pgs_cons (pg_name (i := 11) sc__law_deal.nd rfl (Or.inl rfl)) (pgs_cons (pg_name (i := 12) sc__law_deal.nd rfl (Or.inl rfl)) pgs_nil)))))
      (pss_cons (ps_set (i := 13) sc__law_deal.nd rfl (Or.inl rfl) (pe_ix (Xk.k_ixL (K := K) (by rfl)) (pv 0) (pv 10) (fun _ _ => rfl)))
      (pss_cons (ps_set (i := 14) sc__law_deal.nd rfl (Or.inl rfl) (pe_dget1 (hu_of hr) (pv 1) (pv 13) ⟨by rfl, by rfl, by rfl, by rfl⟩))
      (Evl.pss_cut (ps_if (PW.pt (pw_and (pt_cmpR op_eq (pv 8) (pe_int) (nomark _)) (pw_and1 (pt_cmpR op_lt (pv 11) (pe_int) (nomark _))))) (pss_one (ps_set (i := 14) sc__law_deal.nd rfl (Or.inl rfl) (pe_ix (Xk.k_ixL (K := K) (by rfl)) (pe_lst (pa_cons (pe_non) (pa_cons (pv 12) pa_nil))) (pv 11) (fun _ _ => rfl)))) pss_nil)
      (pss_one (ps_expr (pe_bm PySem.F.plainAttrs_list PySem.F.slot_list_append PySem.F.type_list_append mt_append (pv 4) (pa_cons (pe_tup (pa_cons (pv 13) (pa_cons (pv 14) pa_nil))) pa_nil)))))))))
      (pss_cons (ps_for PassesOwn.never rfl (pi_range1 (by rfl) T.m_range (pa_cons (pv 7) pa_nil)) (pg_name (i := 9) sc__law_deal.nd rfl (Or.inl rfl)) (pss_one (ps_expr (pe_bm PySem.F.plainAttrs_list PySem.F.slot_list_append PySem.F.type_list_append mt_append (pv 5) (pa_cons (pe_call (ok__law_deed T) (hr.mono (by decide)) (by rfl) T.g__law_deed T.F__law_deed.kp T.b__law_deed .nil pass0 (pa_cons (pv 0) (pa_cons (pe_op op_add (pe_op op_fdiv (pv 3) (pe_op op_add (pv 9) (pe_int))) (pe_op op_mul (pv 9) (pv 2))) pa_nil))) pa_nil)))))
      (pss_one (ps_ret (pe_tup (pa_cons (pe_callTy (Xk.k_tuple (K := K) (by rfl)) (by rfl) T.m_tuple (by decide +kernel) (pa_cons (pv 4) pa_nil)) (pa_cons (pe_callTy (Xk.k_tuple (K := K) (by rfl)) (by rfl) T.m_tuple (by decide +kernel) (pa_cons (pv 5) pa_nil)) pa_nil))))))))))), ?_⟩
  wtm_at "x0"
  wtm_at "xs"
  intro cp H1 hcp s1 hc0
  wtm_at "xs"
  intro dp H2 hdp s2 hd0
  wtm_at "xs"
  intro zp H3 hzp s3 hz0
  wtm_at "xs"
  refine ⟨_, _, [5, 7, 3], rfl, Xk.sq_of hz0, Nat.le_of_ble_eq_true rfl, ?_, fun p2 H4 ds hp2 s4 h4 hd hw => ?_⟩
  · intro z hz
    simp only [List.mem_cons, List.not_mem_nil, or_false] at hz
    omega
  obtain ⟨mc, md, rt, rfl⟩ : ∃ a b c, ds = [a, b, c] := by
    match ds, hd with
    | [a, b, c], _ => exact ⟨a, b, c, rfl⟩
  have b1 := hw 0 _ _ rfl rfl
  have b2 := hw 1 _ _ rfl rfl
  replace h4 : H4 p2 = some (.lst [.int mc, .int md, .int rt]) := h4
  wtm_at "xs"
  have s04 : Same H H4 := s1.trans (s2.trans (s3.trans s4))
  have hc4 := (s2.trans (s3.trans s4)) _ _ hc0
  have hd4 := (s3.trans s4) _ _ hd0
  have fd : Xk.Fr dp H := Xk.free_back hdp s1
  have ncd : cp ≠ dp := Xk.ne_new hdp hc0
  clear hw hd s1 s2 s3 s4 hz0 hzp hc0 hd0 hp2 h4 hdp
  refine Xk.x_cut (fun σ' H' => H4 = H' ∧ ∃ md : Int, 0 ≤ md ∧ md ≤ 6 ∧ mc + md ≠ 0 ∧ σ' = [some (.ref a), some (.ref r), some (.int n), some (.int m), some (.ref cp), some (.ref dp), some (.int mc), some (.int md), some (.int rt), none, none, none, none, none, none]) ?_ ?_
  · wtm_at "xs"
    refine Xk.x_itd (fun h => ?_) (fun h => ?_)
    · wtm_at "xs"
      exact ⟨rfl, _, by omega, by omega, by omega, rfl⟩
    · wtm_at "xs"
      exact ⟨rfl, _, by omega, by omega, fun z => h (congrArg V.int z), rfl⟩
  clear b2
  rintro σ' H' ⟨rfl, md, b2, b3, b4, rfl⟩
  wtm_at "xs"
  refine Xk.x_range (fun i σ' H' => ∃ (y1 y2 y3 y4 y5 y6 : Option V) (C : List (Addr × Ck)), σ' = [some (.ref a), some (.ref r), some (.int n), some (.int m), some (.ref cp), some (.ref dp), some (.int mc), some (.int md), some (.int rt), y1, y2, y3, y4, y5, y6] ∧ Same H H' ∧ H' cp = some (.lst (C.map fun e => V.ref e.1)) ∧ H' dp = some (.lst []) ∧ (∀ e ∈ C, H' e.1 = some (.tup [.str e.2.1, e.2.2])) ∧ (∀ e ∈ C, FV e.2.2 ∧ e.2.1 ∈ ks ∧ (e.2.2 = .non ∨ isVal e.2.2 = true)) ∧ C.length = i)
    ⟨by omega, by omega⟩ ⟨_, _, _, _, _, _, [], rfl, s04, hc4, hd4, fun e z => (by cases z), fun e z => (by cases z), rfl⟩ ?_ ?_
  · rintro i σ' H5 hi ⟨y1, y2, y3, y4, y5, y6, C, rfl, s5, hc5, hd5, hce, hcf, hcl⟩
    have ha5 := Xk.sq_same ha s5
    have hr5 := s5 _ _ hr0
    wtm_at "xs"
    rw [List.length_map]
    intro zp H6 hzp s6 hz
    wtm_at "xs"
    refine ⟨_, _, [(ks.length : Int), 8, 1000000000], rfl, Xk.sq_of hz, Nat.le_of_ble_eq_true rfl, ?_, fun p2 H7 ds hp2 s7 h7 hd hw => ?_⟩
    · intro z hz
      simp only [List.mem_cons, List.not_mem_nil, or_false] at hz
      omega
    obtain ⟨at_, kd, vl, rfl⟩ : ∃ a b c, ds = [a, b, c] := by
      match ds, hd with
      | [a, b, c], _ => exact ⟨a, b, c, rfl⟩
    have c1 := hw 0 _ _ rfl rfl
    have c2 := hw 1 _ _ rfl rfl
    have c3 := hw 2 _ _ rfl rfl
    replace h7 : H7 p2 = some (.lst [.int at_, .int kd, .int vl]) := h7
    have s67 := s6.trans s7
    have ha7 := Xk.sq_same ha5 s67
    have hr7 := s67 _ _ hr5
    have hc7 := s67 _ _ hc5
    have hd7 := s67 _ _ hd5
    have s07 := s5.trans s67
    have hce7 : ∀ e ∈ C, H7 e.1 = some (.tup [.str e.2.1, e.2.2]) := fun e he => s67 _ _ (hce e he)
    clear hw hd s6 s7 hz hzp hp2 s67 s5 ha5 hr5 hc5 hd5 hce
    obtain ⟨j, hj⟩ := Int.eq_ofNat_of_zero_le c1.1
    obtain ⟨k, hk⟩ := Xk.lt_at (xs := ks) (j := j) (by omega)
    wtm_at "xs"
    refine Xk.x_ixL ha7 (Xk.at_nat hj (Xk.map_at hk)) ?_
    wtm_at "xs"
    refine Xk.x_cut (fun σ' H' => ∃ v, (FV v ∧ (v = .non ∨ isVal v = true)) ∧ Same H7 H' ∧ σ' = [some (.ref a), some (.ref r), some (.int n), some (.int m), some (.ref cp), some (.ref dp), some (.int mc), some (.int md), some (.int rt), some (.int i), some (.int at_), some (.int kd), some (.int vl), some (.str k), some v]) ?_ ?_
    · wtm_at "xs"
      refine Xk.x_itd (fun h5 => ?_) (fun h5 => ?_)
      · wtm_at "xs"
        refine Xk.x_itd (fun h6 => ?_) (fun h6 => ?_)
        · wtm_at "xs"
          intro lp H8 hlp s8 hl8
          obtain ⟨j2, hj2⟩ := Int.eq_ofNat_of_zero_le c2.1
          obtain ⟨x, hx⟩ := Xk.lt_at (xs := [V.non, V.int vl]) (j := j2) (by have h7 : kd < 2 := h6; simp only [List.length_cons, List.length_nil]; omega)
          wtm_at "xs"
          refine Xk.x_ixL (Xk.sq_of hl8) (Xk.at_nat hj2 hx) ?_
          have hm := List.mem_of_getElem? hx
          simp only [List.mem_cons, List.not_mem_nil, or_false] at hm
          refine ⟨x, ?_, s8, rfl⟩
          rcases hm with rfl | rfl
          · exact ⟨.inl rfl, .inl rfl⟩
          · exact ⟨.inr (.inl ⟨_, rfl⟩), .inr (val_int (by omega) (by omega))⟩
        · wtm_at "xs"
          exact ⟨_, ⟨gv_fv hkv k, hiv.gv k⟩, Same.refl _, rfl⟩
      · wtm_at "xs"
        exact ⟨_, ⟨gv_fv hkv k, hiv.gv k⟩, Same.refl _, rfl⟩
    rintro σ' H8 ⟨v, hv, s8, rfl⟩
    have hc8 := s8 _ _ hc7
    have hcl2 : (C.map fun e => V.ref e.1).length < 100000 := by
      rw [List.length_map]
      omega
    wtm_at "xs"
    intro ep H9 hep s9 he9
    have s89 := s8.trans s9
    have hc9 := s9 _ _ hc8
    wtm_at "xs"
    refine ⟨_, _, _, _, _, _, C ++ [(ep, (k, v))], rfl, Xk.same_mut (s07.trans s89) hcp, by rw [upd_same, List.map_append]; rfl, (upd_ne ncd.symm).trans (s89 _ _ hd7), fun e he => ?_, fun e he => ?_, by rw [List.length_append, hcl]; rfl⟩
    · rcases List.mem_append.mp he with he | he
      · exact keep_tup (s89 _ _ (hce7 e he)) hc9
      · rw [List.mem_singleton.mp he]
        exact keep_tup he9 hc9
    · rcases List.mem_append.mp he with he | he
      · exact hcf e he
      · rw [List.mem_singleton.mp he]
        exact ⟨hv.1, List.mem_of_getElem? hk, hv.2⟩
  · rintro σ' H5 ⟨y1, y2, y3, y4, y5, y6, C, rfl, s5, hc5, hd5, hce, hcf, hcl⟩
    wtm_at "xs"
    refine Xk.x_range (fun i σ' H' => ∃ (y1 y2 y3 y4 y5 y6 : Option V) (D : List (Addr × Dd)), σ' = [some (.ref a), some (.ref r), some (.int n), some (.int m), some (.ref cp), some (.ref dp), some (.int mc), some (.int md), some (.int rt), y1, y2, y3, y4, y5, y6] ∧ Same H H' ∧ H' cp = some (.lst (C.map fun e => V.ref e.1)) ∧ H' dp = some (.lst (D.map fun e => V.ref e.1)) ∧ (∀ e ∈ C, H' e.1 = some (.tup [.str e.2.1, e.2.2])) ∧ (∀ e ∈ D, H' e.1 = some (.tup e.2.xs)) ∧ (∀ e ∈ D, e.2.ok ∧ e.2.key ∈ ks ∧ ∀ k v, e.2 = .put k v → isVal v = true) ∧ D.length = i)
      ⟨by omega, by omega⟩ ⟨_, _, _, _, _, _, [], rfl, s5, hc5, hd5, hce, fun e z => (by cases z), fun e z => (by cases z), rfl⟩ ?_ ?_
    · clear s5 hc5 hd5 hce
      rintro i σ' H5 hi ⟨y1, y2, y3, y4, y5, y6, D, rfl, s5, hc5, hd5, hce, hde, hdo, hdl⟩
      have ha5 := Xk.sq_same ha s5
      wtm_at "xs"
      refine ⟨a, _, ks, rfl, ha5, hl1, hl2, Int.add_nonneg (Int.ediv_nonneg hm (by omega)) (Int.mul_nonneg (by omega) hn), fun H6 ep d s6 hep he6 hok hkey hpv => ?_⟩
      have hd6 := s6 _ _ hd5
      have hdl2 : (D.map fun e => V.ref e.1).length < 100000 := by
        rw [List.length_map]
        omega
      wtm_at "xs"
      refine ⟨_, _, _, _, _, _, D ++ [(ep, d)], rfl, Xk.same_mut (s5.trans s6) fd, (upd_ne ncd).trans (s6 _ _ hc5), by rw [upd_same, List.map_append]; rfl, fun e he => keep_tup (s6 _ _ (hce e he)) hd6, fun e he => ?_, fun e he => ?_, by rw [List.length_append, hdl]; rfl⟩
      · rcases List.mem_append.mp he with he | he
        · exact keep_tup (s6 _ _ (hde e he)) hd6
        · rw [List.mem_singleton.mp he]
          exact keep_tup he6 hd6
      · rcases List.mem_append.mp he with he | he
        · exact hdo e he
        · rw [List.mem_singleton.mp he]
          exact ⟨hok, hkey, hpv⟩
    · clear s5 hc5 hd5 hce
      rintro σ' H5 ⟨y1, y2, y3, y4, y5, y6, D, rfl, s5, hc5, hd5, hce, hde, hdo, hdl⟩
      wtm_at "xs"
      intro t1 H6 ht1 s6 hv1
      have hd6 := s6 _ _ hd5
      wtm_at "xs"
      intro t2 H7 ht2 s7 hv2
      wtm_at "xs"
      intro p8 H8 hp8 s8 h8
      have s58 := s6.trans (s7.trans s8)
      exact q H8 p8 C D (s5.trans s58) (Xk.free_back hp8 (s5.trans (s6.trans s7))) ⟨⟨t1, t2, h8, (s7.trans s8) _ _ hv1, s8 _ _ hv2⟩, fun e he => s58 _ _ (hce e he), fun e he => s58 _ _ (hde e he), fun e he => (hcf e he).1, fun e he => (hdo e he).1, by omega, by omega⟩ (fun e he => (hdo e he).2) (fun e he => (hcf e he).2) (by omega) (by omega) (by omega)
--CUT--
def Dd.word : Dd → Str
  | .get _ => "get"
  | .put _ _ => "put"
  | .del _ => "del"
  | .add _ _ => "add"
def Dd.rest : Dd → List V
  | .get _ | .del _ => []
  | .put _ v => [v]
  | .add _ n => [.int n]
theorem Dd.xs_eq (d : Dd) : d.xs = .str d.word :: .str d.key :: d.rest := by cases d <;> rfl
/-- with its place, what has a key of f -/
def sel {α : Type} (k : α → Str) (f : Str → Bool) (xs : List α) : List (Nat × α) := (xs.zipIdx.filter fun p => f (k p.1)).map fun p => (p.2, p.1)
theorem sel_at {α : Type} {k : α → Str} {f : Str → Bool} {xs : List α} {i : Nat} {x : α} (h : xs[i]? = some x) : sel k f (xs.take (i + 1)) = sel k f (xs.take i) ++ (if f (k x) = true then [(i, x)] else []) := by
  have hl : (xs.take i).length = i := by
    rw [List.length_take]
    have := (List.getElem?_eq_some_iff.mp h).1
    omega
  unfold sel
  rw [List.take_add_one, h, List.zipIdx_append, List.filter_append, List.map_append, hl]
  congr 1
  show List.map _ (List.filter _ [(x, 0 + i)]) = _
  rw [List.filter_cons]
  by_cases e : f (k x) = true
  · rw [if_pos e, if_pos e]
    show [(0 + i, x)] = [(i, x)]
    rw [Nat.zero_add]
  · rw [if_neg e, if_neg e]
    rfl
theorem sel_len {α : Type} {k : α → Str} {f : Str → Bool} {xs : List α} : (sel k f xs).length ≤ xs.length := by
  unfold sel
  rw [List.length_map]
  exact Nat.le_trans (List.length_filter_le _ _) (by rw [List.length_zipIdx]; exact Nat.le_refl _)
theorem sel_mem {α : Type} {k : α → Str} {f : Str → Bool} {xs : List α} {e : Nat × α} (h : e ∈ sel k f xs) : e.2 ∈ xs ∧ f (k e.2) = true := by
  obtain ⟨p, hp, rfl⟩ := List.mem_map.mp h
  obtain ⟨h1, h2⟩ := List.mem_filter.mp hp
  obtain ⟨x, i⟩ := p
  exact ⟨List.fst_mem_of_mem_zipIdx h1, h2⟩
theorem sel_none {α : Type} {k : α → Str} {xs : List α} : sel k (fun _ => false) xs = [] := by
  unfold sel
  rw [List.filter_eq_nil_iff.mpr (fun _ _ z => Bool.noConfusion z)]
  rfl
abbrev CE := Addr × Nat × Ck
abbrev DE := Addr × Nat × Addr × Dd
/-- a part of a deal -/
structure PtAt (H : Hp) (p : Addr) (C : List CE) (D : List DE) : Prop where
  tp : ∃ pc pd', H p = some (.tup [.ref pc, .ref pd']) ∧ H pc = some (.tup (C.map fun e => V.ref e.1)) ∧ H pd' = some (.tup (D.map fun e => V.ref e.1))
  ck : ∀ e ∈ C, H e.1 = some (.tup [.int (e.2.1 : Nat), .str e.2.2.1, e.2.2.2])
  dd : ∀ e ∈ D, H e.1 = some (.tup [.int (e.2.1 : Nat), .ref e.2.2.1])
  dx : ∀ e ∈ D, H e.2.2.1 = some (.tup e.2.2.2.xs)
  cl : C.length ≤ 20
  dl : D.length ≤ 20
theorem PtAt.same {H H' : Hp} {p : Addr} {C : List CE} {D : List DE} (h : PtAt H p C D) (s : Same H H') : PtAt H' p C D := by
  obtain ⟨pc, pd', h1, h2, h3⟩ := h.tp
  exact ⟨⟨pc, pd', s _ _ h1, s _ _ h2, s _ _ h3⟩, fun e he => s _ _ (h.ck e he), fun e he => s _ _ (h.dd e he), fun e he => s _ _ (h.dx e he), h.cl, h.dl⟩
def csOf (C : List CE) : List (Nat × Ck) := C.map fun e => e.2
def dsOf (D : List DE) : List (Nat × Dd) := D.map fun e => (e.2.1, e.2.2.2)
def ptP (cs : List (Nat × Ck)) (ds : List (Nat × Dd)) : PyData := .tuple [.tuple (cs.map fun e => .tuple [.int (e.1 : Nat), .str e.2.1, pd e.2.2]), .tuple (ds.map fun e => .tuple [.int (e.1 : Nat), .tuple (e.2.xs.map pd)])]
theorem pk_all {α : Type} {H : Hp} {n : Nat} {f : α → V} {g : α → PyData} : ∀ xs : List α, (∀ x ∈ xs, Xk.Pk K H n (f x) (g x)) → Xk.PkAll K H n (xs.map f) (xs.map g)
  | [], _ => Xk.pk_nil
  | x :: r, h => Xk.pk_cons (h x (List.mem_cons_self ..)) (pk_all r fun y hy => h y (List.mem_cons_of_mem _ hy))
theorem pk_key {H : Hp} {n : Nat} {s : Str} (h : isKey (.str s) = true) : Xk.Pk K H n (.str s) (.str s) := Xk.pk_str (Xk.lay_str (Xk.allC_mono (isKey_str h).2.2 al_ok))
theorem pk_dd {H : Hp} {n : Nat} {d : Dd} (hd : d.ok) (hk : isKey (.str d.key) = true) : Xk.PkAll K H n d.xs (d.xs.map pd) := by
  cases d with
  | get k => exact Xk.pk_cons Xk.pk_str (Xk.pk_cons (pk_key hk) Xk.pk_nil)
  | put k v => exact Xk.pk_cons Xk.pk_str (Xk.pk_cons (pk_key hk) (Xk.pk_cons (pk_fv (.inr hd)) Xk.pk_nil))
  | del k => exact Xk.pk_cons Xk.pk_str (Xk.pk_cons (pk_key hk) Xk.pk_nil)
  | add k m => exact Xk.pk_cons Xk.pk_str (Xk.pk_cons (pk_key hk) (Xk.pk_cons Xk.pk_int Xk.pk_nil))
theorem PtAt.pk {H : Hp} {p : Addr} {C : List CE} {D : List DE} (h : PtAt H p C D) (hc : ∀ e ∈ C, FV e.2.2.2 ∧ isKey (.str e.2.2.1) = true) (hd : ∀ e ∈ D, e.2.2.2.ok ∧ isKey (.str e.2.2.2.key) = true) : Xk.Pk K H 9 (.ref p) (ptP (csOf C) (dsOf D)) := by
  obtain ⟨pc, pd', h1, h2, h3⟩ := h.tp
  unfold ptP csOf dsOf
  rw [List.map_map, List.map_map]
  refine Xk.pk_tup2 (n := 8) (Xk.st_of h1) (Xk.pk_tup (n := 7) (Xk.st_of h2) (pk_all C fun e he => ?_)) (Xk.pk_tup (n := 7) (Xk.st_of h3) (pk_all D fun e he => ?_))
  · exact Xk.pk_tup3 (n := 6) (Xk.st_of (h.ck e he)) Xk.pk_int (pk_key (hc e he).2) (pk_fv (hc e he).1)
  · exact Xk.pk_tup2 (n := 6) (Xk.st_of (h.dd e he)) Xk.pk_int (Xk.pk_tup (n := 5) (Xk.st_of (h.dx e he)) (pk_dd (hd e he).1 (hd e he).2))
--CUT--
def inB (zs : List Str) (t : Str) : Bool := decide (t ∈ zs)
def KeyOf (C : List CE) (D : List DE) (t : Str) : Prop := (∃ e ∈ C, e.2.2.1 = t) ∨ ∃ e ∈ D, e.2.2.2.key = t
def sp_keys_of_part (K : PySem.W.Frag) : Sp := fun vs H Q _ => ∃ p C D, vs = [.ref p] ∧ PtAt H p C D ∧
  ∀ H' q (ts : List Str), Same H H' → H' q = some (.tup (ts.map V.str)) → sortedS ts = true → ts.Nodup → (∀ t, t ∈ ts ↔ KeyOf C D t) → Q (.ref q) H'
theorem ok_keys_of_part (T : Txt K mg) : FnOk P w K mg base CX0 2 T.f_keys_of_part T.d_keys_of_part ["part"] (sp_keys_of_part K) := by
  refine T.F_keys_of_part.ok sc_keys_of_part (fun vs H Q E h => ?_) (fun cdv A outer s H vs Q E hr h => ?_)
  · obtain ⟨p, C, D, rfl, _⟩ := h
    rfl
  obtain ⟨p, C, D, rfl, hD, q⟩ := h
  obtain ⟨pc, pd', h1, h2, h3⟩ := hD.tp
  refine ⟨_, (pss_cons (ps_asg (pv 0) (pg_tup rfl (pgs_cons (pg_name (i := 1) sc_keys_of_part.nd rfl (Or.inl rfl)) (pgs_cons (pg_name (i := 2) sc_keys_of_part.nd rfl (Or.inl rfl)) pgs_nil))))
      (pss_one (ps_ret (pe_callTy (Xk.k_tuple (K := K) (by rfl)) (by rfl) T.m_tuple (by decide +kernel) (pa_cons (pe_callB (Xk.k_sortedSetS (P := P) (w := w) rfl (by rfl) (by rfl)) (by rfl) T.m_sorted (by decide +kernel) (pa_cons (pe_callTy (Xk.k_setOfS (K := K) (P := P) (w := w) rfl (by rfl) (by rfl) (by rfl)) (by rfl) T.m_set (by decide +kernel) (pa_cons (pe_op op_cat (pe_lc (own := [("place", 3), ("key", 4), ("value", 5)]) (g := gTup K 3 (gCons (gName 3) (gCons (gName 4) (gCons (gName 5) gNil)))) (tt := tYes) rfl sc_keys_of_part.nd  (pi_tup (pv 1)) (blkOk_by (N := N_keys_of_part) (sc := defScope s_keys_of_part) (own := [("place", 3), ("key", 4), ("value", 5)]) (by decide +kernel)) (fun _ _ _ _ _ => Xk.k_gtup (K := K) (by rfl) rfl (pgs_cons (pg_name (i := 3) sc_keys_of_part.nd rfl (Or.inl rfl)) (pgs_cons (pg_name (i := 4) sc_keys_of_part.nd rfl (Or.inl rfl)) (pgs_cons (pg_name (i := 5) sc_keys_of_part.nd rfl (Or.inl rfl)) pgs_nil)))) (fun _ _ _ _ _ => pts_nil) (fun _ _ _ _ _ => (pv 4))) (pe_lc (own := [("place", 3), ("deed", 6)]) (g := gTup K 2 (gCons (gName 3) (gCons (gName 6) gNil))) (tt := tYes) rfl sc_keys_of_part.nd  (pi_tup (pv 2)) (blkOk_by (N := N_keys_of_part) (sc := defScope s_keys_of_part) (own := [("place", 3), ("deed", 6)]) (by decide +kernel)) (fun _ _ _ _ _ => Xk.k_gtup (K := K) (by rfl) rfl (pgs_cons (pg_name (i := 3) sc_keys_of_part.nd rfl (Or.inl rfl)) (pgs_cons (pg_name (i := 6) sc_keys_of_part.nd rfl (Or.inl rfl)) pgs_nil))) (fun _ _ _ _ _ => pts_nil) (fun _ _ _ _ _ => (pe_call (ok_key_of_deed T) (hr.mono (by decide)) (by rfl) T.g_key_of_deed T.F_key_of_deed.kp T.b_key_of_deed .nil pass0 (pa_cons (pv 6) pa_nil))))) pa_nil)) pa_nil)) pa_nil))))), ?_⟩
  wtm_at "x0"
  wtm_at "xs"
  refine Xk.x_lcT (xs := C.map fun e => V.ref e.1) (fun Dl i H' => Same H H' ∧ H' Dl = some (.lst (((C.take i).map (fun e => e.2.2.1)).map V.str))) (Xk.st_of h2) ?_ ?_ ?_ ?_
  · intro Dl hF
    exact ⟨Xk.same_fr hF, upd_same⟩
  · rintro Dl i H' hF ⟨s2, _⟩
    exact Xk.st_of (s2 _ _ h2)
  · rintro Dl hF i x H' hi ⟨s2, g⟩
    obtain ⟨e, he, rfl⟩ := Xk.of_map_at hi
    have hx := s2 _ _ (hD.ck e (List.mem_of_getElem? he))
    have cl := hD.cl
    wtm_at "xs"
    refine ⟨rfl, ?_⟩
    wtm_at "xs"
    refine ⟨_, g, Xk.size_lt (by simp only [List.length_map, List.length_take]; omega), Xk.same_mut s2 hF, ?_⟩
    rw [upd_same, List.take_add_one, he, List.map_append, List.map_append]
    rfl
  · rintro k1 H1 hk1 ⟨s1, g1⟩
    rw [List.length_map, List.take_length] at g1
    wtm_at "xs"
    refine Xk.x_lcT (xs := D.map fun e => V.ref e.1) (fun Dl i H' => Same H1 H' ∧ H' Dl = some (.lst (((D.take i).map (fun e => e.2.2.2.key)).map V.str))) (Xk.st_of (s1 _ _ h3)) ?_ ?_ ?_ ?_
    · intro Dl hF
      exact ⟨Xk.same_fr hF, upd_same⟩
    · rintro Dl i H' hF ⟨s2, _⟩
      exact Xk.st_of ((s1.trans s2) _ _ h3)
    · rintro Dl hF i x H' hi ⟨s2, g⟩
      obtain ⟨e, he, rfl⟩ := Xk.of_map_at hi
      have hx0 := (s1.trans s2) _ _ (hD.dd e (List.mem_of_getElem? he))
      have hx := (s1.trans s2) _ _ (hD.dx e (List.mem_of_getElem? he))
      have dl := hD.dl
      wtm_at "xs"
      refine ⟨rfl, ?_⟩
      wtm_at "xs"
      refine ⟨e.2.2.1, .str e.2.2.2.key, e.2.2.2.xs, rfl, Xk.st_of hx, by rw [Dd.xs_eq]; rfl, ?_⟩
      refine ⟨_, g, Xk.size_lt (by simp only [List.length_map, List.length_take]; omega), Xk.same_mut s2 hF, ?_⟩
      rw [upd_same, List.take_add_one, he, List.map_append, List.map_append]
      rfl
    · rintro k2 H2 hk2 ⟨s2, g2⟩
      rw [List.length_map, List.take_length] at g2
      have cl := hD.cl
      have dl := hD.dl
      wtm_at "xs"
      refine Xk.x_cat (s2 _ _ g1) g2 (by simp only [List.length_map]; omega) fun k3 H3 hk3 s3 g3 => ?_
      rw [← List.map_append] at g3
      wtm_at "xs"
      refine Xk.x_setOfS (Xk.sq_of g3) (by simp only [List.length_append, List.length_map]; omega) fun k4 H4 zs hk4 s4 g4 nd4 m4 l4 => ?_
      wtm_at "xs"
      refine Xk.x_sortedSetS g4 (by rw [List.length_append, List.length_map, List.length_map] at l4; omega) fun k5 H5 ys p5 o5 hk5 s5 g5 => ?_
      wtm_at "xs"
      intro k6 H6 hk6 s6 g6
      refine q H6 k6 ys (s1.trans (s2.trans (s3.trans (s4.trans (s5.trans s6))))) g6 o5 (p5.nodup_iff.mpr nd4) fun t => ?_
      rw [p5.mem_iff, m4, List.mem_append, List.mem_map, List.mem_map]
      rfl
--CUT--
def sp_part_of (K : PySem.W.Frag) : Sp := fun vs H Q _ => ∃ (p b : Addr) (zs : List Str) (C : List (Addr × Ck)) (D : List (Addr × Dd)), vs = [.ref p, .ref b] ∧ DlAt H p C D ∧ (SqL K H b (zs.map V.str) ∨ SqT K H b (zs.map V.str)) ∧ zs.length ≤ 100 ∧
  ∀ H' q C' D', Same H H' → PtAt H' q C' D' → csOf C' = sel (·.1) (inB zs) (C.map (·.2)) → dsOf D' = sel Dd.key (inB zs) (D.map (·.2)) → Q (.ref q) H'
theorem ok_part_of (T : Txt K mg) : FnOk P w K mg base CX0 2 T.f_part_of T.d_part_of ["deal", "keys"] (sp_part_of K) := by
  refine T.F_part_of.ok sc_part_of (fun vs H Q E h => ?_) (fun cdv A outer s H vs Q E hr h => ?_)
  · obtain ⟨p, b, zs, C, D, rfl, _⟩ := h
    rfl
  obtain ⟨p, b, zs, C, D, rfl, hD, hb, hz, q⟩ := h
  obtain ⟨pc, pd', h1, h2, h3⟩ := hD.tp
  have cl := hD.cl
  have dl := hD.dl
  have inq : ∀ {H' : Hp} {t : Str} {Q : VK}, Same H H' → Q (.bl (inB zs t)) H' → rIn K false (.str t) (.ref b) H' Q := fun s q => by
    rcases hb with hb | hb
    · exact Xk.x_inL (Xk.sq_same hb s) rfl (flat_strs _) (by rw [in_strs]; exact q)
    · exact Xk.x_inT (Xk.st_same hb s) rfl (flat_strs _) (by rw [in_strs]; exact q)
  refine ⟨_, (pss_cons (ps_asg (pv 0) (pg_tup rfl (pgs_cons (pg_name (i := 2) sc_part_of.nd rfl (Or.inl rfl)) (pgs_cons (pg_name (i := 3) sc_part_of.nd rfl (Or.inl rfl)) pgs_nil))))
      (pss_one (ps_ret (pe_tup (pa_cons (pe_callTy (Xk.k_tuple (K := K) (by rfl)) (by rfl) T.m_tuple (by decide +kernel) (pa_cons (pe_lc (own := [("place", 4), ("key", 5), ("value", 6)]) (g := gTup K 2 (gCons (gName 4) (gCons (gTup K 2 (gCons (gName 5) (gCons (gName 6) gNil))) gNil))) rfl sc_part_of.nd  (Xk.k_ET (K := K) (by rfl) (by rfl) T.m_enumerate (pa_cons (pv 2) pa_nil)) (blkOk_by (N := N_part_of) (sc := defScope s_part_of) (own := [("place", 4), ("key", 5), ("value", 6)]) (by decide +kernel)) (fun _ _ _ _ _ => Xk.k_gtup (K := K) (by rfl) rfl (pgs_cons (pg_name (i := 4) sc_part_of.nd rfl (Or.inl rfl)) (pgs_cons (Xk.k_gtup (K := K) (by rfl) rfl (pgs_cons (pg_name (i := 5) sc_part_of.nd rfl (Or.inl rfl)) (pgs_cons (pg_name (i := 6) sc_part_of.nd rfl (Or.inl rfl)) pgs_nil))) pgs_nil))) (fun _ _ _ _ _ => pts_one (pt_cmpR (Xk.k_in (K := K) (by rfl)) (pv 5) (pv 1) (by rfl))) (fun _ _ _ _ _ => (pe_tup (pa_cons (pv 4) (pa_cons (pv 5) (pa_cons (pv 6) pa_nil)))))) pa_nil)) (pa_cons (pe_callTy (Xk.k_tuple (K := K) (by rfl)) (by rfl) T.m_tuple (by decide +kernel) (pa_cons (pe_lc (own := [("place", 4), ("deed", 7)]) (g := gTup K 2 (gCons (gName 4) (gCons (gName 7) gNil))) rfl sc_part_of.nd  (Xk.k_ET (K := K) (by rfl) (by rfl) T.m_enumerate (pa_cons (pv 3) pa_nil)) (blkOk_by (N := N_part_of) (sc := defScope s_part_of) (own := [("place", 4), ("deed", 7)]) (by decide +kernel)) (fun _ _ _ _ _ => Xk.k_gtup (K := K) (by rfl) rfl (pgs_cons (pg_name (i := 4) sc_part_of.nd rfl (Or.inl rfl)) (pgs_cons (pg_name (i := 7) sc_part_of.nd rfl (Or.inl rfl)) pgs_nil))) (fun _ _ _ _ _ => pts_one (pt_cmpR (Xk.k_in (K := K) (by rfl)) (pe_call (ok_key_of_deed T) (hr.mono (by decide)) (by rfl) T.g_key_of_deed T.F_key_of_deed.kp T.b_key_of_deed .nil pass0 (pa_cons (pv 7) pa_nil)) (pv 1) (by rfl))) (fun _ _ _ _ _ => (pe_tup (pa_cons (pv 4) (pa_cons (pv 7) pa_nil))))) pa_nil)) pa_nil)))))), ?_⟩
  wtm_at "x0"
  wtm_at "xs"
  refine Xk.x_lcET (us := C.map fun e => V.ref e.1) (fun Dl i H' => Same H H' ∧ ∃ es : List CE, H' Dl = some (.lst (es.map fun e => V.ref e.1)) ∧ csOf es = sel (·.1) (inB zs) ((C.map (·.2)).take i) ∧ ∀ e ∈ es, H' e.1 = some (.tup [.int (e.2.1 : Nat), .str e.2.2.1, e.2.2.2])) (Xk.st_of h2) ?_ ?_ ?_ ?_
  · intro Dl hF
    exact ⟨Xk.same_fr hF, [], upd_same, rfl, fun e z => by cases z⟩
  · rintro Dl i H' hF ⟨s2, _⟩
    exact Xk.st_of (s2 _ _ h2)
  · rintro Dl hF i x H1 T H' hi ⟨s1, es, g, ge, gm⟩ hT sT hT1
    obtain ⟨e, he, rfl⟩ := Xk.of_map_at hi
    have hx := sT _ _ (s1 _ _ (hD.ck e (List.mem_of_getElem? he)))
    have s1T := s1.trans sT
    have esl : es.length ≤ 20 := by
      have z := sel_len (k := fun c : Ck => c.1) (f := inB zs) (xs := (C.map (·.2)).take i)
      rw [← ge] at z
      unfold csOf at z
      rw [List.length_map, List.length_take, List.length_map] at z
      omega
    have at1 := sel_at (k := fun c : Ck => c.1) (f := inB zs) (Xk.map_at (f := fun e : Addr × Ck => e.2) he)
    wtm_at "xs"
    refine ⟨rfl, ?_⟩
    wtm_at "xs"
    refine inq s1T ?_
    wtm_at "xs"
    refine Xk.x_itb (fun hk => ?_) (fun hk => ?_)
    · wtm_at "xs"
      intro Tp H4 hTp s4 h4
      have g4 := s4 _ _ (sT _ _ g)
      refine ⟨_, g4, Xk.size_lt (by rw [List.length_map]; omega), Xk.same_mut (s1T.trans s4) hF, es ++ [(Tp, i, e.2)], by rw [upd_same, List.map_append]; rfl, ?_, fun e2 he2 => ?_⟩
      · rw [at1, if_pos hk, ← ge]
        unfold csOf
        rw [List.map_append]
        rfl
      · rcases List.mem_append.mp he2 with he2 | he2
        · exact keep_tup (s4 _ _ (sT _ _ (gm e2 he2))) g4
        · rw [List.mem_singleton.mp he2]
          exact keep_tup h4 g4
    · refine ⟨s1T, es, sT _ _ g, ?_, fun e2 he2 => sT _ _ (gm e2 he2)⟩
      rw [at1, if_neg (by rw [hk]; decide), List.append_nil, ge]
  · rintro k1 H1 hk1 ⟨s1, es, g1, ge, gm⟩
    rw [List.length_map, ← List.length_map (f := fun e : Addr × Ck => e.2), List.take_length] at ge
    have esl : es.length ≤ 20 := by
      have z := sel_len (k := fun c : Ck => c.1) (f := inB zs) (xs := C.map (·.2))
      rw [← ge] at z
      unfold csOf at z
      rw [List.length_map, List.length_map] at z
      omega
    wtm_at "xs"
    intro k2 H2 hk2 s2 g2
    have s12 := s1.trans s2
    have gm2 : ∀ e ∈ es, H2 e.1 = some (.tup [.int (e.2.1 : Nat), .str e.2.2.1, e.2.2.2]) := fun e he => s2 _ _ (gm e he)
    clear g1 gm hk1 hk2 s1 s2
    wtm_at "xs"
    refine Xk.x_lcET (us := D.map fun e => V.ref e.1) (fun Dl i H' => Same H2 H' ∧ ∃ ds : List DE, H' Dl = some (.lst (ds.map fun e => V.ref e.1)) ∧ dsOf ds = sel Dd.key (inB zs) ((D.map (·.2)).take i) ∧ (∀ e ∈ ds, H' e.1 = some (.tup [.int (e.2.1 : Nat), .ref e.2.2.1])) ∧ ∀ e ∈ ds, H' e.2.2.1 = some (.tup e.2.2.2.xs)) (Xk.st_of (s12 _ _ h3)) ?_ ?_ ?_ ?_
    · intro Dl hF
      exact ⟨Xk.same_fr hF, [], upd_same, rfl, fun e z => (by cases z), fun e z => by cases z⟩
    · rintro Dl i H' hF ⟨s2, _⟩
      exact Xk.st_of (s2 _ _ (s12 _ _ h3))
    · rintro Dl hF i x H1 T H' hi ⟨s1, ds, g, ge2, gd, gx⟩ hT sT hT1
      obtain ⟨e, he, rfl⟩ := Xk.of_map_at hi
      have s1T := s1.trans sT
      have hx := s1T _ _ (s12 _ _ (hD.dd e (List.mem_of_getElem? he)))
      have dsl : ds.length ≤ 20 := by
        have z := sel_len (k := Dd.key) (f := inB zs) (xs := (D.map (·.2)).take i)
        rw [← ge2] at z
        unfold dsOf at z
        rw [List.length_map, List.length_take, List.length_map] at z
        omega
      have at1 := sel_at (k := Dd.key) (f := inB zs) (Xk.map_at (f := fun e : Addr × Dd => e.2) he)
      wtm_at "xs"
      refine ⟨rfl, ?_⟩
      wtm_at "xs"
      refine ⟨e.1, .str e.2.key, e.2.xs, rfl, Xk.st_of hx, by rw [Dd.xs_eq]; rfl, ?_⟩
      wtm_at "xs"
      refine inq (s12.trans s1T) ?_
      wtm_at "xs"
      refine Xk.x_itb (fun hk => ?_) (fun hk => ?_)
      · wtm_at "xs"
        intro Tp H4 hTp s4 h4
        have g4 := s4 _ _ (sT _ _ g)
        refine ⟨_, g4, Xk.size_lt (by rw [List.length_map]; omega), Xk.same_mut (s1T.trans s4) hF, ds ++ [(Tp, i, e.1, e.2)], by rw [upd_same, List.map_append]; rfl, ?_, fun e2 he2 => ?_, fun e2 he2 => ?_⟩
        · rw [at1, if_pos hk, ← ge2]
          unfold dsOf
          rw [List.map_append]
          rfl
        · rcases List.mem_append.mp he2 with he2 | he2
          · exact keep_tup (s4 _ _ (sT _ _ (gd e2 he2))) g4
          · rw [List.mem_singleton.mp he2]
            exact keep_tup h4 g4
        · rcases List.mem_append.mp he2 with he2 | he2
          · exact keep_tup (s4 _ _ (sT _ _ (gx e2 he2))) g4
          · rw [List.mem_singleton.mp he2]
            exact keep_tup (s4 _ _ hx) g4
      · refine ⟨s1T, ds, sT _ _ g, ?_, fun e2 he2 => sT _ _ (gd e2 he2), fun e2 he2 => sT _ _ (gx e2 he2)⟩
        rw [at1, if_neg (by rw [hk]; decide), List.append_nil, ge2]
    · rintro k3 H3 hk3 ⟨s3, ds, g3, ge2, gd, gx⟩
      rw [List.length_map, ← List.length_map (f := fun e : Addr × Dd => e.2), List.take_length] at ge2
      have dsl : ds.length ≤ 20 := by
        have z := sel_len (k := Dd.key) (f := inB zs) (xs := D.map (·.2))
        rw [← ge2] at z
        unfold dsOf at z
        rw [List.length_map, List.length_map] at z
        omega
      wtm_at "xs"
      intro k4 H4 hk4 s4 g4
      wtm_at "xs"
      intro k5 H5 hk5 s5 g5
      have s45 := s4.trans s5
      exact q H5 k5 es ds (s12.trans (s3.trans s45)) ⟨⟨_, _, g5, (s3.trans s45) _ _ g2, s5 _ _ g4⟩, fun e he => (s3.trans s45) _ _ (gm2 e he), fun e he => s45 _ _ (gd e he), fun e he => s45 _ _ (gx e he), esl, dsl⟩ ge ge2
--CUT--
theorem part_good {H : Hp} {p : Addr} {C : List (Addr × Ck)} {D : List (Addr × Dd)} {C' : List CE} {D' : List DE} {ks : List Str} {f : Str → Bool} (h : DlAt H p C D) (hk : KsOk ks) (hCk : ∀ e ∈ C, e.2.1 ∈ ks) (hDk : ∀ e ∈ D, e.2.key ∈ ks)
    (e1 : csOf C' = sel (·.1) f (C.map (·.2))) (e2 : dsOf D' = sel Dd.key f (D.map (·.2))) :
    (∀ e ∈ C', FV e.2.2.2 ∧ isKey (.str e.2.2.1) = true ∧ e.2.2.1 ∈ ks) ∧ ∀ e ∈ D', e.2.2.2.ok ∧ isKey (.str e.2.2.2.key) = true ∧ e.2.2.2.key ∈ ks := by
  refine ⟨fun e he => ?_, fun e he => ?_⟩
  · have m : e.2 ∈ csOf C' := List.mem_map_of_mem (f := fun e : CE => e.2) he
    rw [e1] at m
    obtain ⟨e', he', hh⟩ := List.mem_map.mp (sel_mem m).1
    rw [← hh]
    exact ⟨h.fv e' he', hk _ (hCk e' he'), hCk e' he'⟩
  · have m : (e.2.1, e.2.2.2) ∈ dsOf D' := List.mem_map_of_mem (f := fun e : DE => (e.2.1, e.2.2.2)) he
    rw [e2] at m
    obtain ⟨e', he', hh⟩ := List.mem_map.mp (sel_mem m).1
    have hh2 : e'.2 = e.2.2.2 := hh
    rw [← hh2]
    exact ⟨h.ok e' he', hk _ (hDk e' he'), hDk e' he'⟩
theorem part_pk {H H0 : Hp} {p q : Addr} {C : List (Addr × Ck)} {D : List (Addr × Dd)} {C' : List CE} {D' : List DE} {ks : List Str} {f : Str → Bool} (h : DlAt H0 p C D) (hk : KsOk ks) (hCk : ∀ e ∈ C, e.2.1 ∈ ks) (hDk : ∀ e ∈ D, e.2.key ∈ ks)
    (e1 : csOf C' = sel (·.1) f (C.map (·.2))) (e2 : dsOf D' = sel Dd.key f (D.map (·.2))) (hp : PtAt H q C' D') : Xk.Pk K H 9 (.ref q) (ptP (sel (·.1) f (C.map (·.2))) (sel Dd.key f (D.map (·.2)))) := by
  have g := part_good h hk hCk hDk e1 e2
  have z := hp.pk (K := K) (fun e he => ⟨(g.1 e he).1, (g.1 e he).2.1⟩) (fun e he => ⟨(g.2 e he).1, (g.2 e he).2.1⟩)
  rw [e1, e2] at z
  exact z
theorem keyOf_nm {C1 C2 : List CE} {D1 D2 : List DE} {t : Str} (hc : csOf C1 = csOf C2) (hd : dsOf D1 = dsOf D2) : KeyOf C2 D2 t ↔ t ∈ C1.map (fun e => e.2.2.1) ++ D1.map (fun e => e.2.2.2.key) := by
  have a : C1.map (fun e => e.2.2.1) = C2.map (fun e => e.2.2.1) := by
    have z := congrArg (List.map fun p : Nat × Ck => p.2.1) hc
    unfold csOf at z
    rw [List.map_map, List.map_map] at z
    exact z
  have b : D1.map (fun e => e.2.2.2.key) = D2.map (fun e => e.2.2.2.key) := by
    have z := congrArg (List.map fun p : Nat × Dd => p.2.key) hd
    unfold dsOf at z
    rw [List.map_map, List.map_map] at z
    exact z
  rw [a, b, List.mem_append, List.mem_map, List.mem_map]
  rfl
theorem filt_at {f : Str → Bool} {ys : List Str} {i : Nat} {t : Str} (h : ys[i]? = some t) : (ys.take (i + 1)).filter f = (ys.take i).filter f ++ (if f t = true then [t] else []) := by
  rw [List.take_add_one, h, List.filter_append]
  congr 1
  show List.filter f [t] = _
  rw [List.filter_cons]
  rfl
theorem in_none : inB [] = fun _ => false := funext fun t => decide_eq_false List.not_mem_nil
--CUT--
def sp__law_done (K : PySem.W.Frag) : Sp := fun vs H Q _ => ∃ r a kvs d, vs = [.ref r, .ref a] ∧ H r = some (.dK kvs) ∧ H a = some (.tup (Dd.xs d)) ∧ (∀ k v, valV kvs k = some v → VOk v) ∧ kvs.length ≤ 500 ∧ d.ok ∧
  ∀ H', Xk.But r H H' → H' r = some (.dK (app kvs d).1) → Q (app kvs d).2 H'
theorem ok__law_done (T : Txt K mg) : FnOk P w K mg base CX0 1 T.f__law_done T.d__law_done ["rows", "deed"] (sp__law_done K) := by
  refine T.F__law_done.ok sc__law_done (fun vs H Q E h => ?_) (fun cdv A outer s H vs Q E hr h => ?_)
  · obtain ⟨r, a, kvs, d, rfl, _⟩ := h
    rfl
  obtain ⟨r, a, kvs, d, rfl, hr0, ha, hv, hl, hd, q⟩ := h
  refine ⟨_, (pss_cons (ps_set (i := 2) sc__law_done.nd rfl (Or.inl rfl) (pe_ix (Xk.k_ixT (K := K) (by rfl)) (pv 1) (pe_int) (fun _ _ => rfl)))
      (pss_cons (ps_set (i := 3) sc__law_done.nd rfl (Or.inl rfl) (pe_dget1 (hu_of hr) (pv 0) (pv 2) ⟨by rfl, by rfl, by rfl, by rfl⟩))
      (Evl.pss_cut (ps_if (pt_cmpR op_eq (pe_ix (Xk.k_ixT (K := K) (by rfl)) (pv 1) (pe_int) (fun _ _ => rfl)) (pe_str) (nomark _)) (pss_one (ps_dput (hu_of hr) (pv 0) (pv 2) (pe_ix (Xk.k_ixT (K := K) (by rfl)) (pv 1) (pe_int) (fun _ _ => rfl)) rfl)) pss_nil)
      (Evl.pss_cut (ps_if (PW.pt (pw_and (pt_cmpR op_eq (pe_ix (Xk.k_ixT (K := K) (by rfl)) (pv 1) (pe_int) (fun _ _ => rfl)) (pe_str) (nomark _)) (pw_and1 (pt_cmp (pc_din (hu_of hr) (pv 2) (pv 0)))))) (pss_one (ps_expr (pe_dpop1 (pv 0) (pv 2) ⟨by rfl, by rfl, by rfl, by rfl⟩))) pss_nil)
      (Evl.pss_cut (ps_if (pt_cmpR op_eq (pe_ix (Xk.k_ixT (K := K) (by rfl)) (pv 1) (pe_int) (fun _ _ => rfl)) (pe_str) (nomark _)) (Evl.pss_cut (ps_if (pt_cmpR Xk.op_nIsN (pv 3) (pe_non) (nomark _)) (pss_cons (ps_dput (hu_of hr) (pv 0) (pv 2) (pe_ix (Xk.k_ixT (K := K) (by rfl)) (pv 1) (pe_int) (fun _ _ => rfl)) rfl)
      (pss_one (ps_ret (pe_ix (Xk.k_ixT (K := K) (by rfl)) (pv 1) (pe_int) (fun _ _ => rfl))))) pss_nil)
      (Evl.pss_cut (ps_if (PW.pt (pw_or (pt_val (pe_callB (Xk.k_isi (K := K) (by rfl)) (by rfl) T.m_isinstance (by decide +kernel) (pa_cons (pv 3) (pa_cons (pe_bltn (v := .ty "str") (u := .type "str") (by rfl) T.m_str (by decide +kernel) Xk.rel_ty) pa_nil)))) (pw_or (pt_cmpR op_gt (pe_op op_add (pv 3) (pe_ix (Xk.k_ixT (K := K) (by rfl)) (pv 1) (pe_int) (fun _ _ => rfl))) (pe_op op_pow (pe_int) (pe_int)) (nomark _)) (pw_or1 (pt_cmpR op_lt (pe_op op_add (pv 3) (pe_ix (Xk.k_ixT (K := K) (by rfl)) (pv 1) (pe_int) (fun _ _ => rfl))) (pe_un un_neg (pe_op op_pow (pe_int) (pe_int))) (nomark _)))))) (pss_one (ps_ret (pe_non))) pss_nil)
      (pss_cons (ps_dput (hu_of hr) (pv 0) (pv 2) (pe_op op_add (pv 3) (pe_ix (Xk.k_ixT (K := K) (by rfl)) (pv 1) (pe_int) (fun _ _ => rfl))) rfl)
      (pss_one (ps_ret (pe_op op_add (pv 3) (pe_ix (Xk.k_ixT (K := K) (by rfl)) (pv 1) (pe_int) (fun _ _ => rfl)))))))) pss_nil)
      (pss_one (ps_ret (pv 3)))))))), ?_⟩
  have hl2 : kvs.length < 1000 := by omega
  wtm_at "x0"
  cases d with
  | get k =>
    have ha1 : H a = some (.tup [.str "get", .str k]) := ha
    wtm_at "xs"
    refine Xk.x_nocut ?_
    wtm_at "xs"
    refine Xk.x_nocut ?_
    wtm_at "xs"
    refine Xk.x_nocut ?_
    wtm_at "xs"
    exact q _ (Xk.But.refl _ _) hr0
  | put k v =>
    have ha1 : H a = some (.tup [.str "put", .str k, v]) := ha
    have nra : a ≠ r := fun z => by
      subst z
      rw [hr0] at ha1
      cases ha1
    wtm_at "xs"
    refine Xk.x_nocut ?_
    wtm_at "xs"
    refine Xk.x_nocut ?_
    wtm_at "xs"
    refine Xk.x_nocut ?_
    wtm_at "xs"
    exact q _ (Xk.but_mut (Xk.But.refl _ _)) upd_same
  | del k =>
    have ha1 : H a = some (.tup [.str "del", .str k]) := ha
    have nra : a ≠ r := fun z => by
      subst z
      rw [hr0] at ha1
      cases ha1
    wtm_at "xs"
    refine Xk.x_nocut ?_
    wtm_at "xs"
    refine Xk.x_nocut ?_
    wtm_at "xs"
    have q0 : ∀ H', Xk.But r H H' → H' r = some (.dK (if (valV kvs (Sum.inr k)).isSome = true then dropK kvs (Sum.inr k) else kvs)) → Q (gv kvs k) H' := q
    cases hb : valV kvs (Sum.inr k) with
    | none =>
      have hg : gv kvs k = .non := by
        unfold gv
        rw [hb]
        rfl
      rw [hg, hb] at q0
      dsimp only [Option.isSome, Option.getD]
      wtm_at "xs"
      refine Xk.x_nocut ?_
      wtm_at "xs"
      exact q0 _ (Xk.But.refl _ _) hr0
    | some v =>
      have hg : gv kvs k = v := by
        unfold gv
        rw [hb]
        rfl
      rw [hg, hb] at q0
      dsimp only [Option.isSome, Option.getD]
      wtm_at "xs"
      refine Xk.x_rPop1 hr0 hb ?_
      wtm_at "xs"
      refine Xk.x_nocut ?_
      wtm_at "xs"
      exact q0 _ (Xk.but_mut (Xk.But.refl _ _)) upd_same
  | add k n =>
    have ha1 : H a = some (.tup [.str "add", .str k, .int n]) := ha
    have nra : a ≠ r := fun z => by
      subst z
      rw [hr0] at ha1
      cases ha1
    wtm_at "xs"
    refine Xk.x_nocut ?_
    wtm_at "xs"
    refine Xk.x_nocut ?_
    wtm_at "xs"
    refine Xk.x_nocut ?_
    wtm_at "xs"
    refine Xk.x_nocut ?_
    wtm_at "xs"
    cases hb : valV kvs (Sum.inr k) with
    | none =>
      have e : app kvs (.add k n) = (putK kvs (Sum.inr k) (.int n), .int n) := by
        show addR kvs k n (valV kvs (Sum.inr k)) = _
        rw [hb]
        rfl
      rw [e] at q
      dsimp only [Option.getD]
      refine Xk.x_itd (fun _ => ?_) (fun z => absurd rfl z)
      wtm_at "xs"
      exact q _ (Xk.but_mut (Xk.But.refl _ _)) upd_same
    | some v =>
      rcases hv _ v hb with ⟨i, rfl⟩ | ⟨s', rfl, h1, h2⟩
      · have e : app kvs (.add k n) = if -1000000000000000 ≤ i + n ∧ i + n ≤ 1000000000000000 then (putK kvs (Sum.inr k) (.int (i + n)), .int (i + n)) else (kvs, .non) := by
          show addR kvs k n (valV kvs (Sum.inr k)) = _
          rw [hb]
          rfl
        rw [e] at q
        dsimp only [Option.getD]
        wtm_at "xs"
        refine Xk.x_nocut ?_
        wtm_at "xs"
        refine Xk.x_itd (fun h3 => ?_) (fun h3 => ?_)
        · have h4 : 1000000000000000 < i + n := h3
          rw [if_neg (by omega)] at q
          wtm_at "xs"
          exact q _ (Xk.But.refl _ _) hr0
        · have h4 : ¬ 1000000000000000 < i + n := h3
          wtm_at "xs"
          refine Xk.x_itd (fun h5 => ?_) (fun h5 => ?_)
          · have h6 : i + n < -1000000000000000 := h5
            rw [if_neg (by omega)] at q
            wtm_at "xs"
            exact q _ (Xk.But.refl _ _) hr0
          · have h6 : ¬ i + n < -1000000000000000 := h5
            rw [if_pos (by omega)] at q
            wtm_at "xs"
            exact q _ (Xk.but_mut (Xk.But.refl _ _)) upd_same
      · have e : app kvs (.add k n) = (kvs, .non) := by
          show addR kvs k n (valV kvs (Sum.inr k)) = _
          rw [hb]
          rfl
        rw [e] at q
        dsimp only [Option.getD]
        wtm_at "xs"
        refine Xk.x_nocut ?_
        wtm_at "xs"
        exact q _ (Xk.But.refl _ _) hr0
def sp__law_same (K : PySem.W.Frag) : Sp := fun vs H Q _ => ∃ v, vs = [v, v] ∧ (v = .non ∨ VOk v) ∧ Q (.bl true) H
theorem ok__law_same (T : Txt K mg) : FnOk P w K mg base CX0 1 T.f__law_same T.d__law_same ["actual", "due"] (sp__law_same K) := by
  refine T.F__law_same.ok sc__law_same (fun vs H Q E h => ?_) (fun cdv A outer s H vs Q E hr h => ?_)
  · obtain ⟨v, rfl, _⟩ := h
    rfl
  obtain ⟨v, rfl, hv, q⟩ := h
  refine ⟨_, (Evl.pss_cut (ps_if (pt_cmpR Xk.op_nIsN (pv 1) (pe_non) (nomark _)) (pss_one (ps_ret (pe_cmpR Xk.op_nIsN (pv 0) (pe_non) (nomark _)))) pss_nil)
      (Evl.pss_cut (ps_if (pt_val (pe_callB (Xk.k_isi (K := K) (by rfl)) (by rfl) T.m_isinstance (by decide +kernel) (pa_cons (pv 1) (pa_cons (pe_bltn (v := .ty "str") (u := .type "str") (by rfl) T.m_str (by decide +kernel) Xk.rel_ty) pa_nil)))) (pss_one (ps_ret ((pe_and (pe_callB (Xk.k_isi (K := K) (by rfl)) (by rfl) T.m_isinstance (by decide +kernel) (pa_cons (pv 0) (pa_cons (pe_bltn (v := .ty "str") (u := .type "str") (by rfl) T.m_str (by decide +kernel) Xk.rel_ty) pa_nil))) (pe_one (pe_cmpR op_eq (pv 0) (pv 1) (nomark _))))))) pss_nil)
      (pss_one (ps_ret ((pe_and (pe_callB (Xk.k_isi (K := K) (by rfl)) (by rfl) T.m_isinstance (by decide +kernel) (pa_cons (pv 0) (pa_cons (pe_bltn (v := .ty "int") (u := .type "int") (by rfl) T.m_int (by decide +kernel) Xk.rel_ty) pa_nil))) (pe_and (pe_not (pe_callB (Xk.k_isi (K := K) (by rfl)) (by rfl) T.m_isinstance (by decide +kernel) (pa_cons (pv 0) (pa_cons (pe_bltn (v := .ty "bool") (u := .type "bool") (by rfl) T.m_bool (by decide +kernel) Xk.rel_ty) pa_nil)))) (pe_one (pe_cmpR op_eq (pv 0) (pv 1) (nomark _)))))))))), ?_⟩
  wtm_at "x0"
  rcases hv with rfl | ⟨i, rfl⟩ | ⟨s', rfl, _⟩
  · refine Xk.x_nocut ?_
    wtm_at "xs"
    exact q
  · refine Xk.x_nocut ?_
    wtm_at "xs"
    refine Xk.x_nocut ?_
    wtm_at "xs"
    rw [show decide (V.int i = V.int i) = true from decide_eq_true rfl]
    exact q
  · refine Xk.x_nocut ?_
    wtm_at "xs"
    refine Xk.x_nocut ?_
    wtm_at "xs"
    rw [show decide (V.str s' = V.str s') = true from decide_eq_true rfl]
    exact q
theorem keys_nd {kvs : List (Key × V)} (nd : (kvs.map (·.1)).Nodup) {i : Nat} {k : Key} {v : V} (e : kvs[i]? = some (k, v)) : valV (kvs.take i) k = none := by
  cases h : valV (kvs.take i) k with
  | none => rfl
  | some u =>
    obtain ⟨q, hq, e2⟩ := List.mem_map.mp (valV_in h)
    obtain ⟨j, hj, e3⟩ := List.mem_iff_getElem.mp hq
    rw [List.length_take] at hj
    rw [List.getElem_take] at e3
    have h1 : (kvs.map (·.1))[j]? = some k := by rw [List.getElem?_map, List.getElem?_eq_getElem (by omega), e3, ← e2]; rfl
    have h2 : (kvs.map (·.1))[i]? = some k := by rw [List.getElem?_map, e]; rfl
    have := (List.getElem?_inj (by rw [List.length_map]; omega) nd).mp (h1.trans h2.symm)
    omega
theorem copyG {D : Ends} {a b c : Nat} {σ : L2.St} {r m : Addr} {kvs : List (Key × V)} {H : Hp} (ea : σ[a]? = some (some (.ref r))) (ec : σ[c]? = some (some (.ref m))) (hba : b ≠ a) (hbc : b ≠ c) (hb : b < σ.length) (hr : H r = some (.dK kvs)) (hm : H m = some (.dK [])) (ne : m ≠ r) (nd : (kvs.map (·.1)).Nodup) (hl : kvs.length < 1000)
    (q : ∀ y' H', Xk.But m H H' → H' m = some (.dK kvs) → D.nx (σ.set b y') H') :
    tLock (tFor (iKeys (tVar a)) (gName b) (sDPut (tVar c) (tVar b) (tDGet (tVar a) (tVar b)))) D σ H := by
  refine ⟨r, _, hr, trivial, fun od => ⟨.ref r, ea, r, od, rfl, .inl ⟨kvs, upd_same, ?_⟩⟩⟩
  refine for_it walk_keys (fun i σ' H' => (∃ y', σ' = σ.set b y') ∧ H' r = some (.frz od (.dK kvs)) ∧ H' m = some (.dK (kvs.take i)) ∧ ∀ b, b ≠ m → b ≠ r → H' b = H b) ⟨⟨σ[b], by rw [List.set_getElem_self]⟩, upd_same, (upd_ne ne).trans hm, fun b h1 h2 => upd_ne h2⟩ (fun _ _ _ _ h => by obtain ⟨_, h, _⟩ := h; exact h) ?_ ?_
  · rintro i x σ' H1 H2 hi ⟨⟨y', rfl⟩, e1, e2, e3⟩ ⟨rfl, k, v, e4, rfl⟩
    have hv : valV kvs k = some v := val_nodup nd (k, v) (List.mem_of_getElem? e4)
    have g1 : ((σ.set b y').set b (some (kV k)))[a]? = some (some (V.ref r)) := by
      rw [List.set_set, List.getElem?_set_ne hba]
      exact ea
    have g2 : ((σ.set b y').set b (some (kV k)))[c]? = some (some (V.ref m)) := by
      rw [List.set_set, List.getElem?_set_ne hbc]
      exact ec
    have g3 : ((σ.set b y').set b (some (kV k)))[b]? = some (some (kV k)) := by
      rw [List.set_set]
      exact List.getElem?_set_self hb
    refine ⟨.ref r, g1, kV k, g3, r, v, rfl, .inl ⟨kvs, k, .inr ⟨od, e1⟩, rfl, hv.symm⟩, .ref m, g2, kV k, g3, m, _, rfl, .inl ⟨kvs.take i, k, e2, rfl, by rw [List.length_take, sizeLine_eq]; omega, rfl⟩, ⟨_, List.set_set ..⟩, ?_⟩
    refine ⟨(upd_ne ne.symm).trans e1, ?_, fun b h1 h2 => (upd_ne h1).trans (e3 b h1 h2)⟩
    rw [upd_same, putK_new v (keys_nd nd e4), List.take_add_one, e4]
    rfl
  · rintro σ' H1 ⟨⟨y', rfl⟩, e1, e2, e3⟩
    rw [List.take_length] at e2
    refine ⟨e1, q _ _ (fun b o n h => ?_) ((upd_ne ne).trans e2)⟩
    by_cases e : b = r
    · subst e
      rw [upd_same, ← hr, h]
    · exact (upd_ne e).trans ((e3 b n e).trans h)
def rSortD (xs : List V) (H : Hp) (Q : VK) : Prop := ∃ (a : Addr) (kvs : List (Key × V)) (ks : List Str), xs = [.ref a] ∧ Rd H a (.dK kvs) ∧ kvs.map (·.1) = ks.map Sum.inr ∧ ks.length < 64 ∧
    ∀ ys p, ys.Perm ks → sortedS ys = true → H p = none → Q (.ref p) (upd H p (.lst (ys.map V.str)))
def sp__law_copy (K : PySem.W.Frag) : Sp := fun vs H Q _ => ∃ (r : Addr) (kvs : Kvs), vs = [.ref r] ∧ H r = some (.dK kvs) ∧ (kvs.map (·.1)).Nodup ∧ kvs.length < 1000 ∧ ∀ H' m, Same H H' → Xk.Fr m H → H' m = some (.dK kvs) → Q (.ref m) H'
theorem ok__law_copy (T : Txt K mg) : FnOk P w K mg base CX0 1 T.f__law_copy T.d__law_copy ["rows"] (sp__law_copy K) := by
  refine T.F__law_copy.ok sc__law_copy (fun vs H Q E h => ?_) (fun cdv A outer s H vs Q E hr h => ?_)
  · obtain ⟨r, kvs, rfl, _⟩ := h
    rfl
  obtain ⟨r, kvs, rfl, hr0, nd, hl, q⟩ := h
  refine ⟨_, (pss_cons (ps_set (i := 1) sc__law_copy.nd rfl (Or.inl rfl) (pe_dnewK))
      (pss_cons (ps_lock (ps_for PassesOwn.never rfl (pi_keys (pv 0)) (pg_name (i := 2) sc__law_copy.nd rfl (Or.inl rfl)) (pss_one (ps_dput (hu_of hr) (pv 1) (pv 2) (pe_dget (hu_of hr) (pv 0) (pv 2) (fun _ _ => rfl)) rfl))))
      (pss_one (ps_ret (pv 1))))), ?_⟩
  wtm_at "x0"
  wtm_at "xs"
  intro m H2 hm s2 hm2
  refine copyG rfl rfl (by decide) (by decide) (Nat.le_of_ble_eq_true rfl) (s2 _ _ hr0) hm2 (Xk.ne_new hm hr0).symm nd hl fun y' H3 b3 h3 => ?_
  have s3 : Same H H3 := Xk.same_but b3 hm s2
  show tRet (tVar 1) _ [some (.ref r), some (.ref m), y'] H3
  wtm_at "xs"
  exact q H3 m s3 hm h3
--CUT--
theorem KvOk.keys {ks : List Str} : ∀ {kvs : Kvs}, (∀ p ∈ kvs, (∃ k ∈ ks, p.1 = Sum.inr k) ∧ VOk p.2) → ∃ ts : List Str, kvs.map (·.1) = ts.map Sum.inr ∧ ∀ t ∈ ts, t ∈ ks
  | [], _ => ⟨[], rfl, fun t z => by cases z⟩
  | p :: r, h => by
    obtain ⟨ts, e, m⟩ := KvOk.keys (kvs := r) fun p hp => h p (List.mem_cons_of_mem _ hp)
    obtain ⟨⟨k, hk, e2⟩, _⟩ := h p (List.mem_cons_self ..)
    refine ⟨k :: ts, by rw [List.map_cons, List.map_cons, e, e2], fun t ht => ?_⟩
    rcases List.mem_cons.mp ht with rfl | ht
    · exact hk
    · exact m t ht
theorem KvOk.few {ks : List Str} {kvs : Kvs} (h : KvOk ks kvs) : kvs.length ≤ ks.length := by
  obtain ⟨ts, e, m⟩ := KvOk.keys h.ok
  have nd := h.nd
  rw [e] at nd
  have nd2 : ts.Nodup := by
    rw [List.nodup_iff_pairwise_ne] at nd ⊢
    exact (List.pairwise_map.mp nd).imp fun h z => h (congrArg _ z)
  have hl := congrArg List.length e
  rw [List.length_map, List.length_map] at hl
  rw [hl]
  exact nd2.length_le_of_subset m
theorem but_tup {H H' : Hp} {r a : Addr} {kvs : Kvs} {xs : List V} (b : Xk.But r H H') (hr : H r = some (.dK kvs)) (h : H a = some (.tup xs)) : H' a = some (.tup xs) :=
  b _ _ (fun z => by subst z; rw [hr] at h; cases h) h
/-- deeds one behind another -/
def doAll (kvs : Kvs) : List Dd → Kvs × List V
  | [] => (kvs, [])
  | d :: r => ((doAll (app kvs d).1 r).1, (app kvs d).2 :: (doAll (app kvs d).1 r).2)
theorem doAll_snoc (d : Dd) : ∀ (l : List Dd) (kvs : Kvs), doAll kvs (l ++ [d]) = ((app (doAll kvs l).1 d).1, (doAll kvs l).2 ++ [(app (doAll kvs l).1 d).2])
  | [], kvs => rfl
  | e :: r, kvs => by
    show ((doAll (app kvs e).1 (r ++ [d])).1, (app kvs e).2 :: (doAll (app kvs e).1 (r ++ [d])).2) = _
    rw [doAll_snoc d r]
    rfl
theorem doAll_ok {ks : List Str} : ∀ (l : List Dd) (kvs : Kvs), KvOk ks kvs → (∀ d ∈ l, d.ok ∧ d.key ∈ ks) → KvOk ks (doAll kvs l).1 ∧ (∀ v ∈ (doAll kvs l).2, FV v) ∧ (doAll kvs l).2.length = l.length
  | [], kvs, h, _ => ⟨h, fun v z => (by cases z), rfl⟩
  | d :: r, kvs, h, hl => by
    have hd := hl d (List.mem_cons_self ..)
    have h1 := app_ok h hd.1 hd.2
    have h2 := doAll_ok r _ h1.1 fun d hd => hl d (List.mem_cons_of_mem _ hd)
    refine ⟨h2.1, fun v hv => ?_, congrArg (· + 1) h2.2.2⟩
    rcases List.mem_cons.mp hv with rfl | hv
    · exact h1.2.2
    · exact h2.2.1 v hv
theorem val_drop : ∀ (kvs : Kvs) (k j : Key), valV (dropK kvs k) j = if j = k then none else valV kvs j
  | [], k, j => by
    split <;> rfl
  | p :: r, k, j => by
    have ih := val_drop r k j
    unfold valV dropK at ih ⊢
    rw [List.filter_cons]
    by_cases e : p.1 = k
    · rw [if_neg (by rw [decide_eq_true_eq]; exact fun z => z e), ih]
      by_cases ej : j = k
      · rw [if_pos ej, if_pos ej]
      · rw [if_neg ej, if_neg ej, List.find?_cons_of_neg]
        rw [decide_eq_true_eq]
        exact fun z => ej (z.symm.trans e)
    · rw [if_pos (by rw [decide_eq_true_eq]; exact e)]
      by_cases ep : p.1 = j
      · have ej : ¬ j = k := fun z => e (ep.trans z)
        rw [if_neg ej, List.find?_cons_of_pos (by rw [decide_eq_true_eq]; exact ep), List.find?_cons_of_pos (by rw [decide_eq_true_eq]; exact ep)]
      · rw [List.find?_cons_of_neg (by rw [decide_eq_true_eq]; exact ep), List.find?_cons_of_neg (by rw [decide_eq_true_eq]; exact ep)]
        exact ih
/-- alike at the keys of ts -/
def Ag (ts : List Str) (a b : Kvs) : Prop := ∀ t ∈ ts, valV a (Sum.inr t) = valV b (Sum.inr t)
theorem Ag.gv {ts : List Str} {a b : Kvs} (h : Ag ts a b) {t : Str} (ht : t ∈ ts) : gv a t = gv b t := by
  unfold K05.gv
  rw [h t ht]
theorem Ag.put {ts : List Str} {a b : Kvs} (h : Ag ts a b) (k : Str) (v : V) : Ag ts (putK a (Sum.inr k) v) (putK b (Sum.inr k) v) := fun t ht => by
  rw [valV_put, valV_put, h t ht]
theorem Ag.drop {ts : List Str} {a b : Kvs} (h : Ag ts a b) (k : Key) : Ag ts (dropK a k) (dropK b k) := fun t ht => by
  rw [val_drop, val_drop, h t ht]
theorem app_ag {ts : List Str} {a b : Kvs} (h : Ag ts a b) {d : Dd} (hd : d.key ∈ ts) : Ag ts (app a d).1 (app b d).1 ∧ (app a d).2 = (app b d).2 := by
  cases d with
  | get k => exact ⟨h, h.gv hd⟩
  | put k v => exact ⟨h.put k v, h.gv hd⟩
  | del k =>
    refine ⟨?_, h.gv hd⟩
    show Ag ts (if (valV a (Sum.inr k)).isSome = true then dropK a (Sum.inr k) else a) (if (valV b (Sum.inr k)).isSome = true then dropK b (Sum.inr k) else b)
    rw [h k hd]
    split
    · exact h.drop _
    · exact h
  | add k n =>
    show Ag ts (addR a k n (valV a (Sum.inr k))).1 (addR b k n (valV b (Sum.inr k))).1 ∧ (addR a k n (valV a (Sum.inr k))).2 = (addR b k n (valV b (Sum.inr k))).2
    rw [h k hd]
    unfold addR
    split
    · exact ⟨h.put k _, rfl⟩
    · split
      · exact ⟨h.put k _, rfl⟩
      · exact ⟨h, rfl⟩
    · exact ⟨h, rfl⟩
theorem doAll_ag {ts : List Str} : ∀ (l : List Dd) {a b : Kvs}, Ag ts a b → (∀ d ∈ l, d.key ∈ ts) → Ag ts (doAll a l).1 (doAll b l).1 ∧ (doAll a l).2 = (doAll b l).2
  | [], _, _, h, _ => ⟨h, rfl⟩
  | d :: r, a, b, h, hl => by
    have h1 := app_ag h (hl d (List.mem_cons_self ..))
    have h2 := doAll_ag r h1.1 fun d hd => hl d (List.mem_cons_of_mem _ hd)
    refine ⟨h2.1, ?_⟩
    show (app a d).2 :: (doAll (app a d).1 r).2 = (app b d).2 :: (doAll (app b d).1 r).2
    rw [h1.2, h2.2]
theorem doAll_len : ∀ (l : List Dd) (kvs : Kvs), (doAll kvs l).2.length = l.length
  | [], _ => rfl
  | d :: r, kvs => congrArg (· + 1) (doAll_len r (app kvs d).1)
/-- what no deed names stays -/
theorem app_off {a : Kvs} {d : Dd} {t : Str} (h : d.key ≠ t) : valV (app a d).1 (Sum.inr t) = valV a (Sum.inr t) := by
  have h2 : ∀ k : Str, k ≠ t → ¬ (Sum.inr t : Key) = Sum.inr k := fun k hk z => hk (Sum.inr.inj z).symm
  cases d with
  | get k => rfl
  | put k v => exact (valV_put _ _ _ _).trans (if_neg (h2 k h))
  | del k =>
    show valV (if (valV a (Sum.inr k)).isSome = true then dropK a (Sum.inr k) else a) (Sum.inr t) = _
    split
    · exact (val_drop _ _ _).trans (if_neg (h2 k h))
    · rfl
  | add k n =>
    show valV (addR a k n (valV a (Sum.inr k))).1 (Sum.inr t) = _
    unfold addR
    split
    · exact (valV_put _ _ _ _).trans (if_neg (h2 k h))
    · split
      · exact (valV_put _ _ _ _).trans (if_neg (h2 k h))
      · rfl
    · rfl
theorem doAll_off {t : Str} : ∀ (l : List Dd) {a : Kvs}, (∀ d ∈ l, d.key ≠ t) → valV (doAll a l).1 (Sum.inr t) = valV a (Sum.inr t)
  | [], _, _ => rfl
  | d :: r, a, h => by
    show valV (doAll (app a d).1 r).1 (Sum.inr t) = _
    rw [doAll_off r fun d hd => h d (List.mem_cons_of_mem _ hd)]
    exact app_off (h d (List.mem_cons_self ..))
--CUT--
theorem eqv_fv {x y : V} (hx : FV x) (hy : FV y) : PyData.eqv (pd x) (pd y) = decide (x = y) := by
  rcases hx with rfl | ⟨i, rfl⟩ | ⟨s', rfl, _, _⟩ <;> rcases hy with rfl | ⟨j, rfl⟩ | ⟨t', rfl, _, _⟩
  · rfl
  · rfl
  · rfl
  · rfl
  · show (i == j) = _
    by_cases e : i = j
    · subst e
      simp
    · rw [decide_eq_false (fun z => e (V.int.inj z))]
      exact beq_eq_false_iff_ne.mpr e
  · rfl
  · rfl
  · rfl
  · show (s' == t') = _
    by_cases e : s' = t'
    · subst e
      simp
    · rw [decide_eq_false (fun z => e (V.str.inj z))]
      exact beq_eq_false_iff_ne.mpr e
theorem x_eqFv {H : Hp} {Q : VK} {x y : V} (hx : FV x) (hy : FV y) (q : Q (.bl (decide (x = y))) H) : rEqD K x y H Q := by
  have k1 := pk_fv (K := K) (H := H) (n := 1) hx
  have k2 := pk_fv (K := K) (H := H) (n := 1) hy
  refine ⟨_, _, k1.1, k2.1, Xk.shaped_of k1.lay (Nat.le_trans k1.2.2 (by decide)), Xk.shaped_of k2.lay (Nat.le_trans k2.2.2 (by decide)), ?_⟩
  rw [eqv_fv hx hy]
  exact q
structure VsAt (H : Hp) (q : Addr) (es : List (Addr × Nat × V)) : Prop where
  tp : H q = some (.tup (es.map fun e => V.ref e.1))
  it : ∀ e ∈ es, H e.1 = some (.tup [.int (e.2.1 : Nat), e.2.2])
theorem VsAt.same {H H' : Hp} {q : Addr} {es : List (Addr × Nat × V)} (h : VsAt H q es) (s : Same H H') : VsAt H' q es := ⟨s _ _ h.tp, fun e he => s _ _ (h.it e he)⟩
structure WsAt (H : Hp) (q : Addr) (es : List (Addr × Str × V)) : Prop where
  tp : H q = some (.tup (es.map fun e => V.ref e.1))
  it : ∀ e ∈ es, H e.1 = some (.tup [.str e.2.1, e.2.2])
theorem WsAt.same {H H' : Hp} {q : Addr} {es : List (Addr × Str × V)} (h : WsAt H q es) (s : Same H H') : WsAt H' q es := ⟨s _ _ h.tp, fun e he => s _ _ (h.it e he)⟩
def ddOf (D : List DE) : List Dd := D.map fun e => e.2.2.2
def valuesOf (kvs : Kvs) (C : List CE) : List (Nat × V) := C.map fun e => (e.2.1, gv kvs e.2.2.1)
def answersOf (kvs : Kvs) (D : List DE) : List (Nat × V) := (D.map fun e => e.2.1).zip (doAll kvs (ddOf D)).2
def heldP (kvs : Kvs) (C : List CE) : Bool := (C.map fun e => decide (gv kvs e.2.2.1 = e.2.2.2)).all id
def writesOf (a b : Kvs) (ts : List Str) : List (Str × V) := (ts.filter fun t => !decide (gv b t = gv a t)).map fun t => (t, gv b t)
theorem x_neFv {H : Hp} {Q : VK} {x y : V} (hx : FV x) (hy : FV y) (q : Q (.bl (!decide (x = y))) H) : rNeD K x y H Q := by
  have k1 := pk_fv (K := K) (H := H) (n := 1) hx
  have k2 := pk_fv (K := K) (H := H) (n := 1) hy
  refine ⟨_, _, k1.1, k2.1, Xk.shaped_of k1.lay (Nat.le_trans k1.2.2 (by decide)), Xk.shaped_of k2.lay (Nat.le_trans k2.2.2 (by decide)), ?_⟩
  rw [eqv_fv hx hy]
  exact q
def sp_try_part (K : PySem.W.Frag) : Sp := fun vs H Q _ => ∃ r p kvs C D ks, vs = [.ref r, .ref p] ∧ H r = some (.dK kvs) ∧ KvOk ks kvs ∧ ks.length ≤ 50 ∧ PtAt H p C D ∧ (∀ e ∈ C, FV e.2.2.2 ∧ e.2.2.1 ∈ ks) ∧ (∀ e ∈ D, e.2.2.2.ok ∧ e.2.2.2.key ∈ ks) ∧
  ∀ H' q tv ta tw (es as : List (Addr × Nat × V)) (ws : List (Addr × Str × V)), Same H H' → H' q = some (.tup [.int (if heldP kvs C = true then 1 else 0), .ref tv, .ref ta, .ref tw]) → VsAt H' tv es → VsAt H' ta as → WsAt H' tw ws → es.map (·.2) = valuesOf kvs C →
    (heldP kvs C = false → as = [] ∧ ws = []) → (heldP kvs C = true → as.map (·.2) = answersOf kvs D ∧ ∃ ts, sortedS ts = true ∧ ts.Nodup ∧ (∀ t, t ∈ ts ↔ KeyOf C D t) ∧ ws.map (·.2) = writesOf kvs (doAll kvs (ddOf D)).1 ts) → Q (.ref q) H'
theorem ok_try_part (T : Txt K mg) : FnOk P w K mg base CX0 6 T.f_try_part T.d_try_part ["rows", "part"] (sp_try_part K) := by
  refine T.F_try_part.ok sc_try_part (fun vs H Q E h => ?_) (fun cdv A outer s H vs Q E hr h => ?_)
  · obtain ⟨r, p, kvs, C, D, ks, rfl, _⟩ := h
    rfl
  obtain ⟨r, p, kvs, C, D, ks, rfl, hr0, hkv, hks, hD, hC, hDD, q⟩ := h
  obtain ⟨pc, pd', h1, h2, h3⟩ := hD.tp
  have cl := hD.cl
  have dl := hD.dl
  have few := hkv.few
  refine ⟨_, (pss_cons (ps_asg (pv 1) (pg_tup rfl (pgs_cons (pg_name (i := 2) sc_try_part.nd rfl (Or.inl rfl)) (pgs_cons (pg_name (i := 3) sc_try_part.nd rfl (Or.inl rfl)) pgs_nil))))
      (pss_cons (ps_set (i := 4) sc_try_part.nd rfl (Or.inl rfl) (pe_callTy (Xk.k_tuple (K := K) (by rfl)) (by rfl) T.m_tuple (by decide +kernel) (pa_cons (pe_lc (own := [("place", 9), ("key", 10), ("value", 11)]) (g := gTup K 3 (gCons (gName 9) (gCons (gName 10) (gCons (gName 11) gNil)))) (tt := tYes) rfl sc_try_part.nd  (pi_tup (pv 2)) (blkOk_by (N := N_try_part) (sc := defScope s_try_part) (own := [("place", 9), ("key", 10), ("value", 11)]) (by decide +kernel)) (fun _ _ _ _ _ => Xk.k_gtup (K := K) (by rfl) rfl (pgs_cons (pg_name (i := 9) sc_try_part.nd rfl (Or.inl rfl)) (pgs_cons (pg_name (i := 10) sc_try_part.nd rfl (Or.inl rfl)) (pgs_cons (pg_name (i := 11) sc_try_part.nd rfl (Or.inl rfl)) pgs_nil)))) (fun _ _ _ _ _ => pts_nil) (fun _ _ _ _ _ => (pe_tup (pa_cons (pv 9) (pa_cons (pe_dget1 (hu_of hr) (pv 0) (pv 10) ⟨by rfl, by rfl, by rfl, by rfl⟩) pa_nil))))) pa_nil)))
      (Evl.pss_cut (ps_if (pt_not (pt_val (pe_callB (Xk.k_all (K := K) rfl (by rfl)) (by rfl) T.m_all (by decide +kernel) (pa_cons (pe_lc (own := [("place", 9), ("key", 10), ("value", 11)]) (g := gTup K 3 (gCons (gName 9) (gCons (gName 10) (gCons (gName 11) gNil)))) (tt := tYes) rfl sc_try_part.nd  (pi_tup (pv 2)) (blkOk_by (N := N_try_part) (sc := defScope s_try_part) (own := [("place", 9), ("key", 10), ("value", 11)]) (by decide +kernel)) (fun _ _ _ _ _ => Xk.k_gtup (K := K) (by rfl) rfl (pgs_cons (pg_name (i := 9) sc_try_part.nd rfl (Or.inl rfl)) (pgs_cons (pg_name (i := 10) sc_try_part.nd rfl (Or.inl rfl)) (pgs_cons (pg_name (i := 11) sc_try_part.nd rfl (Or.inl rfl)) pgs_nil)))) (fun _ _ _ _ _ => pts_nil) (fun _ _ _ _ _ => (pe_cmpR (Xk.k_eqD (K := K) hr.units (by rfl)) (pe_dget1 (hu_of hr) (pv 0) (pv 10) ⟨by rfl, by rfl, by rfl, by rfl⟩) (pv 11) (nomark _)))) pa_nil)))) (pss_one (ps_ret (pe_tup (pa_cons (pe_int) (pa_cons (pv 4) (pa_cons (pe_tup pa_nil) (pa_cons (pe_tup pa_nil) pa_nil))))))) pss_nil)
      (pss_cons (ps_set (i := 5) sc_try_part.nd rfl (Or.inl rfl) (pe_call (ok_keys_of_part T) (hr.mono (by decide)) (by rfl) T.g_keys_of_part T.F_keys_of_part.kp T.b_keys_of_part .nil pass0 (pa_cons (pv 1) pa_nil)))
      (pss_cons (ps_set (i := 6) sc_try_part.nd rfl (Or.inr rfl) (pe_dc (own := [("key", 10)]) (g := gName 10) rfl sc_try_part.nd  (pi_tup (pv 5)) (blkOk_by (N := N_try_part) (sc := defScope s_try_part) (own := [("key", 10)]) (by decide +kernel)) (fun _ _ _ _ _ => pg_name (i := 10) sc_try_part.nd rfl (Or.inl rfl)) (fun _ _ _ _ _ => pts_one (pt_cmp (pc_din (hu_of hr) (pv 10) (pv 0)))) (fun _ _ _ _ _ => (pv 10)) (fun _ _ _ _ _ => (pe_dget (hu_of hr) (pv 0) (pv 10) (fun _ _ => rfl)))))
      (pss_cons (ps_set (i := 7) sc_try_part.nd rfl (Or.inl rfl) (pe_callTy (Xk.k_tuple (K := K) (by rfl)) (by rfl) T.m_tuple (by decide +kernel) (pa_cons (pe_lc (own := [("place", 9), ("deed", 12)]) (g := gTup K 2 (gCons (gName 9) (gCons (gName 12) gNil))) (tt := tYes) rfl sc_try_part.nd  (pi_tup (pv 3)) (blkOk_by (N := N_try_part) (sc := defScope s_try_part) (own := [("place", 9), ("deed", 12)]) (by decide +kernel)) (fun _ _ _ _ _ => Xk.k_gtup (K := K) (by rfl) rfl (pgs_cons (pg_name (i := 9) sc_try_part.nd rfl (Or.inl rfl)) (pgs_cons (pg_name (i := 12) sc_try_part.nd rfl (Or.inl rfl)) pgs_nil))) (fun _ _ _ _ _ => pts_nil) (fun _ _ _ _ _ => (pe_tup (pa_cons (pv 9) (pa_cons (pe_call (ok_apply_deed T) (hr.mono (by decide)) (by rfl) T.g_apply_deed T.F_apply_deed.kp T.b_apply_deed .nil pass0 (pa_cons (pv 6) (pa_cons (pv 12) pa_nil))) pa_nil))))) pa_nil)))
      (pss_cons (ps_set (i := 8) sc_try_part.nd rfl (Or.inl rfl) (pe_callTy (Xk.k_tuple (K := K) (by rfl)) (by rfl) T.m_tuple (by decide +kernel) (pa_cons (pe_lc (own := [("key", 10)]) (g := gName 10) rfl sc_try_part.nd  (pi_tup (pv 5)) (blkOk_by (N := N_try_part) (sc := defScope s_try_part) (own := [("key", 10)]) (by decide +kernel)) (fun _ _ _ _ _ => pg_name (i := 10) sc_try_part.nd rfl (Or.inl rfl)) (fun _ _ _ _ _ => pts_one (pt_cmpR (Xk.k_neD (K := K) hr.units (by rfl)) (pe_dget1 (hu_of hr) (pv 6) (pv 10) ⟨by rfl, by rfl, by rfl, by rfl⟩) (pe_dget1 (hu_of hr) (pv 0) (pv 10) ⟨by rfl, by rfl, by rfl, by rfl⟩) (nomark _))) (fun _ _ _ _ _ => (pe_tup (pa_cons (pv 10) (pa_cons (pe_dget1 (hu_of hr) (pv 6) (pv 10) ⟨by rfl, by rfl, by rfl, by rfl⟩) pa_nil))))) pa_nil)))
      (pss_one (ps_ret (pe_tup (pa_cons (pe_int) (pa_cons (pv 4) (pa_cons (pv 7) (pa_cons (pv 8) pa_nil)))))))))))))), ?_⟩
  wtm_at "x0"
  wtm_at "xs"
  refine Xk.x_lcT (xs := C.map fun e => V.ref e.1) (fun Dl i H' => Same H H' ∧ ∃ es : List (Addr × Nat × V), H' Dl = some (.lst (es.map fun e => V.ref e.1)) ∧ es.map (·.2) = valuesOf kvs (C.take i) ∧ ∀ e ∈ es, H' e.1 = some (.tup [.int (e.2.1 : Nat), e.2.2])) (Xk.st_of h2) ?_ ?_ ?_ ?_
  · intro Dl hF
    exact ⟨Xk.same_fr hF, [], upd_same, rfl, fun e z => by cases z⟩
  · rintro Dl i H' hF ⟨s2, _⟩
    exact Xk.st_of (s2 _ _ h2)
  · rintro Dl hF i x H' hi ⟨s2, es, g, ge, gm⟩
    obtain ⟨e, he, rfl⟩ := Xk.of_map_at hi
    have hx := s2 _ _ (hD.ck e (List.mem_of_getElem? he))
    have hr2 := s2 _ _ hr0
    have esl : es.length ≤ 20 := by
      have z := congrArg List.length ge
      unfold valuesOf at z
      rw [List.length_map, List.length_map, List.length_take] at z
      omega
    wtm_at "xs"
    refine ⟨rfl, ?_⟩
    wtm_at "xs"
    intro Tp H4 hTp s4 h4
    have g4 := s4 _ _ g
    refine ⟨_, g4, Xk.size_lt (by rw [List.length_map]; omega), Xk.same_mut (s2.trans s4) hF, es ++ [(Tp, e.2.1, gv kvs e.2.2.1)], by rw [upd_same, List.map_append]; rfl, ?_, fun e2 he2 => ?_⟩
    · rw [List.map_append, ge, List.take_add_one, he]
      unfold valuesOf
      rw [List.map_append]
      rfl
    · rcases List.mem_append.mp he2 with he2 | he2
      · exact keep_tup (s4 _ _ (gm e2 he2)) g4
      · rw [List.mem_singleton.mp he2]
        exact keep_tup h4 g4
  · rintro k1 H1 hk1 ⟨s1, es, g1, ge, gm⟩
    rw [List.length_map, List.take_length] at ge
    wtm_at "xs"
    intro tv H2 htv s2 gv2
    have vs2 : VsAt H2 tv es := ⟨gv2, fun e he => s2 _ _ (gm e he)⟩
    have s02 := s1.trans s2
    clear g1 gm hk1 htv s1 s2 gv2
    have hr2 := s02 _ _ hr0
    have h22 := s02 _ _ h2
    refine Xk.x_nocut ?_
    wtm_at "xs"
    refine Xk.x_lcT (xs := C.map fun e => V.ref e.1) (fun Dl i H' => Same H2 H' ∧ H' Dl = some (.lst (((C.take i).map fun e => decide (gv kvs e.2.2.1 = e.2.2.2)).map V.bl))) (Xk.st_of h22) ?_ ?_ ?_ ?_
    · intro Dl hF
      exact ⟨Xk.same_fr hF, upd_same⟩
    · rintro Dl i H' hF ⟨s3, _⟩
      exact Xk.st_of (s3 _ _ h22)
    · rintro Dl hF i x H' hi ⟨s3, g⟩
      obtain ⟨e, he, rfl⟩ := Xk.of_map_at hi
      have hx := s3 _ _ (s02 _ _ (hD.ck e (List.mem_of_getElem? he)))
      have hr3 := s3 _ _ hr2
      wtm_at "xs"
      refine ⟨rfl, ?_⟩
      wtm_at "xs"
      refine x_eqFv (gv_fv hkv _) (hC e (List.mem_of_getElem? he)).1 ?_
      refine ⟨_, g, Xk.size_lt (by simp only [List.length_map, List.length_take]; omega), Xk.same_mut s3 hF, ?_⟩
      rw [upd_same, List.take_add_one, he, List.map_append, List.map_append]
      rfl
    · rintro k3 H3 hk3 ⟨s3, g3⟩
      rw [List.length_map, List.take_length] at g3
      wtm_at "xs"
      refine Xk.x_all (bs := C.map fun e => decide (gv kvs e.2.2.1 = e.2.2.2)) (Xk.sq_of g3) ?_
      have s03 := s02.trans s3
      have vs3 := vs2.same s3
      have hr3 := s3 _ _ hr2
      clear g3 hk3 vs2 hr2 h22 s02 s3
      wtm_at "xs"
      refine Xk.x_itnb (fun hh => ?_) (fun hh => ?_)
      · have hh2 : heldP kvs C = false := hh
        wtm_at "xs"
        intro u1 H4 hu1 s4 g4
        wtm_at "xs"
        intro u2 H5 hu2 s5 g5
        wtm_at "xs"
        intro u3 H6 hu3 s6 g6
        have s56 := s5.trans s6
        refine q H6 u3 tv u1 u2 es [] [] (s03.trans (s4.trans s56)) ?_ (vs3.same (s4.trans s56)) ⟨s56 _ _ g4, fun e z => (by cases z)⟩ ⟨s6 _ _ g5, fun e z => (by cases z)⟩ ge (fun _ => ⟨rfl, rfl⟩) (fun z => by rw [hh2] at z; cases z)
        rw [hh2]
        exact g6
      · have hh2 : heldP kvs C = true := hh
        wtm_at "xs"
        refine ⟨p, C, D, rfl, hD.same s03, fun H4 kq ts s4 hkq hts hnd hmem => ?_⟩
        have tsk : ∀ t ∈ ts, t ∈ ks := fun t ht => by
          rcases (hmem t).mp ht with ⟨e, he, rfl⟩ | ⟨e, he, rfl⟩
          · exact (hC e he).2
          · exact (hDD e he).2
        have tsl : ts.length ≤ 50 := Nat.le_trans (hnd.length_le_of_subset tsk) hks
        have s04 := s03.trans s4
        have hr4 := s4 _ _ hr3
        have vs4 := vs3.same s4
        clear s03 s4 hr3 vs3
        wtm_at "xs"
        refine Xk.x_dcT (xs := ts.map V.str) (fun Dl i H' => Same H4 H' ∧ ∃ m, H' Dl = some (.dK m) ∧ KvOk ks m ∧ m.length ≤ i ∧ (∀ t ∈ ts.take i, valV m (Sum.inr t) = valV kvs (Sum.inr t)) ∧ ∀ t, t ∉ ts.take i → valV m (Sum.inr t) = none) (Xk.st_of hkq) ?_ ?_ ?_ ?_
        · intro Dl hF
          exact ⟨Xk.same_fr hF, [], upd_same, ⟨.nil, fun p hp => by cases hp⟩, Nat.le_refl _, fun t ht => (by cases ht), fun t _ => rfl⟩
        · rintro Dl i H' hF ⟨s5, _⟩
          exact Xk.st_of (s5 _ _ hkq)
        · rintro Dl hF i x H' hi ⟨s5, m, gm, km, ml, me, mn⟩
          obtain ⟨t, ht, rfl⟩ := Xk.of_map_at hi
          have hr5 := s5 _ _ hr4
          have tl := Xk.at_lt ht
          have tk : ts.take (i + 1) = ts.take i ++ [t] := by rw [List.take_add_one, ht]; rfl
          wtm_at "xs"
          refine ⟨rfl, ?_⟩
          wtm_at "xs"
          refine Xk.x_itb (fun hk => ?_) (fun hk => ?_)
          · obtain ⟨v, hv⟩ := Option.isSome_iff_exists.mp hk
            wtm_at "xs"
            have kp := km.put (k := t) (v := v) (tsk t (List.mem_of_getElem? ht)) (hkv.val hv)
            refine ⟨m, Sum.inr t, rfl, gm, Xk.size_lt (by omega), Xk.same_mut s5 hF, _, upd_same, kp.1, by omega, fun t' ht' => ?_, fun t' ht' => ?_⟩
            · rw [valV_put]
              by_cases e : t' = t
              · rw [if_pos (by rw [e]), e, hv]
              · rw [if_neg (fun z => e (Sum.inr.inj z))]
                rw [tk] at ht'
                rcases List.mem_append.mp ht' with ht' | ht'
                · exact me t' ht'
                · exact absurd (List.mem_singleton.mp ht') e
            · rw [valV_put, if_neg (fun z => ht' (by rw [tk, Sum.inr.inj z]; exact List.mem_append_right _ (List.mem_singleton_self _)))]
              exact mn t' fun z => ht' (by rw [tk]; exact List.mem_append_left _ z)
          · have hn : valV kvs (Sum.inr t) = none := by
              cases hz : valV kvs (Sum.inr t) with
              | none => rfl
              | some v => rw [hz] at hk; cases hk
            refine ⟨s5, m, gm, km, by omega, fun t' ht' => ?_, fun t' ht' => mn t' fun z => ht' (by rw [tk]; exact List.mem_append_left _ z)⟩
            rw [tk] at ht'
            rcases List.mem_append.mp ht' with ht' | ht'
            · exact me t' ht'
            · rw [List.mem_singleton.mp ht', hn]
              by_cases z : t ∈ ts.take i
              · rw [me t z, hn]
              · exact mn t z
        · rintro bp H5 hbp ⟨s5, m, gm, km, ml, me, mn⟩
          rw [List.length_map, List.take_length] at me
          have agm : Ag ts m kvs := me
          have s05 := s04.trans s5
          have hD5 := hD.same s05
          have hr5 := s5 _ _ hr4
          have vs5 := vs4.same s5
          have hkq5 := s5 _ _ hkq
          have h35 := s05 _ _ h3
          have nrb : r ≠ bp := Xk.ne_new hbp hr4
          have fbp : Xk.Fr bp H := Xk.free_back hbp s04
          clear hkq hr4 vs4 s04 s5 hbp mn
          wtm_at "xs"
          refine Xk.x_lcT (xs := D.map fun e => V.ref e.1) (fun Dl i H' => Xk.But bp H5 H' ∧ ∃ (m' : Kvs) (as : List (Addr × Nat × V)), H' bp = some (.dK m') ∧ KvOk ks m' ∧ Ag ts m' (doAll kvs (ddOf (D.take i))).1 ∧ H' Dl = some (.lst (as.map fun e => V.ref e.1)) ∧ as.map (·.2) = answersOf kvs (D.take i) ∧ ∀ e ∈ as, H' e.1 = some (.tup [.int (e.2.1 : Nat), e.2.2])) (Xk.st_of h35) ?_ ?_ ?_ ?_
          · intro Dl hDl
            exact ⟨Xk.but_new (Xk.But.refl _ _) hDl, m, [], (upd_ne (Xk.ne_new hDl gm)).trans gm, km, agm, upd_same, rfl, fun e z => by cases z⟩
          · rintro Dl i H' hDl ⟨b, _⟩
            exact Xk.st_of (but_tup b gm h35)
          · rintro Dl hDl i x H' hi ⟨b, m', as, hm', km', ag', g, ge2, gm2⟩
            obtain ⟨e, he, rfl⟩ := Xk.of_map_at hi
            have em := List.mem_of_getElem? he
            have hx0 := but_tup b gm (hD5.dd e em)
            have hx1 := but_tup b gm (hD5.dx e em)
            have nDl : Dl ≠ bp := (Xk.ne_new hDl gm).symm
            have kt : e.2.2.2.key ∈ ts := (hmem _).mpr (.inr ⟨e, em, rfl⟩)
            have few2 := km'.few
            have asl : as.length ≤ 20 := by
              have z := congrArg List.length ge2
              unfold answersOf at z
              rw [List.length_map, List.length_zip, List.length_map, List.length_take] at z
              omega
            wtm_at "xs"
            refine ⟨rfl, ?_⟩
            wtm_at "xs"
            refine ⟨bp, e.2.2.1, m', e.2.2.2, rfl, hm', hx1, fun k v z => km'.val z, by omega, (hDD e em).1, fun H6 b6 hm6 => ?_⟩
            wtm_at "xs"
            intro Tp H7 hTp s7 h7
            have g7 := s7 _ _ (Xk.but_at b6 nDl g)
            have ap := app_ag ag' kt
            have dt : ddOf (D.take (i + 1)) = ddOf (D.take i) ++ [e.2.2.2] := by
              unfold ddOf
              rw [List.take_add_one, he, List.map_append]
              rfl
            refine ⟨_, g7, Xk.size_lt (by rw [List.length_map]; omega), fun b0 o n h => (upd_ne (Xk.ne_new hDl h)).trans (s7 _ _ (b6 b0 o n (b b0 o n h))), (app m' e.2.2.2).1, as ++ [(Tp, e.2.1, (app m' e.2.2.2).2)], (upd_ne nDl.symm).trans (s7 _ _ hm6), (app_ok km' (hDD e em).1 (hDD e em).2).1, ?_, by rw [upd_same, List.map_append]; rfl, ?_, fun e2 he2 => ?_⟩
            · rw [dt, doAll_snoc]
              exact ap.1
            · rw [List.map_append, ge2]
              unfold answersOf
              rw [dt, doAll_snoc, List.take_add_one, he, List.map_append, List.zip_append (by rw [doAll_len, List.length_map]; unfold ddOf; rw [List.length_map])]
              congr 1
              show [(e.2.1, (app m' e.2.2.2).2)] = _
              rw [ap.2]
              rfl
            · rcases List.mem_append.mp he2 with he2 | he2
              · exact keep_tup (s7 _ _ (but_tup b6 hm' (gm2 e2 he2))) g7
              · rw [List.mem_singleton.mp he2]
                exact keep_tup h7 g7
          · rintro Dl H6 hDl ⟨b6, m2, as, hm2, km2, ag2, g6, ga, gm6⟩
            rw [List.length_map, List.take_length] at ga ag2
            wtm_at "xs"
            intro ta H7 hta s7 gta
            have va7 : VsAt H7 ta as := ⟨gta, fun e he => s7 _ _ (gm6 e he)⟩
            have hr7 := s7 _ _ (b6 _ _ nrb hr5)
            have hkq7 := s7 _ _ (but_tup b6 gm hkq5)
            have hm7 := s7 _ _ hm2
            have vs7 : VsAt H7 tv es := ⟨s7 _ _ (but_tup b6 gm vs5.tp), fun e he => s7 _ _ (but_tup b6 gm (vs5.it e he))⟩
            have s07 : Same H H7 := (Xk.same_but b6 fbp s05).trans s7
            have few2 := km2.few
            clear g6 gm6 hDl hta gta s7 hm2 b6 vs5 hkq5 hr5 hD5 h35 s05 gm
            wtm_at "xs"
            refine Xk.x_lcT (xs := ts.map V.str) (fun Dl i H' => Same H7 H' ∧ ∃ ws : List (Addr × Str × V), H' Dl = some (.lst (ws.map fun e => V.ref e.1)) ∧ ws.map (·.2) = writesOf kvs (doAll kvs (ddOf D)).1 (ts.take i) ∧ ∀ e ∈ ws, H' e.1 = some (.tup [.str e.2.1, e.2.2])) (Xk.st_of hkq7) ?_ ?_ ?_ ?_
            · intro Dl hF
              exact ⟨Xk.same_fr hF, [], upd_same, rfl, fun e z => by cases z⟩
            · rintro Dl i H' hF ⟨s8, _⟩
              exact Xk.st_of (s8 _ _ hkq7)
            · rintro Dl hF i x H' hi ⟨s8, ws, g, ge2, gm2⟩
              obtain ⟨t, ht, rfl⟩ := Xk.of_map_at hi
              have hr8 := s8 _ _ hr7
              have hm8 := s8 _ _ hm7
              have eg := ag2.gv (List.mem_of_getElem? ht)
              have fe := filt_at (f := fun t => !decide (gv (doAll kvs (ddOf D)).1 t = gv kvs t)) ht
              have wl : ws.length ≤ 50 := by
                have z := congrArg List.length ge2
                unfold writesOf at z
                rw [List.length_map, List.length_map] at z
                have z2 := List.length_filter_le (fun t => !decide (gv (doAll kvs (ddOf D)).1 t = gv kvs t)) (ts.take i)
                rw [List.length_take] at z2
                omega
              wtm_at "xs"
              refine ⟨rfl, ?_⟩
              wtm_at "xs"
              refine x_neFv (gv_fv km2 t) (gv_fv hkv t) ?_
              wtm_at "xs"
              refine Xk.x_itb (fun hk => ?_) (fun hk => ?_)
              · wtm_at "xs"
                intro Tp H9 hTp s9 h9
                have g9 := s9 _ _ g
                refine ⟨_, g9, Xk.size_lt (by rw [List.length_map]; omega), Xk.same_mut (s8.trans s9) hF, ws ++ [(Tp, t, gv m2 t)], by rw [upd_same, List.map_append]; rfl, ?_, fun e2 he2 => ?_⟩
                · have hk' : (!decide (gv m2 t = gv kvs t)) = true := hk
                  rw [eg] at hk'
                  rw [List.map_append, ge2]
                  unfold writesOf
                  rw [fe, if_pos hk', List.map_append, eg]
                  rfl
                · rcases List.mem_append.mp he2 with he2 | he2
                  · exact keep_tup (s9 _ _ (gm2 e2 he2)) g9
                  · rw [List.mem_singleton.mp he2]
                    exact keep_tup h9 g9
              · refine ⟨s8, ws, g, ?_, gm2⟩
                have hk' : (!decide (gv m2 t = gv kvs t)) = false := hk
                rw [eg] at hk'
                unfold writesOf at ge2 ⊢
                rw [fe, if_neg (by rw [hk']; decide), List.append_nil, ge2]
            · rintro Dl H8 hDl ⟨s8, ws, g8, gw, gm8⟩
              rw [List.length_map, List.take_length] at gw
              wtm_at "xs"
              intro tw H9 htw s9 g9
              wtm_at "xs"
              intro tq HA htq sA gA
              have s9A := s9.trans sA
              have s8A := s8.trans s9A
              refine q HA tq tv ta tw es as ws (s07.trans s8A) ?_ (vs7.same s8A) (va7.same s8A) ⟨sA _ _ g9, fun e he => s9A _ _ (gm8 e he)⟩ ge (fun z => by rw [hh2] at z; cases z) (fun _ => ⟨ga, ts, hts, hnd, hmem, gw⟩)
              rw [hh2]
              exact gA
--CUT--
/-- writes, one behind another -/
def wr1 (kvs : Kvs) (p : Str × V) : Kvs := if p.2 = .non then (if (valV kvs (Sum.inr p.1)).isSome = true then dropK kvs (Sum.inr p.1) else kvs) else putK kvs (Sum.inr p.1) p.2
def wrAll : Kvs → List (Str × V) → Kvs
  | kvs, [] => kvs
  | kvs, p :: r => wrAll (wr1 kvs p) r
theorem wrAll_snoc (p : Str × V) : ∀ (l : List (Str × V)) (kvs : Kvs), wrAll kvs (l ++ [p]) = wr1 (wrAll kvs l) p
  | [], _ => rfl
  | q :: r, kvs => wrAll_snoc p r (wr1 kvs q)
theorem wr1_ok {ks : List Str} {kvs : Kvs} (h : KvOk ks kvs) {p : Str × V} (hp : p.1 ∈ ks) (hv : FV p.2) : KvOk ks (wr1 kvs p) := by
  unfold wr1
  split
  · split
    · exact (h.drop _).1
    · exact h
  · rename_i hn
    exact (h.put hp (hv.resolve_left hn)).1
def sp_write_rows (K : PySem.W.Frag) : Sp := fun vs H Q _ => ∃ r q kvs ws ks, vs = [.ref r, .ref q] ∧ H r = some (.dK kvs) ∧ KvOk ks kvs ∧ ks.length ≤ 50 ∧ WsAt H q ws ∧ ws.length ≤ 50 ∧ (∀ e ∈ ws, FV e.2.2 ∧ e.2.1 ∈ ks) ∧
  ∀ H', Xk.But r H H' → H' r = some (.dK (wrAll kvs (ws.map (·.2)))) → Q .non H'
theorem ok_write_rows (T : Txt K mg) : FnOk P w K mg base CX0 1 T.f_write_rows T.d_write_rows ["rows", "writes"] (sp_write_rows K) := by
  refine T.F_write_rows.ok sc_write_rows (fun vs H Q E h => ?_) (fun cdv A outer s H vs Q E hr h => ?_)
  · obtain ⟨r, q, kvs, ws, ks, rfl, _⟩ := h
    rfl
  obtain ⟨r, q, kvs, ws, ks, rfl, hr0, hkv, hks, hW, hwl, hwo, k⟩ := h
  refine ⟨_, (pss_one (ps_for PassesOwn.never rfl (pi_tup (pv 1)) (pg_tup rfl (pgs_cons (pg_name (i := 2) sc_write_rows.nd rfl (Or.inl rfl)) (pgs_cons (pg_name (i := 3) sc_write_rows.nd rfl (Or.inl rfl)) pgs_nil))) (pss_one (ps_if (pt_cmpR Xk.op_nIsN (pv 3) (pe_non) (nomark _)) (pss_one (ps_expr (pe_dpop2 (pv 0) (pv 2) (pe_non) ⟨by rfl, by rfl, by rfl, by rfl⟩))) (pss_one (ps_dput (hu_of hr) (pv 0) (pv 2) (pv 3) rfl)))))), ?_⟩
  wtm_at "x0"
  wtm_at "xs"
  refine Xk.x_forT (xs := ws.map fun e => V.ref e.1) (fun i σ' H' => ∃ y2 y3 : Option V, σ' = [some (.ref r), some (.ref q), y2, y3] ∧ Xk.But r H H' ∧ H' r = some (.dK (wrAll kvs ((ws.take i).map (·.2)))) ∧ KvOk ks (wrAll kvs ((ws.take i).map (·.2)))) (Xk.st_of hW.tp) ⟨_, _, rfl, Xk.But.refl _ _, hr0, hkv⟩ ?_ ?_ ?_
  · rintro i σ' H' hi ⟨y2, y3, rfl, b, _⟩
    exact Xk.st_of (but_tup b hr0 hW.tp)
  · rintro i x σ' H' hi ⟨y2, y3, rfl, b, hr1, hk1⟩
    obtain ⟨e, he, rfl⟩ := Xk.of_map_at hi
    have em := List.mem_of_getElem? he
    have hx := but_tup b hr0 (hW.it e em)
    have few := hk1.few
    have hl2 : (wrAll kvs ((ws.take i).map (·.2))).length < 1000 := by omega
    have st : wrAll kvs ((ws.take (i + 1)).map (·.2)) = wr1 (wrAll kvs ((ws.take i).map (·.2))) e.2 := by
      rw [List.take_add_one, he, List.map_append]
      exact wrAll_snoc _ _ _
    have ok2 := wr1_ok hk1 (hwo e em).2 (hwo e em).1
    rw [← st] at ok2
    wtm_at "xs"
    refine Xk.x_itd (fun hn => ?_) (fun hn => ?_)
    · have st2 : wrAll kvs ((ws.take (i + 1)).map (·.2)) = if (valV (wrAll kvs ((ws.take i).map (·.2))) (Sum.inr e.2.1)).isSome = true then dropK (wrAll kvs ((ws.take i).map (·.2))) (Sum.inr e.2.1) else wrAll kvs ((ws.take i).map (·.2)) := by
        rw [st]
        unfold wr1
        rw [if_pos hn]
      wtm_at "xs"
      refine Xk.x_rPop2 hr1 (fun v hv => ?_) (fun hv => ?_)
      · rw [hv] at st2
        refine ⟨_, _, rfl, Xk.but_mut b, ?_, ok2⟩
        rw [upd_same, st2]
        rfl
      · rw [hv] at st2
        refine ⟨_, _, rfl, b, ?_, ok2⟩
        rw [hr1, st2]
        rfl
    · have st2 : wrAll kvs ((ws.take (i + 1)).map (·.2)) = putK (wrAll kvs ((ws.take i).map (·.2))) (Sum.inr e.2.1) e.2.2 := by
        rw [st]
        unfold wr1
        rw [if_neg hn]
      wtm_at "xs"
      refine ⟨_, _, rfl, Xk.but_mut b, ?_, ok2⟩
      rw [upd_same, st2]
  · rintro σ' H' ⟨y2, y3, rfl, b, hr1, hk1⟩
    rw [List.length_map, List.take_length] at hr1
    wtm_at "xs"
    exact k H' b hr1
--CUT--
theorem pair_rise : ∀ {l : List Str} {p : Str}, (p :: l).Pairwise (fun a b : Str => a.cps.toList ≤ b.cps.toList) → risingS p l = true
  | [], p, _ => rfl
  | x :: r, p, h => by
    obtain ⟨h1, h2⟩ := List.pairwise_cons.mp h
    show (!ltCps x.cps.toList p.cps.toList && risingS x r) = true
    rw [pair_rise h2, Bool.and_true, ltCps_eq, Bool.not_eq_true', decide_eq_false_iff_not]
    exact List.not_lt.mpr (h1 x (List.mem_cons_self ..))
theorem pair_srtS {l : List Str} (h : l.Pairwise (fun a b : Str => a.cps.toList ≤ b.cps.toList)) : sortedS l = true := by
  cases l with
  | nil => rfl
  | cons p r => exact pair_rise h
def wpd (p : Str × V) : PyData := .tuple [.str p.1, pd p.2]
theorem but_tupL {H H' : Hp} {r a : Addr} {xs ys : List V} (b : Xk.But r H H') (hr : H r = some (.lst ys)) (h : H a = some (.tup xs)) : H' a = some (.tup xs) :=
  b _ _ (fun z => by subst z; rw [hr] at h; cases h) h
--CUT--
theorem eqv_fvs : ∀ xs ys : List V, (∀ v ∈ xs, FV v) → (∀ v ∈ ys, FV v) → PyData.eqvAll (xs.map pd) (ys.map pd) = decide (xs = ys)
  | [], [], _, _ => rfl
  | [], _ :: _, _, _ => rfl
  | _ :: _, [], _, _ => rfl
  | x :: xs, y :: ys, hx, hy => by
    rw [List.map_cons, List.map_cons, PyData.eqvAll, eqv_fv (hx x (List.mem_cons_self ..)) (hy y (List.mem_cons_self ..)), eqv_fvs xs ys (fun v hv => hx v (List.mem_cons_of_mem _ hv)) (fun v hv => hy v (List.mem_cons_of_mem _ hv))]
    by_cases e1 : x = y
    · by_cases e2 : xs = ys
      · subst e1
        subst e2
        simp
      · simp [e1, e2]
    · simp [e1]
theorem x_neFvs {H : Hp} {Q : VK} {a c : Addr} {xs ys : List V} (h : SqT K H a xs) (h' : SqT K H c ys) (hx : ∀ v ∈ xs, FV v) (hy : ∀ v ∈ ys, FV v) (q : Q (.bl (!decide (xs = ys))) H) : rNeD K (.ref a) (.ref c) H Q := by
  have k1 := Xk.pk_tup (n := 1) h (pk_fvs xs hx)
  have k2 := Xk.pk_tup (n := 1) h' (pk_fvs ys hy)
  refine ⟨_, _, k1.1, k2.1, Xk.shaped_of k1.lay (Nat.le_trans k1.2.2 (by decide)), Xk.shaped_of k2.lay (Nat.le_trans k2.2.2 (by decide)), ?_⟩
  rw [PyData.eqv, eqv_fvs xs ys hx hy]
  exact q
theorem dec_snoc {xs ys : List V} {x y : V} (h : xs.length = ys.length) : decide (xs ++ [x] = ys ++ [y]) = (decide (xs = ys) && decide (x = y)) := by
  by_cases e1 : xs = ys
  · subst e1
    by_cases e2 : x = y
    · subst e2
      simp
    · simp [e2]
  · rw [decide_eq_false e1, Bool.false_and]
    exact decide_eq_false fun z => e1 (List.append_inj_left z h)
theorem fr_but {H H' : Hp} {r p : Addr} {o : HO} (f : Xk.Fr p H') (b : Xk.But r H H') (hr : H' r = some o) : Xk.Fr p H := ⟨by
  cases e : H p with
  | none => rfl
  | some u =>
    have h1 := f.is
    by_cases e2 : p = r
    · subst e2
      rw [hr] at h1
      cases h1
    · rw [b _ _ e2 e] at h1
      cases h1⟩
theorem DlAt.but {H H' : Hp} {r p : Addr} {kvs : Kvs} {C : List (Addr × Ck)} {D : List (Addr × Dd)} (h : DlAt H p C D) (b : Xk.But r H H') (hr : H r = some (.dK kvs)) : DlAt H' p C D := by
  obtain ⟨pc, pd, h1, h2, h3⟩ := h.tp
  exact ⟨⟨pc, pd, but_tup b hr h1, but_tup b hr h2, but_tup b hr h3⟩, fun e he => but_tup b hr (h.ck e he), fun e he => but_tup b hr (h.dd e he), h.fv, h.ok, h.cl, h.dl⟩
/-- deeds one behind another -/
def held (kvs : Kvs) (cs : List Ck) : Bool := decide (cs.map (fun c => gv kvs c.1) = cs.map (fun c => c.2))
def dealW (kvs : Kvs) (cs : List Ck) (ds : List Dd) : Kvs × Str × List V := if held kvs cs = true then ((doAll kvs ds).1, "done", (doAll kvs ds).2) else (kvs, "unheld", cs.map fun c => gv kvs c.1)
--CUT--
def sp_do_deal (K : PySem.W.Frag) : Sp := fun vs H Q _ => ∃ r p kvs C D ks, vs = [.ref r, .ref p] ∧ H r = some (.dK kvs) ∧ KvOk ks kvs ∧ ks.length ≤ 100 ∧ DlAt H p C D ∧ (∀ e ∈ D, e.2.key ∈ ks) ∧
  ∀ H' q t, Xk.But r H H' → Xk.Fr q H → Xk.Fr t H → H' r = some (.dK (dealW kvs (C.map (·.2)) (D.map (·.2))).1) → H' q = some (.tup [.str (dealW kvs (C.map (·.2)) (D.map (·.2))).2.1, .ref t]) → H' t = some (.tup (dealW kvs (C.map (·.2)) (D.map (·.2))).2.2) → Q (.ref q) H'
theorem ok_do_deal (T : Txt K mg) : FnOk P w K mg base CX0 6 T.f_do_deal T.d_do_deal ["rows", "deal"] (sp_do_deal K) := by
  refine T.F_do_deal.ok sc_do_deal (fun vs H Q E h => ?_) (fun cdv A outer s H vs Q E hr h => ?_)
  · obtain ⟨r, p, kvs, C, D, ks, rfl, _⟩ := h
    rfl
  obtain ⟨r, p, kvs, C, D, ks, rfl, hr0, hkv, hkl, hD, hk, q⟩ := h
  refine ⟨_, (pss_cons (ps_asg (pv 1) (pg_tup rfl (pgs_cons (pg_name (i := 2) sc_do_deal.nd rfl (Or.inl rfl)) (pgs_cons (pg_name (i := 3) sc_do_deal.nd rfl (Or.inl rfl)) pgs_nil))))
      (pss_cons (ps_set (i := 4) sc_do_deal.nd rfl (Or.inl rfl) (pe_callTy (Xk.k_tuple (K := K) (by rfl)) (by rfl) T.m_tuple (by decide +kernel) (pa_cons (pe_lc (own := [("key", 5), ("value", 6)]) (g := gTup K 2 (gCons (gName 5) (gCons (gName 6) gNil))) (tt := tYes) rfl sc_do_deal.nd  (pi_tup (pv 2)) (blkOk_by (N := N_do_deal) (sc := defScope s_do_deal) (own := [("key", 5), ("value", 6)]) (by decide +kernel)) (fun _ _ _ _ _ => Xk.k_gtup (K := K) (by rfl) rfl (pgs_cons (pg_name (i := 5) sc_do_deal.nd rfl (Or.inl rfl)) (pgs_cons (pg_name (i := 6) sc_do_deal.nd rfl (Or.inl rfl)) pgs_nil))) (fun _ _ _ _ _ => pts_nil) (fun _ _ _ _ _ => (pe_dget1 (hu_of hr) (pv 0) (pv 5) ⟨by rfl, by rfl, by rfl, by rfl⟩))) pa_nil)))
      (Evl.pss_cut (ps_if (pt_cmpR (Xk.k_neD (K := K) hr.units (by rfl)) (pv 4) (pe_callTy (Xk.k_tuple (K := K) (by rfl)) (by rfl) T.m_tuple (by decide +kernel) (pa_cons (pe_lc (own := [("key", 5), ("value", 6)]) (g := gTup K 2 (gCons (gName 5) (gCons (gName 6) gNil))) (tt := tYes) rfl sc_do_deal.nd  (pi_tup (pv 2)) (blkOk_by (N := N_do_deal) (sc := defScope s_do_deal) (own := [("key", 5), ("value", 6)]) (by decide +kernel)) (fun _ _ _ _ _ => Xk.k_gtup (K := K) (by rfl) rfl (pgs_cons (pg_name (i := 5) sc_do_deal.nd rfl (Or.inl rfl)) (pgs_cons (pg_name (i := 6) sc_do_deal.nd rfl (Or.inl rfl)) pgs_nil))) (fun _ _ _ _ _ => pts_nil) (fun _ _ _ _ _ => (pv 6))) pa_nil)) (nomark _)) (pss_one (ps_ret (pe_tup (pa_cons (pe_str) (pa_cons (pv 4) pa_nil))))) pss_nil)
      (pss_one (ps_ret (pe_tup (pa_cons (pe_str) (pa_cons (pe_callTy (Xk.k_tuple (K := K) (by rfl)) (by rfl) T.m_tuple (by decide +kernel) (pa_cons (pe_lc (own := [("deed", 7)]) (g := gName 7) (tt := tYes) rfl sc_do_deal.nd  (pi_tup (pv 3)) (blkOk_by (N := N_do_deal) (sc := defScope s_do_deal) (own := [("deed", 7)]) (by decide +kernel)) (fun _ _ _ _ _ => pg_name (i := 7) sc_do_deal.nd rfl (Or.inl rfl)) (fun _ _ _ _ _ => pts_nil) (fun _ _ _ _ _ => (pe_call (ok_apply_deed T) (hr.mono (by decide)) (by rfl) T.g_apply_deed T.F_apply_deed.kp T.b_apply_deed .nil pass0 (pa_cons (pv 0) (pa_cons (pv 7) pa_nil))))) pa_nil)) pa_nil)))))))), ?_⟩
  obtain ⟨pc, pd', h1, h2, h3⟩ := hD.tp
  have few := hkv.few
  wtm_at "x0"
  wtm_at "xs"
  refine Xk.x_lcT (xs := C.map fun e => V.ref e.1) (fun Dl i H' => Same H H' ∧ H' Dl = some (.lst ((C.take i).map fun e => gv kvs e.2.1))) (Xk.st_of h2) ?_ ?_ ?_ ?_
  · intro Dl hDl
    exact ⟨Xk.same_fr hDl, upd_same⟩
  · rintro Dl i H' hDl ⟨s2, _⟩
    exact Xk.st_of (s2 _ _ h2)
  · rintro Dl hDl i x H' hi ⟨s2, hb⟩
    obtain ⟨e, he, rfl⟩ := Xk.of_map_at hi
    have he2 := s2 _ _ (hD.ck e (List.mem_of_getElem? he))
    have hr2 := s2 _ _ hr0
    have sz : ((C.take i).map fun e => gv kvs e.2.1).length < sizeLine := Xk.size_lt (by have := hD.cl; simp only [List.length_map, List.length_take]; omega)
    wtm_at "xs"
    refine ⟨rfl, ?_⟩
    wtm_at "xs"
    refine ⟨_, hb, sz, by wtm_at "sm", ?_⟩
    rw [upd_same, List.take_add_one, he, List.map_append]
    rfl
  · rintro Dl H1 hDl ⟨s1, hb⟩
    rw [List.take_of_length_le (by rw [List.length_map]; exact Nat.le_refl _)] at hb
    have hD1 := hD.same s1
    have hr1 := s1 _ _ hr0
    have h21 := s1 _ _ h2
    have h31 := s1 _ _ h3
    clear h1 h2 h3
    wtm_at "xs"
    intro t1 H2 ht1 s2 hv1
    have hD2 := hD1.same s2
    have h22 := s2 _ _ h21
    have h32 := s2 _ _ h31
    have hr2 := s2 _ _ hr1
    clear hb h21 h31
    wtm_at "xs"
    refine Xk.x_nocut ?_
    wtm_at "xs"
    refine Xk.x_lcT (xs := C.map fun e => V.ref e.1) (fun Dl i H' => Same H2 H' ∧ H' Dl = some (.lst ((C.take i).map fun e => e.2.2))) (Xk.st_of h22) ?_ ?_ ?_ ?_
    · intro Dl hDl
      exact ⟨Xk.same_fr hDl, upd_same⟩
    · rintro Dl i H' hDl ⟨s2, _⟩
      exact Xk.st_of (s2 _ _ h22)
    · rintro Dl hDl i x H' hi ⟨s3, hb⟩
      obtain ⟨e, he, rfl⟩ := Xk.of_map_at hi
      have he2 := s3 _ _ (hD2.ck e (List.mem_of_getElem? he))
      have sz : ((C.take i).map fun e => e.2.2).length < sizeLine := Xk.size_lt (by have := hD.cl; simp only [List.length_map, List.length_take]; omega)
      wtm_at "xs"
      refine ⟨rfl, ?_⟩
      wtm_at "xs"
      refine ⟨_, hb, sz, by wtm_at "sm", ?_⟩
      rw [upd_same, List.take_add_one, he, List.map_append]
      rfl
    · rintro Dl H3 hDl2 ⟨s3, hb⟩
      rw [List.take_of_length_le (by rw [List.length_map]; exact Nat.le_refl _)] at hb
      wtm_at "xs"
      intro t2 H4 ht2 s4 hv2
      have s24 := s3.trans s4
      have hv14 := s24 _ _ hv1
      have hD4 := hD2.same s24
      have hr4 := s24 _ _ hr2
      have h34 := s24 _ _ h32
      have s04 := s1.trans (s2.trans s24)
      have f1 : Xk.Fr t1 H := Xk.free_back ht1 s1
      clear hb hv1 h22 h32 s1 s2 s3 s4 s24 hDl hDl2 hr1 hr2 hD1 hD2 ht1 hr0
      refine x_neFvs (Xk.st_of hv14) (Xk.st_of hv2) ?_ ?_ ?_
      · intro v hv
        obtain ⟨e, he, rfl⟩ := List.mem_map.mp hv
        exact gv_fv hkv _
      · intro v hv
        obtain ⟨e, he, rfl⟩ := List.mem_map.mp hv
        exact hD.fv e he
      have eh : held kvs (C.map (·.2)) = decide (C.map (fun e => gv kvs e.2.1) = C.map fun e => e.2.2) := by
        unfold held
        rw [List.map_map, List.map_map]
        rfl
      wtm_at "xs"
      refine Xk.x_itn (fun h5 => ?_) (fun h5 => ?_)
      · have e2 : dealW kvs (C.map (·.2)) (D.map (·.2)) = (kvs, ("unheld" : Str), C.map fun e => gv kvs e.2.1) := by
          unfold dealW
          rw [eh, decide_eq_false h5, if_neg (by simp), List.map_map]
          rfl
        rw [e2] at q
        wtm_at "xs"
        intro p5 H5 hp5 s5 h5'
        have hr5 := s5 _ _ hr4
        exact q H5 p5 t1 (Xk.but_same (s04.trans s5)) (Xk.free_back hp5 s04) f1 hr5 h5' (s5 _ _ hv14)
      · have e2 : dealW kvs (C.map (·.2)) (D.map (·.2)) = ((doAll kvs (D.map (·.2))).1, ("done" : Str), (doAll kvs (D.map (·.2))).2) := by
          unfold dealW
          rw [eh, decide_eq_true h5, if_pos rfl]
        rw [e2] at q
        wtm_at "xs"
        refine Xk.x_lcT (xs := D.map fun e => V.ref e.1) (fun Dl i H' => Xk.But r H4 H' ∧ H' r = some (.dK (doAll kvs ((D.take i).map (·.2))).1) ∧ H' Dl = some (.lst (doAll kvs ((D.take i).map (·.2))).2)) (Xk.st_of h34) ?_ ?_ ?_ ?_
        · intro Dl hDl
          exact ⟨Xk.but_new (Xk.But.refl _ _) hDl, (upd_ne (Xk.ne_new hDl hr4)).trans hr4, upd_same⟩
        · rintro Dl i H' hDl ⟨s3, _⟩
          exact Xk.st_of (but_tup s3 hr4 h34)
        · rintro Dl hDl i x H' hi ⟨b3, hr5, hb⟩
          obtain ⟨e, he, rfl⟩ := Xk.of_map_at hi
          have he2 := but_tup b3 hr4 (hD4.dd e (List.mem_of_getElem? he))
          have hok : ∀ d ∈ (D.take i).map (·.2), Dd.ok d ∧ d.key ∈ ks := fun d hd => by
            obtain ⟨e', he', rfl⟩ := List.mem_map.mp hd
            have := List.mem_of_mem_take he'
            exact ⟨hD.ok _ this, hk _ this⟩
          have hA := doAll_ok _ kvs hkv hok
          have hf := hA.1.few
          have hDl' := hD.dl
          have sz : (doAll kvs ((D.take i).map (·.2))).2.length < sizeLine := Xk.size_lt (by rw [hA.2.2]; simp only [List.length_map, List.length_take]; omega)
          have nDl : Dl ≠ r := (Xk.ne_new hDl hr4).symm
          wtm_at "xs"
          refine ⟨rfl, ?_⟩
          wtm_at "xs"
          refine ⟨r, e.1, _, e.2, rfl, hr5, he2, fun k v e => hA.1.val e, by omega, hD.ok _ (List.mem_of_getElem? he), fun H6 b6 hr6 => ?_⟩
          refine ⟨_, Xk.but_at b6 nDl hb, sz, ?_, ?_, ?_⟩
          · exact fun b o n h => (upd_ne (Xk.ne_new hDl h)).trans (b6 b o n (b3 b o n h))
          · rw [upd_ne nDl.symm, hr6, List.take_add_one, he]
            show _ = some (HO.dK (doAll kvs (((D.take i) ++ [e]).map (·.2))).1)
            rw [List.map_append, List.map_singleton, doAll_snoc]
          · rw [upd_same, List.take_add_one, he]
            show _ = some (HO.lst (doAll kvs (((D.take i) ++ [e]).map (·.2))).2)
            rw [List.map_append, List.map_singleton, doAll_snoc]
        · rintro Dl H5 hDl ⟨b5, hr5, hb⟩
          rw [List.take_of_length_le (by rw [List.length_map]; exact Nat.le_refl _)] at hb hr5
          wtm_at "xs"
          intro t3 H6 ht3 s6 hv3
          wtm_at "xs"
          intro p7 H7 hp7 s7 h7
          have b7 : Xk.But r H H7 := Xk.but_trans (Xk.but_same s04) (Xk.but_trans b5 (Xk.but_same (s6.trans s7)))
          have hr6 := s6 _ _ hr5
          exact q H7 p7 t3 b7 (fr_but hp7 (Xk.but_trans (Xk.but_same s04) (Xk.but_trans b5 (Xk.but_same s6))) hr6) (fr_but ht3 (Xk.but_trans (Xk.but_same s04) b5) hr5) (s7 _ _ hr6) h7 (s7 _ _ hv3)
--CUT--
def sp__law_deal_done (K : PySem.W.Frag) : Sp := fun vs H Q _ => ∃ r p kvs C D ks, vs = [.ref r, .ref p] ∧ H r = some (.dK kvs) ∧ KvOk ks kvs ∧ ks.length ≤ 100 ∧ DlAt H p C D ∧ (∀ e ∈ D, e.2.key ∈ ks) ∧
  ∀ H' q t, Xk.But r H H' → Xk.Fr q H → Xk.Fr t H → H' r = some (.dK (dealW kvs (C.map (·.2)) (D.map (·.2))).1) → H' q = some (.tup [.str (dealW kvs (C.map (·.2)) (D.map (·.2))).2.1, .ref t]) → H' t = some (.tup (dealW kvs (C.map (·.2)) (D.map (·.2))).2.2) → Q (.ref q) H'
theorem ok__law_deal_done (T : Txt K mg) : FnOk P w K mg base CX0 2 T.f__law_deal_done T.d__law_deal_done ["rows", "deal"] (sp__law_deal_done K) := by
  refine T.F__law_deal_done.ok sc__law_deal_done (fun vs H Q E h => ?_) (fun cdv A outer s H vs Q E hr h => ?_)
  · obtain ⟨r, p, kvs, C, D, ks, rfl, _⟩ := h
    rfl
  obtain ⟨r, p, kvs, C, D, ks, rfl, hr0, hkv, hkl, hD, hk, q⟩ := h
  refine ⟨_, (pss_cons (ps_set (i := 2) sc__law_deal_done.nd rfl (Or.inl rfl) (pe_lst pa_nil))
      (pss_cons (ps_set (i := 3) sc__law_deal_done.nd rfl (Or.inl rfl) (pe_bl))
      (pss_cons (ps_for PassesOwn.never rfl (pi_tup (pe_ix (Xk.k_ixT (K := K) (by rfl)) (pv 1) (pe_int) (fun _ _ => rfl))) (pg_tup rfl (pgs_cons (pg_name (i := 4) sc__law_deal_done.nd rfl (Or.inl rfl)) (pgs_cons (pg_name (i := 5) sc__law_deal_done.nd rfl (Or.inl rfl)) pgs_nil))) (pss_cons (ps_expr (pe_bm PySem.F.plainAttrs_list PySem.F.slot_list_append PySem.F.type_list_append mt_append (pv 2) (pa_cons (pe_dget1 (hu_of hr) (pv 0) (pv 4) ⟨by rfl, by rfl, by rfl, by rfl⟩) pa_nil)))
      (pss_one (ps_set (i := 3) sc__law_deal_done.nd rfl (Or.inl rfl) ((pe_and (pv 3) (pe_one (pe_cmpR (Xk.k_eqD (K := K) hr.units (by rfl)) (pe_dget1 (hu_of hr) (pv 0) (pv 4) ⟨by rfl, by rfl, by rfl, by rfl⟩) (pv 5) (nomark _)))))))))
      (Evl.pss_cut (ps_if (pt_not (pt_val (pv 3))) (pss_one (ps_ret (pe_tup (pa_cons (pe_str) (pa_cons (pe_callTy (Xk.k_tuple (K := K) (by rfl)) (by rfl) T.m_tuple (by decide +kernel) (pa_cons (pv 2) pa_nil)) pa_nil))))) pss_nil)
      (pss_cons (ps_set (i := 6) sc__law_deal_done.nd rfl (Or.inl rfl) (pe_lst pa_nil))
      (pss_cons (ps_for PassesOwn.never rfl (pi_tup (pe_ix (Xk.k_ixT (K := K) (by rfl)) (pv 1) (pe_int) (fun _ _ => rfl))) (pg_name (i := 7) sc__law_deal_done.nd rfl (Or.inl rfl)) (pss_one (ps_expr (pe_bm PySem.F.plainAttrs_list PySem.F.slot_list_append PySem.F.type_list_append mt_append (pv 6) (pa_cons (pe_call (ok__law_done T) (hr.mono (by decide)) (by rfl) T.g__law_done T.F__law_done.kp T.b__law_done .nil pass0 (pa_cons (pv 0) (pa_cons (pv 7) pa_nil))) pa_nil)))))
      (pss_one (ps_ret (pe_tup (pa_cons (pe_str) (pa_cons (pe_callTy (Xk.k_tuple (K := K) (by rfl)) (by rfl) T.m_tuple (by decide +kernel) (pa_cons (pv 6) pa_nil)) pa_nil))))))))))), ?_⟩
  obtain ⟨pc, pd', h1, h2, h3⟩ := hD.tp
  have few := hkv.few
  wtm_at "x0"
  wtm_at "xs"
  intro vp H1 hvp s1 hv0
  have h11 := s1 _ _ h1
  have h21 := s1 _ _ h2
  have h31 := s1 _ _ h3
  wtm_at "xs"
  refine Xk.x_forT (xs := C.map fun e => V.ref e.1) (fun i σ' H' => ∃ y4 y5, σ' = [some (.ref r), some (.ref p), some (.ref vp), some (.bl (decide ((C.take i).map (fun e => gv kvs e.2.1) = (C.take i).map (fun e => e.2.2)))), y4, y5, none, none] ∧ Same H H' ∧ H' vp = some (.lst ((C.take i).map fun e => gv kvs e.2.1))) (Xk.st_of h21)
    ⟨_, _, rfl, s1, hv0⟩ ?_ ?_ ?_
  · rintro i σ' H' hi ⟨y4, y5, rfl, s2, hv2⟩
    exact Xk.st_of (s2 _ _ h2)
  · rintro i x σ' H' hi ⟨y4, y5, rfl, s2, hv2⟩
    obtain ⟨e, he, rfl⟩ := Xk.of_map_at hi
    have hem := List.mem_of_getElem? he
    have he2 := s2 _ _ (hD.ck e hem)
    have hr2 := s2 _ _ hr0
    have nrv : r ≠ vp := Xk.ne_new hvp hr0
    have sz : ((C.take i).map fun e => gv kvs e.2.1).length < 100000 := by
      have := hD.cl
      simp only [List.length_map, List.length_take]
      omega
    have ed : decide ((C.take (i + 1)).map (fun e => gv kvs e.2.1) = (C.take (i + 1)).map (fun e => e.2.2)) = (decide ((C.take i).map (fun e => gv kvs e.2.1) = (C.take i).map (fun e => e.2.2)) && decide (gv kvs e.2.1 = e.2.2)) := by
      rw [List.take_add_one, he, List.map_append, List.map_append]
      exact dec_snoc (by simp)
    have ev : (C.take (i + 1)).map (fun e => gv kvs e.2.1) = (C.take i).map (fun e => gv kvs e.2.1) ++ [gv kvs e.2.1] := by
      rw [List.take_add_one, he, List.map_append]
      rfl
    rw [ed, ev]
    wtm_at "xs"
    refine Xk.x_itd (fun h => ?_) (fun h => ?_)
    · wtm_at "xs"
      refine x_eqFv (gv_fv hkv _) (hD.fv e hem) ?_
      refine ⟨some (.str e.2.1), some e.2.2, ?_, Xk.same_mut s2 hvp, upd_same⟩
      rw [decide_eq_true h, Bool.true_and]
      rfl
    · refine ⟨some (.str e.2.1), some e.2.2, ?_, Xk.same_mut s2 hvp, upd_same⟩
      rw [decide_eq_false h, Bool.false_and]
  · rintro σ' H' ⟨y4, y5, rfl, s2, hv2⟩
    rw [List.take_of_length_le (by rw [List.length_map]; exact Nat.le_refl _)] at hv2 ⊢
    have eh : held kvs (C.map (·.2)) = decide (C.map (fun e => gv kvs e.2.1) = C.map fun e => e.2.2) := by
      unfold held
      rw [List.map_map, List.map_map]
      rfl
    refine Xk.x_nocut ?_
    wtm_at "xs"
    refine Xk.x_itn (fun h5 => ?_) (fun h5 => ?_)
    · have e2 : dealW kvs (C.map (·.2)) (D.map (·.2)) = (kvs, ("unheld" : Str), C.map fun e => gv kvs e.2.1) := by
        unfold dealW
        rw [eh, decide_eq_false h5, if_neg (by simp), List.map_map]
        rfl
      rw [e2] at q
      wtm_at "xs"
      intro t1 H2 ht1 s3 hv1
      wtm_at "xs"
      intro p5 H5 hp5 s5 h5'
      exact q H5 p5 t1 (Xk.but_same (s2.trans (s3.trans s5))) (Xk.free_back hp5 (s2.trans s3)) (Xk.free_back ht1 s2) ((s3.trans s5) _ _ (s2 _ _ hr0)) h5' (s5 _ _ hv1)
    · have e2 : dealW kvs (C.map (·.2)) (D.map (·.2)) = ((doAll kvs (D.map (·.2))).1, ("done" : Str), (doAll kvs (D.map (·.2))).2) := by
        unfold dealW
        rw [eh, decide_eq_true h5, if_pos rfl]
      rw [e2] at q
      have h12 := s2 _ _ h1
      wtm_at "xs"
      intro ap H2 hap s3 ha0
      have h13 := s3 _ _ h12
      have s23 := s2.trans s3
      have fap : Xk.Fr ap H := Xk.free_back hap s2
      have nap : ap ≠ r := (Xk.ne_new fap hr0).symm
      wtm_at "xs"
      refine Xk.x_forT (xs := D.map fun e => V.ref e.1) (fun i σ' H' => ∃ y3 y7, σ' = [some (.ref r), some (.ref p), some (.ref vp), y3, y4, y5, some (.ref ap), y7] ∧ Xk.But r H H' ∧ H' r = some (.dK (doAll kvs ((D.take i).map (·.2))).1) ∧ H' ap = some (.lst (doAll kvs ((D.take i).map (·.2))).2)) (Xk.st_of (s23 _ _ h3))
        ⟨_, _, rfl, Xk.but_same s23, s23 _ _ hr0, ha0⟩ ?_ ?_ ?_
      · rintro i σ' H' hi ⟨y3, y7, rfl, b3, _⟩
        exact Xk.st_of (but_tup b3 hr0 h3)
      · rintro i x σ' H' hi ⟨y3, y7, rfl, b3, hr5, hb⟩
        obtain ⟨e, he, rfl⟩ := Xk.of_map_at hi
        have he2 := but_tup b3 hr0 (hD.dd e (List.mem_of_getElem? he))
        have hok : ∀ d ∈ (D.take i).map (·.2), Dd.ok d ∧ d.key ∈ ks := fun d hd => by
          obtain ⟨e', he', rfl⟩ := List.mem_map.mp hd
          have := List.mem_of_mem_take he'
          exact ⟨hD.ok _ this, hk _ this⟩
        have hA := doAll_ok _ kvs hkv hok
        have hf := hA.1.few
        have hDl' := hD.dl
        have sz : (doAll kvs ((D.take i).map (·.2))).2.length < 100000 := by
          rw [hA.2.2]
          simp only [List.length_map, List.length_take]
          omega
        wtm_at "xs"
        refine ⟨r, e.1, _, e.2, rfl, hr5, he2, fun k v e => hA.1.val e, by omega, hD.ok _ (List.mem_of_getElem? he), fun H6 b6 hr6 => ?_⟩
        have hb6 := Xk.but_at b6 nap hb
        have b06 := Xk.but_trans b3 b6
        wtm_at "xs"
        refine ⟨_, _, rfl, fun b o n h => (upd_ne (Xk.ne_new fap h)).trans (b06 b o n h), ?_, ?_⟩
        · rw [upd_ne nap.symm, hr6, List.take_add_one, he]
          show _ = some (HO.dK (doAll kvs (((D.take i) ++ [e]).map (·.2))).1)
          rw [List.map_append, List.map_singleton, doAll_snoc]
        · rw [upd_same, List.take_add_one, he]
          show _ = some (HO.lst (doAll kvs (((D.take i) ++ [e]).map (·.2))).2)
          rw [List.map_append, List.map_singleton, doAll_snoc]
      · rintro σ' H5 ⟨y3, y7, rfl, b5, hr5, hb⟩
        rw [List.take_of_length_le (by rw [List.length_map]; exact Nat.le_refl _)] at hb hr5
        wtm_at "xs"
        intro t3 H6 ht3 s6 hv3
        wtm_at "xs"
        intro p7 H7 hp7 s7 h7
        have b7 : Xk.But r H H7 := Xk.but_trans b5 (Xk.but_same (s6.trans s7))
        have hr6 := s6 _ _ hr5
        exact q H7 p7 t3 b7 (fr_but hp7 (Xk.but_trans b5 (Xk.but_same s6)) hr6) (fr_but ht3 b5 hr5) (s7 _ _ hr6) h7 (s7 _ _ hv3)
--CUT--
def sp__law_same_answer (K : PySem.W.Frag) : Sp := fun vs H Q _ => ∃ (p q : Addr) (t u : Addr) (w : Str) (xs : List V), vs = [.ref p, .ref q] ∧ H p = some (.tup [.str w, .ref t]) ∧ H q = some (.tup [.str w, .ref u]) ∧ H t = some (.tup xs) ∧ H u = some (.tup xs) ∧ (∀ v ∈ xs, FV v) ∧ xs.length ≤ 100 ∧ Q (.bl true) H
theorem ok__law_same_answer (T : Txt K mg) : FnOk P w K mg base CX0 2 T.f__law_same_answer T.d__law_same_answer ["actual", "due"] (sp__law_same_answer K) := by
  refine T.F__law_same_answer.ok sc__law_same_answer (fun vs H Q E h => ?_) (fun cdv A outer s H vs Q E hr h => ?_)
  · obtain ⟨p, q', t, u, w, xs, rfl, _⟩ := h
    rfl
  obtain ⟨p, q', t, u, w, xs, rfl, h1, h2, h3, h4, hf, hl, q⟩ := h
  refine ⟨_, (Evl.pss_cut (ps_if (PW.pt (pw_or (pt_not (pt_val (pe_callB (Xk.k_isi (K := K) (by rfl)) (by rfl) T.m_isinstance (by decide +kernel) (pa_cons (pv 0) (pa_cons (pe_bltn (v := .ty "tuple") (u := .type "tuple") (by rfl) T.m_tuple (by decide +kernel) Xk.rel_ty) pa_nil))))) (pw_or (pt_cmpR op_ne (pe_callB (Xk.k_len (K := K) (by rfl)) (by rfl) T.m_len PySem.boot_len (pa_cons (pv 0) pa_nil)) (pe_int) (nomark _)) (pw_or (pt_cmpR op_ne (pe_ix (Xk.k_ixT (K := K) (by rfl)) (pv 0) (pe_int) (fun _ _ => rfl)) (pe_ix (Xk.k_ixT (K := K) (by rfl)) (pv 1) (pe_int) (fun _ _ => rfl)) (nomark _)) (pw_or1 (pt_not (pt_val (pe_callB (Xk.k_isi (K := K) (by rfl)) (by rfl) T.m_isinstance (by decide +kernel) (pa_cons (pe_ix (Xk.k_ixT (K := K) (by rfl)) (pv 0) (pe_int) (fun _ _ => rfl)) (pa_cons (pe_bltn (v := .ty "tuple") (u := .type "tuple") (by rfl) T.m_tuple (by decide +kernel) Xk.rel_ty) pa_nil)))))))))) (pss_one (ps_ret (pe_bl))) pss_nil)
      (Evl.pss_cut (ps_if (pt_cmpR op_ne (pe_callB (Xk.k_len (K := K) (by rfl)) (by rfl) T.m_len PySem.boot_len (pa_cons (pe_ix (Xk.k_ixT (K := K) (by rfl)) (pv 0) (pe_int) (fun _ _ => rfl)) pa_nil)) (pe_callB (Xk.k_len (K := K) (by rfl)) (by rfl) T.m_len PySem.boot_len (pa_cons (pe_ix (Xk.k_ixT (K := K) (by rfl)) (pv 1) (pe_int) (fun _ _ => rfl)) pa_nil)) (nomark _)) (pss_one (ps_ret (pe_bl))) pss_nil)
      (pss_cons (ps_for PassesOwn.never rfl (pi_range1 (by rfl) T.m_range (pa_cons (pe_callB (Xk.k_len (K := K) (by rfl)) (by rfl) T.m_len PySem.boot_len (pa_cons (pe_ix (Xk.k_ixT (K := K) (by rfl)) (pv 1) (pe_int) (fun _ _ => rfl)) pa_nil)) pa_nil)) (pg_name (i := 2) sc__law_same_answer.nd rfl (Or.inl rfl)) (pss_one (ps_if (pt_not (pt_val (pe_call (ok__law_same T) (hr.mono (by decide)) (by rfl) T.g__law_same T.F__law_same.kp T.b__law_same .nil pass0 (pa_cons (pe_ix (Xk.k_ixT (K := K) (by rfl)) (pe_ix (Xk.k_ixT (K := K) (by rfl)) (pv 0) (pe_int) (fun _ _ => rfl)) (pv 2) (fun _ _ => rfl)) (pa_cons (pe_ix (Xk.k_ixT (K := K) (by rfl)) (pe_ix (Xk.k_ixT (K := K) (by rfl)) (pv 1) (pe_int) (fun _ _ => rfl)) (pv 2) (fun _ _ => rfl)) pa_nil))))) (pss_one (ps_ret (pe_bl))) pss_nil)))
      (pss_one (ps_ret (pe_bl)))))), ?_⟩
  wtm_at "x0"
  refine Xk.x_nocut ?_
  wtm_at "xs"
  refine Xk.x_nocut ?_
  wtm_at "xs"
  refine Xk.x_range (fun i σ' H' => H = H' ∧ ∃ y, σ' = [some (.ref p), some (.ref q'), y]) ⟨by omega, by omega⟩ ⟨rfl, _, rfl⟩ ?_ ?_
  · rintro i σ' H' hi ⟨rfl, y, rfl⟩
    obtain ⟨v, hv⟩ := Xk.lt_at (xs := xs) (j := i) (by omega)
    wtm_at "xs"
    refine ⟨v, rfl, hf v (List.mem_of_getElem? hv), ?_⟩
    wtm_at "xs"
    exact ⟨rfl, _, rfl⟩
  · rintro σ' H' ⟨rfl, y, rfl⟩
    wtm_at "xs"
    exact q
--CUT--
theorem doAll_iv : ∀ (l : List Dd) {kvs : Kvs}, Iv kvs → (∀ d ∈ l, d.ok ∧ ∀ k v, d = .put k v → isVal v = true) → Iv (doAll kvs l).1
  | [], kvs, h, _ => h
  | d :: r, kvs, h, hl => doAll_iv r (app_iv h (hl d (List.mem_cons_self ..)).1 (hl d (List.mem_cons_self ..)).2) fun x hx => hl x (List.mem_cons_of_mem _ hx)
theorem dealW_iv {kvs : Kvs} {cs : List Ck} {ds : List Dd} (h : Iv kvs) (hd : ∀ d ∈ ds, d.ok ∧ ∀ k v, d = .put k v → isVal v = true) : Iv (dealW kvs cs ds).1 := by
  unfold dealW
  split
  · exact doAll_iv ds h hd
  · exact h
theorem dealW_ok {ks : List Str} {kvs : Kvs} {cs : List Ck} {ds : List Dd} (h : KvOk ks kvs) (hd : ∀ d ∈ ds, d.ok ∧ d.key ∈ ks) (hc : cs.length ≤ 20) (hl : ds.length ≤ 20) :
    KvOk ks (dealW kvs cs ds).1 ∧ (∀ v ∈ (dealW kvs cs ds).2.2, FV v) ∧ (dealW kvs cs ds).2.2.length ≤ 100 := by
  unfold dealW
  by_cases e : held kvs cs = true
  · rw [if_pos e]
    have h2 := doAll_ok ds kvs h hd
    exact ⟨h2.1, h2.2.1, by show (doAll kvs ds).2.length ≤ 100; rw [h2.2.2]; omega⟩
  · rw [if_neg e]
    refine ⟨h, fun v hv => ?_, by show (cs.map _).length ≤ 100; rw [List.length_map]; omega⟩
    obtain ⟨c, hc, rfl⟩ := List.mem_map.mp hv
    exact gv_fv h _
--CUT--
def KeyOfD (C : List (Addr × Ck)) (D : List (Addr × Dd)) (t : Str) : Prop := (∃ e ∈ C, e.2.1 = t) ∨ ∃ e ∈ D, e.2.key = t
def sp_keys_of (K : PySem.W.Frag) : Sp := fun vs H Q _ => ∃ p C D, vs = [.ref p] ∧ DlAt H p C D ∧
  ∀ H' q (ts : List Str), Same H H' → H' q = some (.tup (ts.map V.str)) → sortedS ts = true → ts.Nodup → (∀ t, t ∈ ts ↔ KeyOfD C D t) → Q (.ref q) H'
theorem ok_keys_of (T : Txt K mg) : FnOk P w K mg base CX0 2 T.f_keys_of T.d_keys_of ["deal"] (sp_keys_of K) := by
  refine T.F_keys_of.ok sc_keys_of (fun vs H Q E h => ?_) (fun cdv A outer s H vs Q E hr h => ?_)
  · obtain ⟨p, C, D, rfl, _⟩ := h
    rfl
  obtain ⟨p, C, D, rfl, hD, q⟩ := h
  obtain ⟨pc, pd', h1, h2, h3⟩ := hD.tp
  refine ⟨_, (pss_cons (ps_asg (pv 0) (pg_tup rfl (pgs_cons (pg_name (i := 1) sc_keys_of.nd rfl (Or.inl rfl)) (pgs_cons (pg_name (i := 2) sc_keys_of.nd rfl (Or.inl rfl)) pgs_nil))))
      (pss_one (ps_ret (pe_callTy (Xk.k_tuple (K := K) (by rfl)) (by rfl) T.m_tuple (by decide +kernel) (pa_cons (pe_callB (Xk.k_sortedSetS (P := P) (w := w) rfl (by rfl) (by rfl)) (by rfl) T.m_sorted (by decide +kernel) (pa_cons (pe_callTy (Xk.k_setOfS (K := K) (P := P) (w := w) rfl (by rfl) (by rfl) (by rfl)) (by rfl) T.m_set (by decide +kernel) (pa_cons (pe_op op_cat (pe_lc (own := [("key", 3), ("value", 4)]) (g := gTup K 2 (gCons (gName 3) (gCons (gName 4) gNil))) (tt := tYes) rfl sc_keys_of.nd  (pi_tup (pv 1)) (blkOk_by (N := N_keys_of) (sc := defScope s_keys_of) (own := [("key", 3), ("value", 4)]) (by decide +kernel)) (fun _ _ _ _ _ => Xk.k_gtup (K := K) (by rfl) rfl (pgs_cons (pg_name (i := 3) sc_keys_of.nd rfl (Or.inl rfl)) (pgs_cons (pg_name (i := 4) sc_keys_of.nd rfl (Or.inl rfl)) pgs_nil))) (fun _ _ _ _ _ => pts_nil) (fun _ _ _ _ _ => (pv 3))) (pe_lc (own := [("deed", 5)]) (g := gName 5) (tt := tYes) rfl sc_keys_of.nd  (pi_tup (pv 2)) (blkOk_by (N := N_keys_of) (sc := defScope s_keys_of) (own := [("deed", 5)]) (by decide +kernel)) (fun _ _ _ _ _ => pg_name (i := 5) sc_keys_of.nd rfl (Or.inl rfl)) (fun _ _ _ _ _ => pts_nil) (fun _ _ _ _ _ => (pe_call (ok_key_of_deed T) (hr.mono (by decide)) (by rfl) T.g_key_of_deed T.F_key_of_deed.kp T.b_key_of_deed .nil pass0 (pa_cons (pv 5) pa_nil))))) pa_nil)) pa_nil)) pa_nil))))), ?_⟩
  wtm_at "x0"
  wtm_at "xs"
  refine Xk.x_lcT (xs := C.map fun e => V.ref e.1) (fun Dl i H' => Same H H' ∧ H' Dl = some (.lst (((C.take i).map (fun e => e.2.1)).map V.str))) (Xk.st_of h2) ?_ ?_ ?_ ?_
  · intro Dl hF
    exact ⟨Xk.same_fr hF, upd_same⟩
  · rintro Dl i H' hF ⟨s2, _⟩
    exact Xk.st_of (s2 _ _ h2)
  · rintro Dl hF i x H' hi ⟨s2, g⟩
    obtain ⟨e, he, rfl⟩ := Xk.of_map_at hi
    have hx := s2 _ _ (hD.ck e (List.mem_of_getElem? he))
    have cl := hD.cl
    wtm_at "xs"
    refine ⟨rfl, ?_⟩
    wtm_at "xs"
    refine ⟨_, g, Xk.size_lt (by simp only [List.length_map, List.length_take]; omega), Xk.same_mut s2 hF, ?_⟩
    rw [upd_same, List.take_add_one, he, List.map_append, List.map_append]
    rfl
  · rintro k1 H1 hk1 ⟨s1, g1⟩
    rw [List.length_map, List.take_length] at g1
    wtm_at "xs"
    refine Xk.x_lcT (xs := D.map fun e => V.ref e.1) (fun Dl i H' => Same H1 H' ∧ H' Dl = some (.lst (((D.take i).map (fun e => e.2.key)).map V.str))) (Xk.st_of (s1 _ _ h3)) ?_ ?_ ?_ ?_
    · intro Dl hF
      exact ⟨Xk.same_fr hF, upd_same⟩
    · rintro Dl i H' hF ⟨s2, _⟩
      exact Xk.st_of ((s1.trans s2) _ _ h3)
    · rintro Dl hF i x H' hi ⟨s2, g⟩
      obtain ⟨e, he, rfl⟩ := Xk.of_map_at hi
      have hx := (s1.trans s2) _ _ (hD.dd e (List.mem_of_getElem? he))
      have dl := hD.dl
      wtm_at "xs"
      refine ⟨rfl, ?_⟩
      wtm_at "xs"
      refine ⟨e.1, .str e.2.key, e.2.xs, rfl, Xk.st_of hx, by rw [Dd.xs_eq]; rfl, ?_⟩
      refine ⟨_, g, Xk.size_lt (by simp only [List.length_map, List.length_take]; omega), Xk.same_mut s2 hF, ?_⟩
      rw [upd_same, List.take_add_one, he, List.map_append, List.map_append]
      rfl
    · rintro k2 H2 hk2 ⟨s2, g2⟩
      rw [List.length_map, List.take_length] at g2
      have cl := hD.cl
      have dl := hD.dl
      wtm_at "xs"
      refine Xk.x_cat (s2 _ _ g1) g2 (by simp only [List.length_map]; omega) fun k3 H3 hk3 s3 g3 => ?_
      rw [← List.map_append] at g3
      wtm_at "xs"
      refine Xk.x_setOfS (Xk.sq_of g3) (by simp only [List.length_append, List.length_map]; omega) fun k4 H4 zs hk4 s4 g4 nd4 m4 l4 => ?_
      wtm_at "xs"
      refine Xk.x_sortedSetS g4 (by rw [List.length_append, List.length_map, List.length_map] at l4; omega) fun k5 H5 ys p5 o5 hk5 s5 g5 => ?_
      wtm_at "xs"
      intro k6 H6 hk6 s6 g6
      refine q H6 k6 ys (s1.trans (s2.trans (s3.trans (s4.trans (s5.trans s6))))) g6 o5 (p5.nodup_iff.mpr nd4) fun t => ?_
      rw [p5.mem_iff, m4, List.mem_append, List.mem_map, List.mem_map]
      rfl
--CUT--
theorem vok_some {v : V} (h : VOk v) : v ≠ .non := fun z => by
  subst z
  rcases h with ⟨i, e⟩ | ⟨s', e, _⟩ <;> cases e
theorem gv_some {ks : List Str} {a : Kvs} (h : KvOk ks a) (t : Str) : (if gv a t = .non then none else some (gv a t)) = valV a (Sum.inr t) := by
  unfold gv
  cases e : valV a (Sum.inr t) with
  | none => rfl
  | some v => exact if_neg (vok_some (h.val e))
theorem gv_val {ks : List Str} {a b : Kvs} (h : KvOk ks a) {ks2 : List Str} (h2 : KvOk ks2 b) {t : Str} (e : gv a t = gv b t) : valV a (Sum.inr t) = valV b (Sum.inr t) := by
  rw [← gv_some h, ← gv_some h2, e]
theorem val_wr1 (a : Kvs) (s : Str) (v : V) (t : Str) : valV (wr1 a (s, v)) (Sum.inr t) = if t = s then (if v = .non then none else some v) else valV a (Sum.inr t) := by
  unfold wr1
  by_cases e : t = s
  · subst e
    rw [if_pos rfl]
    by_cases hv : v = .non
    · rw [if_pos hv, if_pos hv]
      split
      · rw [val_drop, if_pos rfl]
      · rename_i hs
        cases hz : valV a (Sum.inr t) with
        | none => rfl
        | some u =>
          rw [show valV a (Sum.inr (t, v).1) = some u from hz] at hs
          exact absurd rfl hs
    · rw [if_neg hv, if_neg hv, valV_put, if_pos rfl]
  · have e2 : ¬ (Sum.inr t : Key) = Sum.inr s := fun z => e (Sum.inr.inj z)
    rw [if_neg e]
    by_cases hv : v = .non
    · rw [if_pos hv]
      split
      · rw [val_drop, if_neg e2]
      · rfl
    · rw [if_neg hv, valV_put, if_neg e2]
/-- what writing makes: what the deeds make -/
theorem wr_val {ks : List Str} {kvs K2 : Kvs} (hk : KvOk ks kvs) (h2 : KvOk ks K2) (t : Str) : ∀ (ts : List Str) (a : Kvs), ts.Nodup → (∀ s ∈ ts, valV a (Sum.inr s) = valV kvs (Sum.inr s)) → valV (wrAll a (writesOf kvs K2 ts)) (Sum.inr t) = if t ∈ ts then valV K2 (Sum.inr t) else valV a (Sum.inr t)
  | [], a, _, _ => rfl
  | s :: r, a, nd, ha => by
    obtain ⟨n1, n2⟩ := List.nodup_cons.mp nd
    by_cases c : gv K2 s = gv kvs s
    · have e1 : writesOf kvs K2 (s :: r) = writesOf kvs K2 r := by
        unfold writesOf
        rw [List.filter_cons, if_neg (by rw [decide_eq_true c]; decide)]
      rw [e1, wr_val hk h2 t r a n2 fun z hz => ha z (List.mem_cons_of_mem _ hz)]
      by_cases e : t = s
      · subst e
        rw [if_neg n1, if_pos (List.mem_cons_self ..), ha t (List.mem_cons_self ..)]
        exact (gv_val h2 hk c).symm
      · by_cases m : t ∈ r
        · rw [if_pos m, if_pos (List.mem_cons_of_mem _ m)]
        · rw [if_neg m, if_neg (fun z => (List.mem_cons.mp z).elim e m)]
    · have e1 : writesOf kvs K2 (s :: r) = (s, gv K2 s) :: writesOf kvs K2 r := by
        unfold writesOf
        rw [List.filter_cons, if_pos (by rw [decide_eq_false c]; rfl)]
        rfl
      rw [e1]
      show valV (wrAll (wr1 a (s, gv K2 s)) (writesOf kvs K2 r)) (Sum.inr t) = _
      rw [wr_val hk h2 t r _ n2 fun z hz => by
        rw [val_wr1, if_neg (fun y => n1 (by rw [← y]; exact hz))]
        exact ha z (List.mem_cons_of_mem _ hz), val_wr1]
      by_cases e : t = s
      · subst e
        rw [if_neg n1, if_pos rfl, if_pos (List.mem_cons_self ..)]
        exact gv_some h2 t
      · rw [if_neg e]
        by_cases m : t ∈ r
        · rw [if_pos m, if_pos (List.mem_cons_of_mem _ m)]
        · rw [if_neg m, if_neg (fun z => (List.mem_cons.mp z).elim e m)]
theorem wrAll_ok {ks : List Str} : ∀ (ws : List (Str × V)) {a : Kvs}, KvOk ks a → (∀ p ∈ ws, p.1 ∈ ks ∧ FV p.2) → KvOk ks (wrAll a ws)
  | [], _, h, _ => h
  | p :: r, a, h, hw => wrAll_ok r (wr1_ok h (hw p (List.mem_cons_self ..)).1 (hw p (List.mem_cons_self ..)).2) fun q hq => hw q (List.mem_cons_of_mem _ hq)
theorem alike_sub {ks : List Str} {a b : Kvs} (ha : KvOk ks a) (h : ∀ t, valV a (Sum.inr t) = valV b (Sum.inr t)) : ∀ k ∈ a.map (·.1), k ∈ b.map (·.1) := fun k hk => by
  obtain ⟨p, hp, rfl⟩ := List.mem_map.mp hk
  obtain ⟨⟨t, _, e⟩, _⟩ := ha.ok p hp
  have h1 := val_nodup ha.nd p hp
  rw [e, h t] at h1
  rw [e]
  exact List.mem_map.mpr ⟨_, val_mem h1, rfl⟩
theorem alike_len {ks : List Str} {a b : Kvs} (ha : KvOk ks a) (hb : KvOk ks b) (h : ∀ t, valV a (Sum.inr t) = valV b (Sum.inr t)) : a.length = b.length := by
  have h1 := ha.nd.length_le_of_subset (alike_sub ha h)
  have h2 := hb.nd.length_le_of_subset (alike_sub hb fun t => (h t).symm)
  rw [List.length_map, List.length_map] at h1 h2
  omega
--CUT--
theorem off_D {kvs : Kvs} {D : List DE} {t : Str} (h : ¬ ∃ e ∈ D, e.2.2.2.key = t) : valV (doAll kvs (ddOf D)).1 (Sum.inr t) = valV kvs (Sum.inr t) := by
  refine doAll_off _ fun d hd e => ?_
  obtain ⟨x, hx, rfl⟩ := List.mem_map.mp hd
  exact h ⟨x, hx, e⟩
theorem wrs_eq {kvs : Kvs} {C : List CE} {D : List DE} {ts ts' : List Str} (h1 : sortedS ts = true) (n1 : ts.Nodup) (m1 : ∀ t, t ∈ ts ↔ KeyOf C D t) (h2 : sortedS ts' = true) (n2 : ts'.Nodup) (m2 : ∀ t, t ∈ ts' ↔ ∃ e ∈ D, e.2.2.2.key = t) :
    writesOf kvs (doAll kvs (ddOf D)).1 ts = writesOf kvs (doAll kvs (ddOf D)).1 ts' := by
  unfold writesOf
  refine congrArg (List.map _) (srtS_eq ((List.perm_ext_iff_of_nodup (n1.filter _) (n2.filter _)).mpr fun t => ?_) (pair_srtS ((srtS_pair h1).filter _)) (pair_srtS ((srtS_pair h2).filter _)))
  rw [List.mem_filter, List.mem_filter]
  by_cases hd : ∃ e ∈ D, e.2.2.2.key = t
  · rw [eq_true ((m2 t).mpr hd), eq_true ((m1 t).mpr (.inr hd))]
  · have z : gv (doAll kvs (ddOf D)).1 t = gv kvs t := by
      unfold gv
      rw [off_D hd]
    rw [decide_eq_true z]
    exact ⟨fun y => Bool.noConfusion y.2, fun y => Bool.noConfusion y.2⟩
theorem ws_len {D : List DE} {ts' : List Str} (n2 : ts'.Nodup) (m2 : ∀ t, t ∈ ts' ↔ ∃ e ∈ D, e.2.2.2.key = t) (a b : Kvs) : (writesOf a b ts').length ≤ D.length := by
  have h1 := n2.length_le_of_subset (l₂ := D.map fun e => e.2.2.2.key) fun t ht => by
    obtain ⟨e, he, z⟩ := (m2 t).mp ht
    exact List.mem_map.mpr ⟨e, he, z⟩
  rw [List.length_map] at h1
  unfold writesOf
  rw [List.length_map]
  exact Nat.le_trans (List.length_filter_le ..) h1
theorem ws_in {ks : List Str} {D : List DE} {a b : Kvs} {ts' : List Str} (hb : KvOk ks b) (hD : ∀ e ∈ D, e.2.2.2.key ∈ ks) (m2 : ∀ t, t ∈ ts' ↔ ∃ e ∈ D, e.2.2.2.key = t) : ∀ p ∈ writesOf a b ts', p.1 ∈ ks ∧ FV p.2 := fun p hp => by
  obtain ⟨t, ht, rfl⟩ := List.mem_map.mp hp
  obtain ⟨e, he, z⟩ := (m2 t).mp (List.mem_filter.mp ht).1
  exact ⟨z ▸ hD e he, gv_fv hb t⟩
theorem wr_done {ks : List Str} {kvs : Kvs} (hk : KvOk ks kvs) {D : List DE} {ts' : List Str} (hk2 : KvOk ks (doAll kvs (ddOf D)).1) (n2 : ts'.Nodup) (m2 : ∀ t, t ∈ ts' ↔ ∃ e ∈ D, e.2.2.2.key = t) (t : Str) :
    valV (wrAll kvs (writesOf kvs (doAll kvs (ddOf D)).1 ts')) (Sum.inr t) = valV (doAll kvs (ddOf D)).1 (Sum.inr t) := by
  rw [wr_val hk hk2 t ts' kvs n2 fun _ _ => rfl]
  by_cases m : t ∈ ts'
  · rw [if_pos m]
  · rw [if_neg m, off_D fun z => m ((m2 t).mpr z)]
theorem alike_all {ks : List Str} {a b : Kvs} (ha : KvOk ks a) (h : ∀ t, valV a (Sum.inr t) = valV b (Sum.inr t)) : ∀ p ∈ a, valV b p.1 = some p.2 ∧ flatB p.2 = true := fun p hp => by
  obtain ⟨⟨t, _, e⟩, v⟩ := ha.ok p hp
  have h1 := val_nodup ha.nd p hp
  rw [e, h t] at h1
  rw [e]
  exact ⟨h1, vok_flat v⟩
theorem alike_iv {ks : List Str} {a b : Kvs} (ha : KvOk ks a) (h : ∀ t, valV a (Sum.inr t) = valV b (Sum.inr t)) (hb : Iv b) : Iv a := fun p hp => hb (p.1, p.2) (val_mem (alike_all ha h p hp).1)
theorem fv_of {α : Type} {es : List (Addr × α × V)} {ps : List (α × V)} (h : es.map (·.2) = ps) (hp : ∀ p ∈ ps, FV p.2) : ∀ e ∈ es, FV e.2.2 := fun e he => hp e.2 (h ▸ List.mem_map_of_mem (f := fun e : Addr × α × V => e.2) he)
theorem zip_fv {xs : List Nat} {vs : List V} (h : ∀ v ∈ vs, FV v) : ∀ p ∈ xs.zip vs, FV p.2 := fun p hp => h _ (List.of_mem_zip hp).2
--CUT--
theorem k_sortedD {X : Cx} (h : X.calm = true) : CallR X (.builtin "sorted") rSortD := call_sortedD h
theorem x_rSortD {a : Addr} {H : Hp} {Q : VK} {kvs : Kvs} {ts : List Str} (h : H a = some (.dK kvs)) (e : kvs.map (·.1) = ts.map Sum.inr) (hl : ts.length < 64)
    (q : ∀ p H2 ys, ys.Perm ts → sortedS ys = true → Xk.Fr p H → Same H H2 → H2 p = some (.lst (ys.map V.str)) → Q (.ref p) H2) : rSortD [.ref a] H Q :=
  ⟨a, kvs, ts, rfl, .inl h, e, hl, fun ys p h1 h2 h3 => q p _ ys h1 h2 ⟨h3⟩ (Xk.same_new h3) upd_same⟩
theorem nodup_inr : ∀ {u : List Str}, (u.map (Sum.inr : Str → Key)).Nodup → u.Nodup
  | [], _ => .nil
  | x :: r, h => by
    obtain ⟨h1, h2⟩ := List.nodup_cons.mp h
    exact List.nodup_cons.mpr ⟨fun z => h1 (List.mem_map_of_mem z), nodup_inr h2⟩
theorem keys_perm {ks : List Str} {a b : Kvs} (ha : KvOk ks a) (hb : KvOk ks b) (h : ∀ t, valV a (Sum.inr t) = valV b (Sum.inr t)) {u v : List Str} (hu : a.map (·.1) = u.map Sum.inr) (hv : b.map (·.1) = v.map Sum.inr) : u.Perm v := by
  have n1 : u.Nodup := by
    have z := ha.nd
    rw [hu] at z
    exact nodup_inr z
  have n2 : v.Nodup := by
    have z := hb.nd
    rw [hv] at z
    exact nodup_inr z
  refine (List.perm_ext_iff_of_nodup n1 n2).mpr fun t => ⟨fun m => ?_, fun m => ?_⟩
  · have z := alike_sub ha h (Sum.inr t) (by rw [hu]; exact List.mem_map_of_mem m)
    rw [hv] at z
    obtain ⟨x, hx, e⟩ := List.mem_map.mp z
    cases e
    exact hx
  · have z := alike_sub hb (fun t => (h t).symm) (Sum.inr t) (by rw [hv]; exact List.mem_map_of_mem m)
    rw [hu] at z
    obtain ⟨x, hx, e⟩ := List.mem_map.mp z
    cases e
    exact hx
theorem part_put {D : List (Addr × Dd)} {D' : List DE} {f : Str → Bool} (e2 : dsOf D' = sel Dd.key f (D.map (·.2))) (h : ∀ e ∈ D, ∀ k v, e.2 = .put k v → isVal v = true) : ∀ x ∈ D', ∀ k v, x.2.2.2 = .put k v → isVal v = true := fun x hx k v hk => by
  have m : (x.2.1, x.2.2.2) ∈ dsOf D' := List.mem_map_of_mem (f := fun e : DE => (e.2.1, e.2.2.2)) hx
  rw [e2] at m
  obtain ⟨e', he', hh⟩ := List.mem_map.mp (sel_mem m).1
  exact h e' he' k v (hh.trans hk)
theorem KvOk.wide {ks ks2 : List Str} {a : Kvs} (h : KvOk ks a) (hs : ∀ t ∈ ks, t ∈ ks2) : KvOk ks2 a := ⟨h.nd, fun p hp => by
  obtain ⟨⟨k, hk, e⟩, v⟩ := h.ok p hp
  exact ⟨⟨k, hs k hk, e⟩, v⟩⟩
--CUT--
/-! ### the deal and its parts -/
def selS {α : Type} (s : Nat) (k : α → Str) (f : Str → Bool) (xs : List α) : List (Nat × α) := ((xs.zipIdx s).filter fun p => f (k p.1)).map fun p => (p.2, p.1)
theorem selS_nil {α : Type} {s : Nat} {k : α → Str} {f : Str → Bool} : selS s k f [] = [] := rfl
theorem selS_cons {α : Type} {s : Nat} {k : α → Str} {f : Str → Bool} (x : α) (xs : List α) : selS s k f (x :: xs) = (if f (k x) = true then [(s, x)] else []) ++ selS (s + 1) k f xs := by
  unfold selS
  rw [List.zipIdx_cons, List.filter_cons]
  by_cases h : f (k x) = true
  · rw [if_pos h, if_pos h]
    rfl
  · rw [if_neg h, if_neg h]
    rfl
theorem sel_eq {α : Type} {k : α → Str} {f : Str → Bool} {xs : List α} : sel k f xs = selS 0 k f xs := rfl
/-- answers of a part, and what it leaves -/
theorem part_ans {zs : List Str} : ∀ (ds : List Dd) (s : Nat) {a b : Kvs}, Ag zs a b →
    Ag zs (doAll a ((selS s Dd.key (inB zs) ds).map (·.2))).1 (doAll b ds).1 ∧
    ((selS s Dd.key (inB zs) ds).map (·.1)).zip (doAll a ((selS s Dd.key (inB zs) ds).map (·.2))).2 = (selS s (fun p : Dd × V => p.1.key) (inB zs) (ds.zip (doAll b ds).2)).map fun e => (e.1, e.2.2)
  | [], s, a, b, h => ⟨h, rfl⟩
  | d :: r, s, a, b, h => by
    have e0 : (d :: r).zip (doAll b (d :: r)).2 = (d, (app b d).2) :: r.zip (doAll (app b d).1 r).2 := rfl
    rw [e0, selS_cons, selS_cons]
    by_cases hk : d.key ∈ zs
    · have hb : inB zs d.key = true := decide_eq_true hk
      have h1 := app_ag h hk
      have h2 := part_ans r (s + 1) h1.1
      rw [if_pos hb, if_pos hb]
      refine ⟨h2.1, ?_⟩
      show (s, (app a d).2) :: (((selS (s + 1) Dd.key (inB zs) r).map (·.1)).zip (doAll (app a d).1 ((selS (s + 1) Dd.key (inB zs) r).map (·.2))).2) = (s, (app b d).2) :: _
      rw [h2.2, h1.2]
      rfl
    · have hb : ¬ inB zs d.key = true := fun z => hk (of_decide_eq_true z)
      have h1 : Ag zs a (app b d).1 := fun t ht => by
        rw [h t ht, app_off fun z => hk (z ▸ ht)]
      have h2 := part_ans r (s + 1) h1
      rw [if_neg hb, if_neg hb]
      exact h2
/-- one of the sets has a key -/
theorem one_of {β : Type} {t : Str} {e : β} : ∀ {zss : List (List Str)}, zss.flatten.Nodup → t ∈ zss.flatten → (zss.flatMap fun zs => if inB zs t = true then [e] else []) = [e]
  | [], _, h => by cases h
  | zs :: r, nd, h => by
    rw [List.flatten_cons] at nd h
    obtain ⟨n1, n2, n3⟩ := List.nodup_append.mp nd
    rw [List.flatMap_cons]
    by_cases hz : t ∈ zs
    · have e0 : ∀ {r : List (List Str)}, t ∉ r.flatten → (r.flatMap fun zs => if inB zs t = true then [e] else []) = [] := fun {r} hr => by
        rw [List.flatMap_eq_nil_iff]
        intro u hu
        rw [if_neg (show ¬ inB u t = true from fun z => hr (List.mem_flatten.mpr ⟨u, hu, of_decide_eq_true z⟩))]
      rw [if_pos (show inB zs t = true from decide_eq_true hz), e0 (fun z => n3 t hz t z rfl)]
      rfl
    · have hr : t ∈ r.flatten := (List.mem_append.mp h).elim (fun z => absurd z hz) id
      rw [if_neg (show ¬ inB zs t = true from fun z => hz (of_decide_eq_true z)), one_of n2 hr]
      rfl
theorem flat_app {α β : Type} (f g : α → List β) : ∀ l : List α, (l.flatMap fun a => f a ++ g a).Perm (l.flatMap f ++ l.flatMap g)
  | [] => List.Perm.refl _
  | a :: l => by
    rw [List.flatMap_cons, List.flatMap_cons, List.flatMap_cons]
    have h := flat_app f g l
    refine (List.Perm.append_left _ h).trans ?_
    rw [List.append_assoc, List.append_assoc]
    refine List.Perm.append_left _ ?_
    rw [← List.append_assoc, ← List.append_assoc]
    exact List.Perm.append_right _ List.perm_append_comm
/-- the parts together -/
theorem parts_all {α : Type} {k : α → Str} {zss : List (List Str)} (nd : zss.flatten.Nodup) : ∀ (xs : List α) (s : Nat), (∀ x ∈ xs, k x ∈ zss.flatten) → (zss.flatMap fun zs => selS s k (inB zs) xs).Perm ((xs.zipIdx s).map fun p => (p.2, p.1))
  | [], s, _ => by
    have e : (zss.flatMap fun zs => selS s k (inB zs) ([] : List α)) = [] := by
      rw [List.flatMap_eq_nil_iff]
      intro u _
      rfl
    rw [e]
    exact List.Perm.refl _
  | x :: xs, s, h => by
    have e : (zss.flatMap fun zs => selS s k (inB zs) (x :: xs)) = zss.flatMap fun zs => (if inB zs (k x) = true then [(s, x)] else []) ++ selS (s + 1) k (inB zs) xs := by
      congr 1
      funext zs
      exact selS_cons x xs
    rw [e]
    refine (flat_app _ _ _).trans ?_
    rw [one_of nd (h x (List.mem_cons_self ..)), List.zipIdx_cons, List.map_cons]
    exact List.Perm.cons _ (parts_all nd xs (s + 1) fun y hy => h y (List.mem_cons_of_mem _ hy))
/-- the one list with these places -/
theorem perm_lt {β : Type} : ∀ {l m : List (Nat × β)}, l.Perm m → l.Pairwise (fun a b => a.1 ≤ b.1) → m.Pairwise (fun a b => a.1 < b.1) → l = m
  | [], m, h, _, _ => (List.Perm.eq_nil h.symm).symm
  | x :: l, [], h, _, _ => absurd h.length_eq (by simp)
  | x :: l, y :: m, h, h1, h2 => by
    obtain ⟨a1, a2⟩ := List.pairwise_cons.mp h1
    obtain ⟨b1, b2⟩ := List.pairwise_cons.mp h2
    rcases List.mem_cons.mp (h.mem_iff.mp (List.mem_cons_self (a := x) (l := l))) with e | hx
    · subst e
      rw [perm_lt (List.Perm.cons_inv h) a2 b2]
    · rcases List.mem_cons.mp (h.mem_iff.mpr (List.mem_cons_self (a := y) (l := m))) with e | hy
      · subst e
        rw [perm_lt (List.Perm.cons_inv h) a2 b2]
      · have := b1 x hx
        have := a1 y hy
        omega
theorem idx_lt {β : Type} : ∀ (xs : List β) (s : Nat), ((xs.zipIdx s).map fun p => (p.2, p.1)).Pairwise (fun a b : Nat × β => a.1 < b.1)
  | [], _ => .nil
  | x :: xs, s => by
    rw [List.zipIdx_cons, List.map_cons, List.pairwise_cons]
    refine ⟨fun e he => ?_, idx_lt xs (s + 1)⟩
    obtain ⟨p, hp, rfl⟩ := List.mem_map.mp he
    have := List.le_snd_of_mem_zipIdx hp
    show s < p.2
    omega
theorem idx_snd {β : Type} : ∀ (xs : List β) (s : Nat), ((xs.zipIdx s).map fun p => (p.2, p.1)).map (fun e : Nat × β => e.2) = xs
  | [], _ => rfl
  | x :: xs, s => by
    rw [List.zipIdx_cons, List.map_cons, List.map_cons, idx_snd xs (s + 1)]
def LeP {α : Type} (a b : α × Nat × V) : Bool := decide (a.2.1 ≤ b.2.1)
theorem leP {α : Type} {a b : α × Nat × V} : LeP a b = true ↔ a.2.1 ≤ b.2.1 := decide_eq_true_iff
theorem by_place {α : Type} {es : List (α × Nat × V)} {vs : List V} (h : (es.map (·.2)).Perm ((vs.zipIdx 0).map fun p => (p.2, p.1))) : (es.mergeSort LeP).map (fun e => e.2.2) = vs := by
  have p1 : ((es.mergeSort LeP).map (·.2)).Perm ((vs.zipIdx 0).map fun p => (p.2, p.1)) := ((List.mergeSort_perm es LeP).map _).trans h
  have so : (es.mergeSort LeP).Pairwise (fun a b => LeP a b = true) := by
    refine List.pairwise_mergeSort (le := LeP) ?_ ?_ es
    · intro a b c h1 h2
      exact leP.mpr (Nat.le_trans (leP.mp h1) (leP.mp h2))
    · intro a b
      rw [Bool.or_eq_true]
      rcases Nat.le_total a.2.1 b.2.1 with h | h
      · exact .inl (leP.mpr h)
      · exact .inr (leP.mpr h)
  have s1 : ((es.mergeSort LeP).map (·.2)).Pairwise (fun a b : Nat × V => a.1 ≤ b.1) := List.pairwise_map.mpr (so.imp fun h => leP.mp h)
  have e := perm_lt p1 s1 (idx_lt vs 0)
  have e2 := congrArg (List.map fun e : Nat × V => e.2) e
  rw [idx_snd, List.map_map] at e2
  exact e2
--CUT--
/-! ### joined parts -/
structure Tr where
  held : Bool
  tv : Addr
  ta : Addr
  tw : Addr
  es : List (Addr × Nat × V)
  as : List (Addr × Nat × V)
  ws : List (Addr × Str × V)
structure TrAt (H : Hp) (q : Addr) (x : Tr) : Prop where
  tp : H q = some (.tup [.int (if x.held = true then 1 else 0), .ref x.tv, .ref x.ta, .ref x.tw])
  ve : VsAt H x.tv x.es
  va : VsAt H x.ta x.as
  vw : WsAt H x.tw x.ws
  el : x.es.length ≤ 20
  al : x.as.length ≤ 20
theorem TrAt.same {H H' : Hp} {q : Addr} {x : Tr} (h : TrAt H q x) (s : Same H H') : TrAt H' q x := ⟨s _ _ h.tp, h.ve.same s, h.va.same s, h.vw.same s, h.el, h.al⟩
/-- all but the table stays -/
def Bt (P : Addr) (H H' : Hp) : Prop := (∀ b o, b ≠ P → H b = some o → H' b = some o) ∧ ∀ b, H' b = none → H b = none
def sp__by_place (K : PySem.W.Frag) (P : Addr) : Sp := fun vs H Q _ => ∃ (a : Addr) (es : List (Addr × Nat × V)), vs = [.ref a] ∧ SqL K H a (es.map fun e => V.ref e.1) ∧ (∀ e ∈ es, H e.1 = some (.tup [.int (e.2.1 : Nat), e.2.2])) ∧ es.length ≤ 5000 ∧ LamX.TabS H P qL ∧
  ∀ H' t, Bt P H H' → LamX.TabS H' P qL → Xk.Fr t H → H' t = some (.tup ((es.mergeSort LeP).map fun e => e.2.2)) → Q (.ref t) H'
theorem ok__by_place (T : Txt K mg) (B : LamX.TabB base mg T.c__by_place T.P__by_place) : FnOk P w K mg base CX0 1 T.f__by_place T.d__by_place ["pairs"] (sp__by_place K T.P__by_place) := by
  refine T.F__by_place.okC sc__by_place (fun vs H Q E h => ?_) (fun A outer s H vs Q E hr h => ?_)
  · obtain ⟨a, es, rfl, _⟩ := h
    rfl
  obtain ⟨a, es, rfl, ha, hes, hl, hT, q⟩ := h
  refine ⟨_, (pss_one (ps_ret (pe_callTy (Xk.k_tuple (K := K) (by rfl)) (by rfl) T.m_tuple (by decide +kernel) (pa_cons (pe_lc (own := [("place", 1), ("told", 2)]) (g := gTup K 2 (gCons (gName 1) (gCons (gName 2) gNil))) (tt := tYes) rfl sc__by_place.nd  (pi_list (Xk.k_sortKey (K := K) (q := qL) (by rfl) hr (by rfl) T.m_sorted (pv 0) B rfl rfl rfl rfl rfl rfl rfl rfl (fun _ _ _ _ _ _ => rfl))) (blkOk_by (N := N__by_place) (sc := defScope s__by_place) (own := [("place", 1), ("told", 2)]) (by decide +kernel)) (fun _ _ _ _ _ => Xk.k_gtup (K := K) (by rfl) rfl (pgs_cons (pg_name (i := 1) sc__by_place.nd rfl (Or.inl rfl)) (pgs_cons (pg_name (i := 2) sc__by_place.nd rfl (Or.inl rfl)) pgs_nil))) (fun _ _ _ _ _ => pts_nil) (fun _ _ _ _ _ => (pv 2))) pa_nil)))), ?_⟩
  wtm_at "x0"
  wtm_at "xs"
  have em : (es.map fun e => (V.ref e.1, ((e.2.1 : Nat) : Int))).map (·.1) = es.map fun e => V.ref e.1 := by rw [List.map_map]; rfl
  have esr : ((es.map fun e => (V.ref e.1, ((e.2.1 : Nat) : Int))).mergeSort Xk.LeK).map (·.1) = (es.mergeSort LeP).map fun e => V.ref e.1 := by
    have h := List.map_mergeSort (r := LeP (α := Addr)) (s := Xk.LeK) (f := fun e : Addr × Nat × V => (V.ref e.1, ((e.2.1 : Nat) : Int))) (l := es) (fun a _ b _ => decide_eq_decide.mpr (by show a.2.1 ≤ b.2.1 ↔ ((a.2.1 : Nat) : Int) ≤ ((b.2.1 : Nat) : Int); omega))
    rw [← h, List.map_map]
    rfl
  refine ⟨a, es.map fun e => (V.ref e.1, ((e.2.1 : Nat) : Int)), rfl, by rw [em]; exact ha, fun b hb => ?_, hT, fun p H2 hB hT2 hp hback hp2 => ?_⟩
  · obtain ⟨e, he, rfl⟩ := List.mem_map.mp hb
    exact ⟨e.1, [e.2.2], rfl, Xk.st_of (hes e he)⟩
  rw [esr] at hp2
  have hsm : ∀ e ∈ es.mergeSort LeP, H2 e.1 = some (.tup [.int (e.2.1 : Nat), e.2.2]) := fun e he => by
    have h1 := hes e ((List.mergeSort_perm es LeP).mem_iff.mp he)
    refine hB _ _ (fun z => ?_) h1
    obtain ⟨ps, h2, _⟩ := hT
    rw [z, h2] at h1
    cases h1
  have hsl : (es.mergeSort LeP).length = es.length := List.length_mergeSort es
  generalize es.mergeSort LeP = ss at *
  refine Xk.x_lcL (fun Dl i H' => Same H2 H' ∧ H' Dl = some (.lst ((ss.take i).map fun e => e.2.2))) (Xk.sq_of hp2) ?_ ?_ ?_ ?_
  · intro Dl hD
    exact ⟨Xk.same_fr hD, upd_same⟩
  · rintro Dl i H' hD ⟨s3, h3⟩
    exact Xk.sq_of (s3 _ _ hp2)
  · rintro Dl hD j x H' hi ⟨s3, h3⟩
    rw [List.getElem?_map] at hi
    obtain ⟨e, he, rfl⟩ : ∃ e, ss[j]? = some e ∧ x = V.ref e.1 := by
      cases h : ss[j]? with
      | none => rw [h] at hi; cases hi
      | some e => rw [h] at hi; exact ⟨e, rfl, (Option.some.inj hi).symm⟩
    have hej := s3 _ _ (hsm e (List.mem_of_getElem? he))
    have hj := Xk.at_lt he
    wtm_at "xs"
    refine ⟨rfl, ?_⟩
    wtm_at "xs"
    exact ⟨_, h3, Xk.size_lt (by simp only [List.length_map, List.length_take]; omega), Xk.same_mut s3 hD, by rw [upd_same, List.take_add_one, he]; simp⟩
  · rintro Dl H' hD ⟨s3, h3⟩
    rw [List.length_map, List.take_length] at h3
    wtm_at "xs"
    intro p3 H3 hp3 s4 e4
    have sH := s3.trans s4
    refine q H3 p3 ⟨fun b o n e => sH _ _ (hB b o n e), fun b hb => hback b (Same.free sH hb)⟩ (hT2.ext fun b o e => sH _ _ e) ⟨hback _ (Xk.free_back hp3 s3).is⟩ e4

theorem Bt.same {P : Addr} {H H1 H2 : Hp} (h : Bt P H H1) (s : Same H1 H2) : Bt P H H2 := ⟨fun b o n e => s _ _ (h.1 b o n e), fun b hb => h.2 b (Same.free s hb)⟩
theorem Bt.of {P : Addr} {H H1 : Hp} (s : Same H H1) : Bt P H H1 := ⟨fun b o _ e => s _ _ e, fun b hb => Same.free s hb⟩
theorem Bt.back {P : Addr} {H H1 H2 : Hp} (s : Same H H1) (h : Bt P H1 H2) : Bt P H H2 := ⟨fun b o n e => h.1 b o n (s _ _ e), fun b hb => Same.free s (h.2 b hb)⟩
theorem Bt.trans {P : Addr} {H H1 H2 : Hp} (h1 : Bt P H H1) (h2 : Bt P H1 H2) : Bt P H H2 := ⟨fun b o n e => h2.1 b o n (h1.1 b o n e), fun b hb => h1.2 b (h2.2 b hb)⟩
theorem ne_tab {P : Addr} {H : Hp} {b : Addr} {o : HO} {q : Str} (hT : LamX.TabS H P q) (e : H b = some o) (n : ∀ ps, o ≠ .tbl ps) : b ≠ P := fun z => by
  obtain ⟨ps, e1, _⟩ := hT
  rw [z, e1] at e
  exact n ps (Option.some.inj e).symm
theorem Bt.tup {P : Addr} {H H1 : Hp} {q : Str} (h : Bt P H H1) (hT : LamX.TabS H P q) {b : Addr} {xs : List V} (e : H b = some (.tup xs)) : H1 b = some (.tup xs) := h.1 _ _ (ne_tab hT e fun _ z => by cases z) e
theorem Bt.lst {P : Addr} {H H1 : Hp} {q : Str} (h : Bt P H H1) (hT : LamX.TabS H P q) {b : Addr} {xs : List V} (e : H b = some (.lst xs)) : H1 b = some (.lst xs) := h.1 _ _ (ne_tab hT e fun _ z => by cases z) e
theorem Bt.dk {P : Addr} {H H1 : Hp} {q : Str} (h : Bt P H H1) (hT : LamX.TabS H P q) {b : Addr} {xs : List (Key × V)} (e : H b = some (.dK xs)) : H1 b = some (.dK xs) := h.1 _ _ (ne_tab hT e fun _ z => by cases z) e
theorem Bt.fr {P : Addr} {H H1 : Hp} {b : Addr} (h : Bt P H H1) (f : Xk.Fr b H1) : Xk.Fr b H := ⟨h.2 _ f.is⟩
theorem Bt.sq {P : Addr} {H H1 : Hp} {q : Str} (h : Bt P H H1) (hT : LamX.TabS H P q) {b : Addr} {xs : List V} (e : SqL K H b xs) : SqL K H1 b xs := by
  rcases e with (e | ⟨u, e⟩) | e
  · exact .inl (.inl (h.lst hT e))
  · exact .inl (.inr ⟨u, h.1 _ _ (ne_tab hT e fun _ z => by cases z) e⟩)
  · exact .inr e
theorem flat_len {α β : Type} {f : α → List β} {n m : Nat} : ∀ {l : List α}, (∀ a ∈ l, (f a).length ≤ n) → l.length ≤ m → (l.flatMap f).length ≤ n * m
  | [], _, _ => Nat.zero_le _
  | a :: l, h, hl => by
    obtain ⟨m, rfl⟩ : ∃ k, m = k + 1 := ⟨m - 1, by rw [List.length_cons] at hl; omega⟩
    have h1 := flat_len (m := m) (fun b hb => h b (List.mem_cons_of_mem _ hb)) (by rw [List.length_cons] at hl; omega)
    have h2 := h a (List.mem_cons_self ..)
    rw [List.flatMap_cons, List.length_append, Nat.mul_succ]
    omega
def doneS : Str := "done"
def unheldS : Str := "unheld"
/-- what the parts join to -/
def joinW (xs : List Tr) : Str × List V := if xs.all (fun x => x.held) = true then ("done", ((xs.flatMap fun x => x.as).mergeSort LeP).map fun e => e.2.2) else ("unheld", ((xs.flatMap fun x => x.es).mergeSort LeP).map fun e => e.2.2)
def sp_join_parts (K : PySem.W.Frag) (P : Addr) : Sp := fun vs H Q _ => ∃ (p : Addr) (xs : List (Addr × Tr)), vs = [.ref p] ∧ (SqL K H p (xs.map fun e => V.ref e.1) ∨ SqT K H p (xs.map fun e => V.ref e.1)) ∧ (∀ e ∈ xs, TrAt H e.1 e.2) ∧ xs.length ≤ 20 ∧ LamX.TabS H P qL ∧
  ∀ H' q t, Bt P H H' → LamX.TabS H' P qL → Xk.Fr q H → Xk.Fr t H → H' q = some (.tup [.str (joinW (xs.map (·.2))).1, .ref t]) → H' t = some (.tup (joinW (xs.map (·.2))).2) → Q (.ref q) H'
theorem ok_join_parts (T : Txt K mg) (B : LamX.TabB base mg T.c__by_place T.P__by_place) : FnOk P w K mg base CX0 2 T.f_join_parts T.d_join_parts ["tried"] (sp_join_parts K T.P__by_place) := by
  refine T.F_join_parts.ok sc_join_parts (fun vs H Q E h => ?_) (fun cdv A outer s H vs Q E hr h => ?_)
  · obtain ⟨p, xs, rfl, _⟩ := h
    rfl
  obtain ⟨p, xs, rfl, hp, hx, hl, hT, q⟩ := h
  rcases hp with hp | hp
  · refine ⟨_, (Evl.pss_cut (ps_if (pt_val (pe_callB (Xk.k_all (K := K) rfl (by rfl)) (by rfl) T.m_all (by decide +kernel) (pa_cons (pe_lc (own := [("held", 1), ("values", 2), ("answers", 3), ("writes", 4)]) (g := gTup K 4 (gCons (gName 1) (gCons (gName 2) (gCons (gName 3) (gCons (gName 4) gNil))))) (tt := tYes) rfl sc_join_parts.nd  (pi_list (pv 0)) (blkOk_by (N := N_join_parts) (sc := defScope s_join_parts) (own := [("held", 1), ("values", 2), ("answers", 3), ("writes", 4)]) (by decide +kernel)) (fun _ _ _ _ _ => Xk.k_gtup (K := K) (by rfl) rfl (pgs_cons (pg_name (i := 1) sc_join_parts.nd rfl (Or.inl rfl)) (pgs_cons (pg_name (i := 2) sc_join_parts.nd rfl (Or.inl rfl)) (pgs_cons (pg_name (i := 3) sc_join_parts.nd rfl (Or.inl rfl)) (pgs_cons (pg_name (i := 4) sc_join_parts.nd rfl (Or.inl rfl)) pgs_nil))))) (fun _ _ _ _ _ => pts_nil) (fun _ _ _ _ _ => (pe_cmpR op_eq (pv 1) (pe_int) (nomark _)))) pa_nil))) (pss_one (ps_ret (pe_tup (pa_cons (pe_str) (pa_cons (pe_call (ok__by_place T B) (hr.mono (by decide)) (by rfl) T.g__by_place T.F__by_place.kp T.b__by_place .nil pass0 (pa_cons (pe_lc2 (own := [("held", 1), ("values", 2), ("answers", 3), ("writes", 4), ("pair", 5)]) (vs1 := [5]) (g := gTup K 4 (gCons (gName 1) (gCons (gName 2) (gCons (gName 3) (gCons (gName 4) gNil))))) (tt := tYes) (g1 := gName 5) (tt1 := tYes) rfl sc_join_parts.nd (pi_list (pv 0)) (blkOk_by (N := N_join_parts) (sc := defScope s_join_parts) (own := [("held", 1), ("values", 2), ("answers", 3), ("writes", 4), ("pair", 5)]) (by decide +kernel)) (by decide) (fun _ _ _ _ _ => Xk.k_gtup (K := K) (by rfl) rfl (pgs_cons (pg_name (i := 1) sc_join_parts.nd rfl (Or.inl rfl)) (pgs_cons (pg_name (i := 2) sc_join_parts.nd rfl (Or.inl rfl)) (pgs_cons (pg_name (i := 3) sc_join_parts.nd rfl (Or.inl rfl)) (pgs_cons (pg_name (i := 4) sc_join_parts.nd rfl (Or.inl rfl)) pgs_nil))))) (fun _ _ _ _ _ => pts_nil) (fun _ _ _ _ _ => (Xk.k_pit (K := K) (by rfl) (pv 3))) (fun _ _ _ _ _ => pg_name (i := 5) sc_join_parts.nd rfl (Or.inl rfl)) (fun _ _ _ _ _ => pts_nil) (fun _ _ _ _ _ => (pv 5))) pa_nil)) pa_nil))))) pss_nil)
      (pss_one (ps_ret (pe_tup (pa_cons (pe_str) (pa_cons (pe_call (ok__by_place T B) (hr.mono (by decide)) (by rfl) T.g__by_place T.F__by_place.kp T.b__by_place .nil pass0 (pa_cons (pe_lc2 (own := [("held", 1), ("values", 2), ("answers", 3), ("writes", 4), ("pair", 5)]) (vs1 := [5]) (g := gTup K 4 (gCons (gName 1) (gCons (gName 2) (gCons (gName 3) (gCons (gName 4) gNil))))) (tt := tYes) (g1 := gName 5) (tt1 := tYes) rfl sc_join_parts.nd (pi_list (pv 0)) (blkOk_by (N := N_join_parts) (sc := defScope s_join_parts) (own := [("held", 1), ("values", 2), ("answers", 3), ("writes", 4), ("pair", 5)]) (by decide +kernel)) (by decide) (fun _ _ _ _ _ => Xk.k_gtup (K := K) (by rfl) rfl (pgs_cons (pg_name (i := 1) sc_join_parts.nd rfl (Or.inl rfl)) (pgs_cons (pg_name (i := 2) sc_join_parts.nd rfl (Or.inl rfl)) (pgs_cons (pg_name (i := 3) sc_join_parts.nd rfl (Or.inl rfl)) (pgs_cons (pg_name (i := 4) sc_join_parts.nd rfl (Or.inl rfl)) pgs_nil))))) (fun _ _ _ _ _ => pts_nil) (fun _ _ _ _ _ => (Xk.k_pit (K := K) (by rfl) (pv 2))) (fun _ _ _ _ _ => pg_name (i := 5) sc_join_parts.nd rfl (Or.inl rfl)) (fun _ _ _ _ _ => pts_nil) (fun _ _ _ _ _ => (pv 5))) pa_nil)) pa_nil)))))), ?_⟩
    wtm_at "x0"
    have hxs : ∀ {j : Nat} {v : V}, (xs.map fun e => V.ref e.1)[j]? = some v → ∃ e, xs[j]? = some e ∧ v = V.ref e.1 := fun {j v} hi => by
      rw [List.getElem?_map] at hi
      cases h : xs[j]? with
      | none => rw [h] at hi; cases hi
      | some e => rw [h] at hi; exact ⟨e, rfl, (Option.some.inj hi).symm⟩
    have all1 : ∀ {Q2 : VK}, (∀ H1 Dl, Same H H1 → H1 Dl = some (.lst ((xs.map fun e => e.2.held).map V.bl)) → Q2 (.ref Dl) H1) → Xk.rLcL K (gTup K 4 (gCons (gName 1) (gCons (gName 2) (gCons (gName 3) (gCons (gName 4) gNil))))) tYes (tOp rEq (tVar 1) (tC (V.int 1))) [1, 2, 3, 4] [some (V.ref p), none, none, none, none, none] Q2 (.ref p) H := fun {Q2} k => by
      refine Xk.x_lcL (fun Dl i H' => Same H H' ∧ H' Dl = some (.lst (((xs.take i).map fun e => e.2.held).map V.bl))) hp ?_ ?_ ?_ ?_
      · intro Dl hD
        exact ⟨Xk.same_fr hD, upd_same⟩
      · rintro Dl i H' hD ⟨s3, h3⟩
        exact Xk.sq_same hp s3
      · rintro Dl hD j x H' hi ⟨s3, h3⟩
        obtain ⟨e, he, rfl⟩ := hxs hi
        have ht := s3 _ _ (hx e (List.mem_of_getElem? he)).tp
        have hj := Xk.at_lt he
        wtm_at "xs"
        refine ⟨rfl, ?_⟩
        wtm_at "xs"
        refine ⟨_, h3, Xk.size_lt (by simp only [List.length_map, List.length_take]; omega), Xk.same_mut s3 hD, ?_⟩
        rw [upd_same, List.take_add_one, he]
        cases hhe : e.2.held <;> simp [hhe]
      · rintro Dl H' hD ⟨s3, h3⟩
        rw [List.length_map, List.take_length] at h3
        exact k H' Dl s3 h3
    cases hh : (xs.map (·.2)).all fun x => x.held with
    | true =>
      have hj : joinW (xs.map (·.2)) = (("done" : Str), (((xs.map (·.2)).flatMap fun x => x.as).mergeSort LeP).map fun e => e.2.2) := if_pos hh
      rw [hj] at q
      refine Xk.x_cut (fun _ _ => False) ?_ (fun _ _ h => h.elim)
      wtm_at "xs"
      refine all1 fun H1 Dl s1 h1 => ?_
      wtm_at "xs"
      refine Xk.x_all (bs := xs.map fun e => e.2.held) (Xk.sq_of h1) ?_
      rw [show (xs.map fun e => e.2.held).all id = (xs.map (·.2)).all fun x => x.held by rw [List.all_map, List.all_map]; rfl, hh]
      refine ⟨_, rfl, ?_⟩
      rw [if_pos rfl]
      wtm_at "xs"
      refine Xk.x_out2 Xk.isItl (fun Dl i H' => Same H1 H' ∧ H' Dl = some (.lst (((xs.take i).flatMap fun e => e.2.as).map fun e => V.ref e.1))) (Xk.sq_same hp s1) ?_ ?_ ?_ ?_
      · intro Dl hD
        exact ⟨Xk.same_fr hD, upd_same⟩
      · rintro Dl i H' hD ⟨s3, h3⟩
        exact Xk.sq_same (Xk.sq_same hp s1) s3
      · rintro Dl hD j x H' hi ⟨s3, h3⟩
        obtain ⟨e, he, rfl⟩ := hxs hi
        have hxe := (hx e (List.mem_of_getElem? he)).same (s1.trans s3)
        have ht := hxe.tp
        have hte := hxe.va.tp
        have hj := Xk.at_lt he
        have hfl : ((xs.take j).flatMap fun e => e.2.as).length ≤ 20 * j := by
          refine flat_len (fun e he2 => (hx e (List.mem_of_mem_take he2)).al) ?_
          rw [List.length_take]
          omega
        wtm_at "xs"
        refine ⟨rfl, ?_⟩
        wtm_at "xs"
        refine Xk.x_in2 Xk.isItt (fun i2 H2 => Same H1 H2 ∧ H2 Dl = some (.lst ((((xs.take j).flatMap fun e => e.2.as) ++ e.2.as.take i2).map fun e => V.ref e.1))) (Xk.st_of hte) ⟨s3, by rw [List.take_zero, List.append_nil]; exact h3⟩ ?_ ?_ ?_
        · rintro i2 H2 ⟨s4, h4⟩
          exact Xk.st_of (((hx e (List.mem_of_getElem? he)).same (s1.trans s4)).va.tp)
        · rintro i2 y H2 hi2 ⟨s4, h4⟩
          rw [List.getElem?_map] at hi2
          obtain ⟨f, hf, rfl⟩ : ∃ f, e.2.as[i2]? = some f ∧ y = V.ref f.1 := by
            cases h : e.2.as[i2]? with
            | none => rw [h] at hi2; cases hi2
            | some f => rw [h] at hi2; exact ⟨f, rfl, (Option.some.inj hi2).symm⟩
          have hi3 := Xk.at_lt hf
          have hel := hxe.al
          wtm_at "xs"
          refine ⟨rfl, ?_⟩
          wtm_at "xs"
          refine ⟨_, h4, Xk.size_lt (by simp only [List.length_map, List.length_append, List.length_take]; omega), Xk.same_mut s4 hD, ?_⟩
          rw [upd_same, List.take_add_one, hf]
          simp
        · rintro H2 ⟨s4, h4⟩
          rw [List.length_map, List.take_length] at h4
          refine ⟨s4, ?_⟩
          rw [h4, List.take_add_one, he]
          simp
      rintro Dl H' hD ⟨s3, h3⟩
      rw [List.length_map, List.take_length] at h3
      have hfm : (xs.map (·.2)).flatMap (fun x => x.as) = xs.flatMap fun e => e.2.as := by rw [List.flatMap_map]
      have hfl : (xs.flatMap fun e => e.2.as).length ≤ 20 * xs.length := flat_len (fun e he2 => (hx e he2).al) (Nat.le_refl _)
      rw [← hfm] at h3 hfl
      have sH := s1.trans s3
      refine ⟨Dl, _, rfl, Xk.sq_of h3, fun e he => ?_, by omega, hT.ext sH, fun H4 t b4 hT4 ht4 e4 => ?_⟩
      · rw [hfm] at he
        obtain ⟨x, hx1, hx2⟩ := List.mem_flatMap.mp he
        exact ((hx x hx1).same sH).va.it e hx2
      wtm_at "xs"
      intro p5 H5 hp5 s5 e5
      wtm_at "xs"
      have b5 := (Bt.back sH b4).same s5
      exact q H5 p5 t b5 (hT4.ext s5) ⟨(Bt.back sH b4).2 _ hp5.is⟩ ⟨Same.free sH ht4.is⟩ e5 (s5 _ _ e4)
    | false =>
      have hj : joinW (xs.map (·.2)) = (("unheld" : Str), (((xs.map (·.2)).flatMap fun x => x.es).mergeSort LeP).map fun e => e.2.2) := if_neg (show ¬ ((xs.map (·.2)).all fun x => x.held) = true by rw [hh]; decide)
      rw [hj] at q
      refine Xk.x_cut (fun σ2 H2 => Same H H2 ∧ σ2 = [some (V.ref p), none, none, none, none, none]) ?_ ?_
      · wtm_at "xs"
        refine all1 fun H1 Dl s1 h1 => ?_
        wtm_at "xs"
        refine Xk.x_all (bs := xs.map fun e => e.2.held) (Xk.sq_of h1) ?_
        rw [show (xs.map fun e => e.2.held).all id = (xs.map (·.2)).all fun x => x.held by rw [List.all_map, List.all_map]; rfl, hh]
        refine ⟨_, rfl, ?_⟩
        rw [if_neg (by decide)]
        wtm_at "xs"
        exact ⟨s1, rfl⟩
      rintro σ2 H1 ⟨s1, rfl⟩
      wtm_at "xs"
      refine Xk.x_out2 Xk.isItl (fun Dl i H' => Same H1 H' ∧ H' Dl = some (.lst (((xs.take i).flatMap fun e => e.2.es).map fun e => V.ref e.1))) (Xk.sq_same hp s1) ?_ ?_ ?_ ?_
      · intro Dl hD
        exact ⟨Xk.same_fr hD, upd_same⟩
      · rintro Dl i H' hD ⟨s3, h3⟩
        exact Xk.sq_same (Xk.sq_same hp s1) s3
      · rintro Dl hD j x H' hi ⟨s3, h3⟩
        obtain ⟨e, he, rfl⟩ := hxs hi
        have hxe := (hx e (List.mem_of_getElem? he)).same (s1.trans s3)
        have ht := hxe.tp
        have hte := hxe.ve.tp
        have hj := Xk.at_lt he
        have hfl : ((xs.take j).flatMap fun e => e.2.es).length ≤ 20 * j := by
          refine flat_len (fun e he2 => (hx e (List.mem_of_mem_take he2)).el) ?_
          rw [List.length_take]
          omega
        wtm_at "xs"
        refine ⟨rfl, ?_⟩
        wtm_at "xs"
        refine Xk.x_in2 Xk.isItt (fun i2 H2 => Same H1 H2 ∧ H2 Dl = some (.lst ((((xs.take j).flatMap fun e => e.2.es) ++ e.2.es.take i2).map fun e => V.ref e.1))) (Xk.st_of hte) ⟨s3, by rw [List.take_zero, List.append_nil]; exact h3⟩ ?_ ?_ ?_
        · rintro i2 H2 ⟨s4, h4⟩
          exact Xk.st_of (((hx e (List.mem_of_getElem? he)).same (s1.trans s4)).ve.tp)
        · rintro i2 y H2 hi2 ⟨s4, h4⟩
          rw [List.getElem?_map] at hi2
          obtain ⟨f, hf, rfl⟩ : ∃ f, e.2.es[i2]? = some f ∧ y = V.ref f.1 := by
            cases h : e.2.es[i2]? with
            | none => rw [h] at hi2; cases hi2
            | some f => rw [h] at hi2; exact ⟨f, rfl, (Option.some.inj hi2).symm⟩
          have hi3 := Xk.at_lt hf
          have hel := hxe.el
          wtm_at "xs"
          refine ⟨rfl, ?_⟩
          wtm_at "xs"
          refine ⟨_, h4, Xk.size_lt (by simp only [List.length_map, List.length_append, List.length_take]; omega), Xk.same_mut s4 hD, ?_⟩
          rw [upd_same, List.take_add_one, hf]
          simp
        · rintro H2 ⟨s4, h4⟩
          rw [List.length_map, List.take_length] at h4
          refine ⟨s4, ?_⟩
          rw [h4, List.take_add_one, he]
          simp
      rintro Dl H' hD ⟨s3, h3⟩
      rw [List.length_map, List.take_length] at h3
      have hfm : (xs.map (·.2)).flatMap (fun x => x.es) = xs.flatMap fun e => e.2.es := by rw [List.flatMap_map]
      have hfl : (xs.flatMap fun e => e.2.es).length ≤ 20 * xs.length := flat_len (fun e he2 => (hx e he2).el) (Nat.le_refl _)
      rw [← hfm] at h3 hfl
      have sH := s1.trans s3
      refine ⟨Dl, _, rfl, Xk.sq_of h3, fun e he => ?_, by omega, hT.ext sH, fun H4 t b4 hT4 ht4 e4 => ?_⟩
      · rw [hfm] at he
        obtain ⟨x, hx1, hx2⟩ := List.mem_flatMap.mp he
        exact ((hx x hx1).same sH).ve.it e hx2
      wtm_at "xs"
      intro p5 H5 hp5 s5 e5
      wtm_at "xs"
      have b5 := (Bt.back sH b4).same s5
      exact q H5 p5 t b5 (hT4.ext s5) ⟨(Bt.back sH b4).2 _ hp5.is⟩ ⟨Same.free sH ht4.is⟩ e5 (s5 _ _ e4)
  · refine ⟨_, (Evl.pss_cut (ps_if (pt_val (pe_callB (Xk.k_all (K := K) rfl (by rfl)) (by rfl) T.m_all (by decide +kernel) (pa_cons (pe_lc (own := [("held", 1), ("values", 2), ("answers", 3), ("writes", 4)]) (g := gTup K 4 (gCons (gName 1) (gCons (gName 2) (gCons (gName 3) (gCons (gName 4) gNil))))) (tt := tYes) rfl sc_join_parts.nd  (pi_tup (pv 0)) (blkOk_by (N := N_join_parts) (sc := defScope s_join_parts) (own := [("held", 1), ("values", 2), ("answers", 3), ("writes", 4)]) (by decide +kernel)) (fun _ _ _ _ _ => Xk.k_gtup (K := K) (by rfl) rfl (pgs_cons (pg_name (i := 1) sc_join_parts.nd rfl (Or.inl rfl)) (pgs_cons (pg_name (i := 2) sc_join_parts.nd rfl (Or.inl rfl)) (pgs_cons (pg_name (i := 3) sc_join_parts.nd rfl (Or.inl rfl)) (pgs_cons (pg_name (i := 4) sc_join_parts.nd rfl (Or.inl rfl)) pgs_nil))))) (fun _ _ _ _ _ => pts_nil) (fun _ _ _ _ _ => (pe_cmpR op_eq (pv 1) (pe_int) (nomark _)))) pa_nil))) (pss_one (ps_ret (pe_tup (pa_cons (pe_str) (pa_cons (pe_call (ok__by_place T B) (hr.mono (by decide)) (by rfl) T.g__by_place T.F__by_place.kp T.b__by_place .nil pass0 (pa_cons (pe_lc2 (own := [("held", 1), ("values", 2), ("answers", 3), ("writes", 4), ("pair", 5)]) (vs1 := [5]) (g := gTup K 4 (gCons (gName 1) (gCons (gName 2) (gCons (gName 3) (gCons (gName 4) gNil))))) (tt := tYes) (g1 := gName 5) (tt1 := tYes) rfl sc_join_parts.nd (pi_tup (pv 0)) (blkOk_by (N := N_join_parts) (sc := defScope s_join_parts) (own := [("held", 1), ("values", 2), ("answers", 3), ("writes", 4), ("pair", 5)]) (by decide +kernel)) (by decide) (fun _ _ _ _ _ => Xk.k_gtup (K := K) (by rfl) rfl (pgs_cons (pg_name (i := 1) sc_join_parts.nd rfl (Or.inl rfl)) (pgs_cons (pg_name (i := 2) sc_join_parts.nd rfl (Or.inl rfl)) (pgs_cons (pg_name (i := 3) sc_join_parts.nd rfl (Or.inl rfl)) (pgs_cons (pg_name (i := 4) sc_join_parts.nd rfl (Or.inl rfl)) pgs_nil))))) (fun _ _ _ _ _ => pts_nil) (fun _ _ _ _ _ => (Xk.k_pit (K := K) (by rfl) (pv 3))) (fun _ _ _ _ _ => pg_name (i := 5) sc_join_parts.nd rfl (Or.inl rfl)) (fun _ _ _ _ _ => pts_nil) (fun _ _ _ _ _ => (pv 5))) pa_nil)) pa_nil))))) pss_nil)
      (pss_one (ps_ret (pe_tup (pa_cons (pe_str) (pa_cons (pe_call (ok__by_place T B) (hr.mono (by decide)) (by rfl) T.g__by_place T.F__by_place.kp T.b__by_place .nil pass0 (pa_cons (pe_lc2 (own := [("held", 1), ("values", 2), ("answers", 3), ("writes", 4), ("pair", 5)]) (vs1 := [5]) (g := gTup K 4 (gCons (gName 1) (gCons (gName 2) (gCons (gName 3) (gCons (gName 4) gNil))))) (tt := tYes) (g1 := gName 5) (tt1 := tYes) rfl sc_join_parts.nd (pi_tup (pv 0)) (blkOk_by (N := N_join_parts) (sc := defScope s_join_parts) (own := [("held", 1), ("values", 2), ("answers", 3), ("writes", 4), ("pair", 5)]) (by decide +kernel)) (by decide) (fun _ _ _ _ _ => Xk.k_gtup (K := K) (by rfl) rfl (pgs_cons (pg_name (i := 1) sc_join_parts.nd rfl (Or.inl rfl)) (pgs_cons (pg_name (i := 2) sc_join_parts.nd rfl (Or.inl rfl)) (pgs_cons (pg_name (i := 3) sc_join_parts.nd rfl (Or.inl rfl)) (pgs_cons (pg_name (i := 4) sc_join_parts.nd rfl (Or.inl rfl)) pgs_nil))))) (fun _ _ _ _ _ => pts_nil) (fun _ _ _ _ _ => (Xk.k_pit (K := K) (by rfl) (pv 2))) (fun _ _ _ _ _ => pg_name (i := 5) sc_join_parts.nd rfl (Or.inl rfl)) (fun _ _ _ _ _ => pts_nil) (fun _ _ _ _ _ => (pv 5))) pa_nil)) pa_nil)))))), ?_⟩
    wtm_at "x0"
    have hxs : ∀ {j : Nat} {v : V}, (xs.map fun e => V.ref e.1)[j]? = some v → ∃ e, xs[j]? = some e ∧ v = V.ref e.1 := fun {j v} hi => by
      rw [List.getElem?_map] at hi
      cases h : xs[j]? with
      | none => rw [h] at hi; cases hi
      | some e => rw [h] at hi; exact ⟨e, rfl, (Option.some.inj hi).symm⟩
    have all1 : ∀ {Q2 : VK}, (∀ H1 Dl, Same H H1 → H1 Dl = some (.lst ((xs.map fun e => e.2.held).map V.bl)) → Q2 (.ref Dl) H1) → Xk.rLcT K (gTup K 4 (gCons (gName 1) (gCons (gName 2) (gCons (gName 3) (gCons (gName 4) gNil))))) tYes (tOp rEq (tVar 1) (tC (V.int 1))) [1, 2, 3, 4] [some (V.ref p), none, none, none, none, none] Q2 (.ref p) H := fun {Q2} k => by
      refine Xk.x_lcT (fun Dl i H' => Same H H' ∧ H' Dl = some (.lst (((xs.take i).map fun e => e.2.held).map V.bl))) hp ?_ ?_ ?_ ?_
      · intro Dl hD
        exact ⟨Xk.same_fr hD, upd_same⟩
      · rintro Dl i H' hD ⟨s3, h3⟩
        exact Xk.st_same hp s3
      · rintro Dl hD j x H' hi ⟨s3, h3⟩
        obtain ⟨e, he, rfl⟩ := hxs hi
        have ht := s3 _ _ (hx e (List.mem_of_getElem? he)).tp
        have hj := Xk.at_lt he
        wtm_at "xs"
        refine ⟨rfl, ?_⟩
        wtm_at "xs"
        refine ⟨_, h3, Xk.size_lt (by simp only [List.length_map, List.length_take]; omega), Xk.same_mut s3 hD, ?_⟩
        rw [upd_same, List.take_add_one, he]
        cases hhe : e.2.held <;> simp [hhe]
      · rintro Dl H' hD ⟨s3, h3⟩
        rw [List.length_map, List.take_length] at h3
        exact k H' Dl s3 h3
    cases hh : (xs.map (·.2)).all fun x => x.held with
    | true =>
      have hj : joinW (xs.map (·.2)) = (("done" : Str), (((xs.map (·.2)).flatMap fun x => x.as).mergeSort LeP).map fun e => e.2.2) := if_pos hh
      rw [hj] at q
      refine Xk.x_cut (fun _ _ => False) ?_ (fun _ _ h => h.elim)
      wtm_at "xs"
      refine all1 fun H1 Dl s1 h1 => ?_
      wtm_at "xs"
      refine Xk.x_all (bs := xs.map fun e => e.2.held) (Xk.sq_of h1) ?_
      rw [show (xs.map fun e => e.2.held).all id = (xs.map (·.2)).all fun x => x.held by rw [List.all_map, List.all_map]; rfl, hh]
      refine ⟨_, rfl, ?_⟩
      rw [if_pos rfl]
      wtm_at "xs"
      refine Xk.x_out2 Xk.isItt (fun Dl i H' => Same H1 H' ∧ H' Dl = some (.lst (((xs.take i).flatMap fun e => e.2.as).map fun e => V.ref e.1))) (Xk.st_same hp s1) ?_ ?_ ?_ ?_
      · intro Dl hD
        exact ⟨Xk.same_fr hD, upd_same⟩
      · rintro Dl i H' hD ⟨s3, h3⟩
        exact Xk.st_same (Xk.st_same hp s1) s3
      · rintro Dl hD j x H' hi ⟨s3, h3⟩
        obtain ⟨e, he, rfl⟩ := hxs hi
        have hxe := (hx e (List.mem_of_getElem? he)).same (s1.trans s3)
        have ht := hxe.tp
        have hte := hxe.va.tp
        have hj := Xk.at_lt he
        have hfl : ((xs.take j).flatMap fun e => e.2.as).length ≤ 20 * j := by
          refine flat_len (fun e he2 => (hx e (List.mem_of_mem_take he2)).al) ?_
          rw [List.length_take]
          omega
        wtm_at "xs"
        refine ⟨rfl, ?_⟩
        wtm_at "xs"
        refine Xk.x_in2 Xk.isItt (fun i2 H2 => Same H1 H2 ∧ H2 Dl = some (.lst ((((xs.take j).flatMap fun e => e.2.as) ++ e.2.as.take i2).map fun e => V.ref e.1))) (Xk.st_of hte) ⟨s3, by rw [List.take_zero, List.append_nil]; exact h3⟩ ?_ ?_ ?_
        · rintro i2 H2 ⟨s4, h4⟩
          exact Xk.st_of (((hx e (List.mem_of_getElem? he)).same (s1.trans s4)).va.tp)
        · rintro i2 y H2 hi2 ⟨s4, h4⟩
          rw [List.getElem?_map] at hi2
          obtain ⟨f, hf, rfl⟩ : ∃ f, e.2.as[i2]? = some f ∧ y = V.ref f.1 := by
            cases h : e.2.as[i2]? with
            | none => rw [h] at hi2; cases hi2
            | some f => rw [h] at hi2; exact ⟨f, rfl, (Option.some.inj hi2).symm⟩
          have hi3 := Xk.at_lt hf
          have hel := hxe.al
          wtm_at "xs"
          refine ⟨rfl, ?_⟩
          wtm_at "xs"
          refine ⟨_, h4, Xk.size_lt (by simp only [List.length_map, List.length_append, List.length_take]; omega), Xk.same_mut s4 hD, ?_⟩
          rw [upd_same, List.take_add_one, hf]
          simp
        · rintro H2 ⟨s4, h4⟩
          rw [List.length_map, List.take_length] at h4
          refine ⟨s4, ?_⟩
          rw [h4, List.take_add_one, he]
          simp
      rintro Dl H' hD ⟨s3, h3⟩
      rw [List.length_map, List.take_length] at h3
      have hfm : (xs.map (·.2)).flatMap (fun x => x.as) = xs.flatMap fun e => e.2.as := by rw [List.flatMap_map]
      have hfl : (xs.flatMap fun e => e.2.as).length ≤ 20 * xs.length := flat_len (fun e he2 => (hx e he2).al) (Nat.le_refl _)
      rw [← hfm] at h3 hfl
      have sH := s1.trans s3
      refine ⟨Dl, _, rfl, Xk.sq_of h3, fun e he => ?_, by omega, hT.ext sH, fun H4 t b4 hT4 ht4 e4 => ?_⟩
      · rw [hfm] at he
        obtain ⟨x, hx1, hx2⟩ := List.mem_flatMap.mp he
        exact ((hx x hx1).same sH).va.it e hx2
      wtm_at "xs"
      intro p5 H5 hp5 s5 e5
      wtm_at "xs"
      have b5 := (Bt.back sH b4).same s5
      exact q H5 p5 t b5 (hT4.ext s5) ⟨(Bt.back sH b4).2 _ hp5.is⟩ ⟨Same.free sH ht4.is⟩ e5 (s5 _ _ e4)
    | false =>
      have hj : joinW (xs.map (·.2)) = (("unheld" : Str), (((xs.map (·.2)).flatMap fun x => x.es).mergeSort LeP).map fun e => e.2.2) := if_neg (show ¬ ((xs.map (·.2)).all fun x => x.held) = true by rw [hh]; decide)
      rw [hj] at q
      refine Xk.x_cut (fun σ2 H2 => Same H H2 ∧ σ2 = [some (V.ref p), none, none, none, none, none]) ?_ ?_
      · wtm_at "xs"
        refine all1 fun H1 Dl s1 h1 => ?_
        wtm_at "xs"
        refine Xk.x_all (bs := xs.map fun e => e.2.held) (Xk.sq_of h1) ?_
        rw [show (xs.map fun e => e.2.held).all id = (xs.map (·.2)).all fun x => x.held by rw [List.all_map, List.all_map]; rfl, hh]
        refine ⟨_, rfl, ?_⟩
        rw [if_neg (by decide)]
        wtm_at "xs"
        exact ⟨s1, rfl⟩
      rintro σ2 H1 ⟨s1, rfl⟩
      wtm_at "xs"
      refine Xk.x_out2 Xk.isItt (fun Dl i H' => Same H1 H' ∧ H' Dl = some (.lst (((xs.take i).flatMap fun e => e.2.es).map fun e => V.ref e.1))) (Xk.st_same hp s1) ?_ ?_ ?_ ?_
      · intro Dl hD
        exact ⟨Xk.same_fr hD, upd_same⟩
      · rintro Dl i H' hD ⟨s3, h3⟩
        exact Xk.st_same (Xk.st_same hp s1) s3
      · rintro Dl hD j x H' hi ⟨s3, h3⟩
        obtain ⟨e, he, rfl⟩ := hxs hi
        have hxe := (hx e (List.mem_of_getElem? he)).same (s1.trans s3)
        have ht := hxe.tp
        have hte := hxe.ve.tp
        have hj := Xk.at_lt he
        have hfl : ((xs.take j).flatMap fun e => e.2.es).length ≤ 20 * j := by
          refine flat_len (fun e he2 => (hx e (List.mem_of_mem_take he2)).el) ?_
          rw [List.length_take]
          omega
        wtm_at "xs"
        refine ⟨rfl, ?_⟩
        wtm_at "xs"
        refine Xk.x_in2 Xk.isItt (fun i2 H2 => Same H1 H2 ∧ H2 Dl = some (.lst ((((xs.take j).flatMap fun e => e.2.es) ++ e.2.es.take i2).map fun e => V.ref e.1))) (Xk.st_of hte) ⟨s3, by rw [List.take_zero, List.append_nil]; exact h3⟩ ?_ ?_ ?_
        · rintro i2 H2 ⟨s4, h4⟩
          exact Xk.st_of (((hx e (List.mem_of_getElem? he)).same (s1.trans s4)).ve.tp)
        · rintro i2 y H2 hi2 ⟨s4, h4⟩
          rw [List.getElem?_map] at hi2
          obtain ⟨f, hf, rfl⟩ : ∃ f, e.2.es[i2]? = some f ∧ y = V.ref f.1 := by
            cases h : e.2.es[i2]? with
            | none => rw [h] at hi2; cases hi2
            | some f => rw [h] at hi2; exact ⟨f, rfl, (Option.some.inj hi2).symm⟩
          have hi3 := Xk.at_lt hf
          have hel := hxe.el
          wtm_at "xs"
          refine ⟨rfl, ?_⟩
          wtm_at "xs"
          refine ⟨_, h4, Xk.size_lt (by simp only [List.length_map, List.length_append, List.length_take]; omega), Xk.same_mut s4 hD, ?_⟩
          rw [upd_same, List.take_add_one, hf]
          simp
        · rintro H2 ⟨s4, h4⟩
          rw [List.length_map, List.take_length] at h4
          refine ⟨s4, ?_⟩
          rw [h4, List.take_add_one, he]
          simp
      rintro Dl H' hD ⟨s3, h3⟩
      rw [List.length_map, List.take_length] at h3
      have hfm : (xs.map (·.2)).flatMap (fun x => x.es) = xs.flatMap fun e => e.2.es := by rw [List.flatMap_map]
      have hfl : (xs.flatMap fun e => e.2.es).length ≤ 20 * xs.length := flat_len (fun e he2 => (hx e he2).el) (Nat.le_refl _)
      rw [← hfm] at h3 hfl
      have sH := s1.trans s3
      refine ⟨Dl, _, rfl, Xk.sq_of h3, fun e he => ?_, by omega, hT.ext sH, fun H4 t b4 hT4 ht4 e4 => ?_⟩
      · rw [hfm] at he
        obtain ⟨x, hx1, hx2⟩ := List.mem_flatMap.mp he
        exact ((hx x hx1).same sH).ve.it e hx2
      wtm_at "xs"
      intro p5 H5 hp5 s5 e5
      wtm_at "xs"
      have b5 := (Bt.back sH b4).same s5
      exact q H5 p5 t b5 (hT4.ext s5) ⟨(Bt.back sH b4).2 _ hp5.is⟩ ⟨Same.free sH ht4.is⟩ e5 (s5 _ _ e4)
--CUT--
theorem flat_set {α : Type} {k : α} : ∀ {zss : List (List α)} {j : Nat} {z : List α}, zss[j]? = some z → ((zss.set j (z ++ [k])).flatten).Perm (zss.flatten ++ [k])
  | [], _, _, h => by cases h
  | y :: r, 0, z, h => by
    cases h
    rw [List.set_cons_zero, List.flatten_cons, List.flatten_cons, List.append_assoc, List.append_assoc]
    exact List.Perm.append_left _ List.perm_append_comm
  | y :: r, j + 1, z, h => by
    rw [List.set_cons_succ, List.flatten_cons, List.flatten_cons, List.append_assoc]
    exact List.Perm.append_left _ (flat_set (zss := r) (j := j) h)
def Dis (qs : List Addr) : Prop := ∀ (i j : Nat) (q : Addr), qs[i]? = some q → qs[j]? = some q → i = j
theorem Dis.snoc {qs : List Addr} {p : Addr} (h : Dis qs) (n : ∀ q ∈ qs, q ≠ p) : Dis (qs ++ [p]) := by
  intro i j q hi hj
  have key : ∀ {i : Nat}, (qs ++ [p])[i]? = some q → qs[i]? = some q ∨ (i = qs.length ∧ q = p) := fun {i} e => by
    rcases Nat.lt_or_ge i qs.length with l | l
    · rw [List.getElem?_append_left l] at e
      exact .inl e
    · rw [List.getElem?_append_right l] at e
      have : i - qs.length = 0 := by
        have := Xk.at_lt e
        simpa using this
      rw [this] at e
      exact .inr ⟨by omega, (Option.some.inj e).symm⟩
  rcases key hi with a | ⟨a, a'⟩
  · rcases key hj with b | ⟨b, b'⟩
    · exact h i j q a b
    · exact absurd b' (n q (List.mem_of_getElem? a))
  · rcases key hj with b | ⟨b, b'⟩
    · exact absurd a' (n q (List.mem_of_getElem? b))
    · omega
def sp__law_split (K : PySem.W.Frag) : Sp := fun vs H Q _ => ∃ (a : Addr) (n m : Int) (ks : List Str), vs = [.ref a, .int n, .int m] ∧ SqL K H a (ks.map V.str) ∧ ks.length ≤ 50 ∧ 0 ≤ n ∧ 1 ≤ m ∧ m ≤ 50 ∧
  ∀ H' s (qs : List Addr) (zss : List (List Str)), Same H H' → Xk.Fr s H → H' s = some (.lst (qs.map V.ref)) → (qs.length : Int) = m → zss.length = qs.length → (∀ (i : Nat) (q : Addr) (z : List Str), qs[i]? = some q → zss[i]? = some z → Xk.Fr q H ∧ H' q = some (.lst (z.map V.str))) → zss.flatten.Perm ks → Q (.ref s) H'
theorem ok__law_split (T : Txt K mg) : FnOk P w K mg base CX0 1 T.f__law_split T.d__law_split ["keys", "row", "many"] (sp__law_split K) := by
  refine T.F__law_split.ok sc__law_split (fun vs H Q E h => ?_) (fun cdv A outer s H vs Q E hr h => ?_)
  · obtain ⟨a, n, m, ks, rfl, _⟩ := h
    rfl
  obtain ⟨a, n, m, ks, rfl, ha, hk, hn, hm1, hm2, q⟩ := h
  refine ⟨_, (pss_cons (ps_set (i := 3) sc__law_split.nd rfl (Or.inl rfl) (pe_lst pa_nil))
      (pss_cons (ps_for PassesOwn.never rfl (pi_range1 (by rfl) T.m_range (pa_cons (pv 2) pa_nil)) (pg_name (i := 4) sc__law_split.nd rfl (Or.inl rfl)) (pss_one (ps_expr (pe_bm PySem.F.plainAttrs_list PySem.F.slot_list_append PySem.F.type_list_append mt_append (pv 3) (pa_cons (pe_lst pa_nil) pa_nil)))))
      (pss_cons (ps_for PassesOwn.never rfl (pi_range1 (by rfl) T.m_range (pa_cons (pe_callB (Xk.k_len (K := K) (by rfl)) (by rfl) T.m_len PySem.boot_len (pa_cons (pv 0) pa_nil)) pa_nil)) (pg_name (i := 4) sc__law_split.nd rfl (Or.inl rfl)) (pss_cons (ps_set (i := 5) sc__law_split.nd rfl (Or.inl rfl) (pe_ix (Xk.k_ixL (K := K) (by rfl)) (pv 3) (pe_op op_mod (pe_op op_fdiv (pe_callTy Xk.call_nInt (by rfl) T.m_int (by decide +kernel) (pa_cons (pv 1) pa_nil)) (pe_op op_add (pe_op op_mul (pe_int) (pv 4)) (pe_int))) (pv 2)) (fun _ _ => rfl)))
      (pss_one (ps_expr (pe_bm PySem.F.plainAttrs_list PySem.F.slot_list_append PySem.F.type_list_append mt_append (pv 5) (pa_cons (pe_ix (Xk.k_ixL (K := K) (by rfl)) (pv 0) (pv 4) (fun _ _ => rfl)) pa_nil))))))
      (pss_one (ps_ret (pv 3)))))), ?_⟩
  wtm_at "x0"
  wtm_at "xs"
  intro sp H1 hsp s1 g0
  wtm_at "xs"
  refine Xk.x_range (fun i σ' H' => ∃ (y4 : Option V) (qs : List Addr), σ' = [some (.ref a), some (.int n), some (.int m), some (.ref sp), y4, none] ∧ Same H H' ∧ H' sp = some (.lst (qs.map V.ref)) ∧ qs.length = i ∧ Dis qs ∧ ∀ q ∈ qs, Xk.Fr q H ∧ q ≠ sp ∧ H' q = some (.lst [])) ⟨by omega, by omega⟩ ⟨_, [], rfl, s1, g0, rfl, fun i j q z => by simp at z, fun e z => by cases z⟩ ?_ ?_
  · rintro i σ' H' hi ⟨y4, qs, rfl, s2, g, ql, di, qe⟩
    have hgl : (qs.map V.ref).length < 100000 := by
      rw [List.length_map]
      omega
    wtm_at "xs"
    intro np H3 hnp s3 g3
    have gs3 := s3 _ _ g
    have nn : np ≠ sp := (Xk.ne_new hnp g).symm
    wtm_at "xs"
    refine ⟨_, qs ++ [np], rfl, Xk.same_mut (s2.trans s3) hsp, by rw [upd_same, List.map_append]; rfl, by rw [List.length_append, ql]; rfl, di.snoc fun q hq => Xk.ne_new hnp (qe q hq).2.2, fun e he => ?_⟩
    rcases List.mem_append.mp he with he | he
    · exact ⟨(qe e he).1, (qe e he).2.1, (upd_ne (qe e he).2.1).trans (s3 _ _ (qe e he).2.2)⟩
    · rw [List.mem_singleton.mp he]
      exact ⟨Xk.free_back hnp s2, nn, (upd_ne nn).trans g3⟩
  · rintro σ' H2 ⟨y4, qs, rfl, s2, g, ql, di, qe⟩
    have ha2 := Xk.sq_same ha s2
    wtm_at "xs"
    rw [List.length_map]
    refine Xk.x_range (fun i σ' H' => ∃ (y4 y5 : Option V) (zss : List (List Str)), σ' = [some (.ref a), some (.int n), some (.int m), some (.ref sp), y4, y5] ∧ Same H H' ∧ H' sp = some (.lst (qs.map V.ref)) ∧ zss.length = qs.length ∧ (∀ (i : Nat) (q : Addr) (z : List Str), qs[i]? = some q → zss[i]? = some z → H' q = some (.lst (z.map V.str))) ∧ zss.flatten.Perm (ks.take i)) ⟨by omega, by omega⟩ ⟨_, _, List.replicate qs.length [], rfl, s2, g, List.length_replicate, fun i q z hq hz => ?_, ?_⟩ ?_ ?_
    · have : z = [] := List.eq_of_mem_replicate (List.mem_of_getElem? hz)
      rw [this]
      exact (qe q (List.mem_of_getElem? hq)).2.2
    · rw [List.take_zero, List.flatten_replicate_nil]
    · clear g
      rintro i σ' H3 hi ⟨y4, y5, zss, rfl, s3, g, zl, qz, pm⟩
      have ha3 := Xk.sq_same ha s3
      wtm_at "xs"
      have e1 := Int.emod_nonneg (n / (3 * (i : Int) + 1)) (show m ≠ 0 by omega)
      have e2 := Int.emod_lt_of_pos (n / (3 * (i : Int) + 1)) (show 0 < m by omega)
      obtain ⟨j, hj⟩ := Int.eq_ofNat_of_zero_le e1
      obtain ⟨d, hd⟩ := Xk.lt_at (xs := qs) (j := j) (by omega)
      obtain ⟨zs, hz0⟩ := Xk.lt_at (xs := zss) (j := j) (by omega)
      have dm := List.mem_of_getElem? hd
      have hz := qz j d zs hd hz0
      obtain ⟨k, hk'⟩ := Xk.lt_at (xs := ks) (j := i) (by omega)
      have pl := pm.length_eq
      have hzl : zs.length ≤ zss.flatten.length := by
        have := List.mem_of_getElem? hz0
        obtain ⟨u, v, rfl⟩ := List.append_of_mem this
        simp only [List.flatten_append, List.flatten_cons, List.length_append]
        omega
      have hgl : (zs.map V.str).length < 100000 := by
        rw [List.length_map]
        rw [List.length_take] at pl
        omega
      refine Xk.x_ixL (Xk.sq_of g) (Xk.at_nat hj (Xk.map_at hd)) ?_
      wtm_at "xs"
      refine ⟨_, _, zss.set j (zs ++ [k]), rfl, Xk.same_mut s3 (qe d dm).1, (upd_ne (qe d dm).2.1.symm).trans g, by rw [List.length_set]; exact zl, fun i2 q2 z2 hq2 hz2 => ?_, ?_⟩
      · by_cases ed : i2 = j
        · subst ed
          have eq2 : q2 = d := Option.some.inj (hq2.symm.trans hd)
          have hjl := Xk.at_lt hz0
          rw [List.getElem?_set_self hjl] at hz2
          cases hz2
          rw [eq2, upd_same, List.map_append]
          rfl
        · have nq : q2 ≠ d := fun z => ed (di i2 j d (by rw [← z]; exact hq2) hd)
          rw [List.getElem?_set_ne (Ne.symm ed)] at hz2
          exact (upd_ne nq).trans (qz i2 q2 z2 hq2 hz2)
      · rw [List.take_add_one, hk']
        exact (flat_set hz0).trans (List.Perm.append_right _ pm)
    · rintro σ' H3 ⟨y4, y5, zss, rfl, s3, g, zl, qz, pm⟩
      rw [Int.toNat_natCast, List.take_length] at pm
      wtm_at "xs"
      exact q H3 sp qs zss s3 hsp g (by omega) zl (fun i e z he hz => ⟨(qe e (List.mem_of_getElem? he)).1, qz i e z he hz⟩) pm
--CUT--
theorem VsAt.upl {H : Hp} {q a : Addr} {es : List (Addr × Nat × V)} {ys : List V} {o : HO} (h : VsAt H q es) (e : H a = some (.lst ys)) : VsAt (upd H a o) q es := ⟨keep_tup h.tp e, fun x hx => keep_tup (h.it x hx) e⟩
theorem WsAt.upl {H : Hp} {q a : Addr} {es : List (Addr × Str × V)} {ys : List V} {o : HO} (h : WsAt H q es) (e : H a = some (.lst ys)) : WsAt (upd H a o) q es := ⟨keep_tup h.tp e, fun x hx => keep_tup (h.it x hx) e⟩
theorem PtAt.upl {H : Hp} {q a : Addr} {C : List CE} {D : List DE} {ys : List V} {o : HO} (h : PtAt H q C D) (e : H a = some (.lst ys)) : PtAt (upd H a o) q C D := by
  obtain ⟨pc, pd, t1, t2, t3⟩ := h.tp
  exact ⟨⟨pc, pd, keep_tup t1 e, keep_tup t2 e, keep_tup t3 e⟩, fun x hx => keep_tup (h.ck x hx) e, fun x hx => keep_tup (h.dd x hx) e, fun x hx => keep_tup (h.dx x hx) e, h.cl, h.dl⟩
theorem VsAt.butL {H H' : Hp} {q a : Addr} {es : List (Addr × Nat × V)} {ys : List V} (h : VsAt H q es) (b : Xk.But a H H') (e : H a = some (.lst ys)) : VsAt H' q es := ⟨but_tupL b e h.tp, fun x hx => but_tupL b e (h.it x hx)⟩
theorem WsAt.butL {H H' : Hp} {q a : Addr} {es : List (Addr × Str × V)} {ys : List V} (h : WsAt H q es) (b : Xk.But a H H') (e : H a = some (.lst ys)) : WsAt H' q es := ⟨but_tupL b e h.tp, fun x hx => but_tupL b e (h.it x hx)⟩
theorem TrAt.butL {H H' : Hp} {q a : Addr} {x : Tr} {ys : List V} (h : TrAt H q x) (b : Xk.But a H H') (e : H a = some (.lst ys)) : TrAt H' q x := ⟨but_tupL b e h.tp, h.ve.butL b e, h.va.butL b e, h.vw.butL b e, h.el, h.al⟩
theorem nodup_sub {xs ys : List Str} (nd : xs.Nodup) (h : ∀ x ∈ xs, x ∈ ys) : xs.length ≤ ys.length := by
  induction xs generalizing ys with
  | nil => exact Nat.zero_le _
  | cons x r ih =>
    obtain ⟨n1, n2⟩ := List.nodup_cons.mp nd
    obtain ⟨u, v, e⟩ := List.append_of_mem (h x (List.mem_cons_self ..))
    have := ih (ys := u ++ v) n2 fun y hy => by
      have h1 := h y (List.mem_cons_of_mem _ hy)
      rw [e] at h1
      rcases List.mem_append.mp h1 with h1 | h1
      · exact List.mem_append_left _ h1
      · rcases List.mem_cons.mp h1 with h1 | h1
        · exact absurd (h1 ▸ hy) n1
        · exact List.mem_append_right _ h1
    rw [e, List.length_append, List.length_cons, List.length_cons]
    rw [List.length_append] at this
    omega
theorem TrAt.upl {H : Hp} {q a : Addr} {x : Tr} {ys : List V} {o : HO} (h : TrAt H q x) (e : H a = some (.lst ys)) : TrAt (upd H a o) q x := ⟨keep_tup h.tp e, h.ve.upl e, h.va.upl e, h.vw.upl e, h.el, h.al⟩
/-- what trying a part told -/
structure TrOk (ks : List Str) (kvs : Kvs) (cs : List Ck) (ds : List Dd) (zs : List Str) (x : Tr) : Prop where
  ex : ∃ (kn : Kvs) (C' : List CE) (D' : List DE), KvOk ks kn ∧ Ag zs kn kvs ∧ csOf C' = sel (·.1) (inB zs) cs ∧ dsOf D' = sel Dd.key (inB zs) ds ∧ x.held = heldP kn C' ∧ x.es.map (·.2) = valuesOf kn C' ∧ (x.held = false → x.as = [] ∧ x.ws = []) ∧
    (x.held = true → x.as.map (·.2) = answersOf kn D' ∧ ∃ ts : List Str, ts.Nodup ∧ (∀ t, t ∈ ts ↔ KeyOf C' D' t) ∧ x.ws.map (·.2) = writesOf kn (doAll kn (ddOf D')).1 ts)
def NmOk (C : List (Addr × Ck)) (D : List (Addr × Dd)) (zs ts : List Str) : Prop := ts.Nodup ∧ ∀ t, t ∈ ts ↔ t ∈ zs ∧ KeyOfD C D t
theorem key_part {C : List (Addr × Ck)} {D : List (Addr × Dd)} {C' : List CE} {D' : List DE} {zs : List Str} (e1 : csOf C' = sel (·.1) (inB zs) (C.map (·.2))) (e2 : dsOf D' = sel Dd.key (inB zs) (D.map (·.2))) (t : Str) : KeyOf C' D' t ↔ t ∈ zs ∧ KeyOfD C D t := by
  have m1 : (∃ e ∈ C', e.2.2.1 = t) ↔ t ∈ zs ∧ ∃ e ∈ C, e.2.1 = t := by
    constructor
    · rintro ⟨e, he, rfl⟩
      have h1 : e.2 ∈ csOf C' := List.mem_map_of_mem (f := fun e : CE => e.2) he
      rw [e1] at h1
      have h2 := sel_mem h1
      obtain ⟨f, hf, ef⟩ := List.mem_map.mp h2.1
      exact ⟨of_decide_eq_true h2.2, f, hf, by rw [ef]⟩
    · rintro ⟨hz, e, he, rfl⟩
      obtain ⟨i, hi⟩ := List.mem_iff_getElem?.mp (List.mem_map_of_mem (f := (·.2)) he)
      have h1 : (i, e.2) ∈ sel (·.1) (inB zs) (C.map (·.2)) := by
        refine List.mem_map.mpr ⟨(e.2, i), List.mem_filter.mpr ⟨?_, decide_eq_true hz⟩, rfl⟩
        exact List.mem_zipIdx_iff_getElem?.mpr hi
      rw [← e1] at h1
      obtain ⟨f, hf, ef⟩ := List.mem_map.mp h1
      exact ⟨f, hf, by rw [ef]⟩
  have m2 : (∃ e ∈ D', e.2.2.2.key = t) ↔ t ∈ zs ∧ ∃ e ∈ D, e.2.key = t := by
    constructor
    · rintro ⟨e, he, rfl⟩
      have h1 : (e.2.1, e.2.2.2) ∈ dsOf D' := List.mem_map_of_mem (f := fun e : DE => (e.2.1, e.2.2.2)) he
      rw [e2] at h1
      have h2 := sel_mem h1
      obtain ⟨f, hf, ef⟩ := List.mem_map.mp h2.1
      exact ⟨of_decide_eq_true h2.2, f, hf, by rw [ef]⟩
    · rintro ⟨hz, e, he, rfl⟩
      obtain ⟨i, hi⟩ := List.mem_iff_getElem?.mp (List.mem_map_of_mem (f := (·.2)) he)
      have h1 : (i, e.2) ∈ sel Dd.key (inB zs) (D.map (·.2)) := by
        refine List.mem_map.mpr ⟨(e.2, i), List.mem_filter.mpr ⟨?_, decide_eq_true hz⟩, rfl⟩
        exact List.mem_zipIdx_iff_getElem?.mpr hi
      rw [← e2] at h1
      obtain ⟨f, hf, ef⟩ := List.mem_map.mp h1
      have ef2 : f.2.2.2 = e.2 := (Prod.mk.inj ef).2
      exact ⟨f, hf, by rw [ef2]⟩
  unfold KeyOf KeyOfD
  rw [m1, m2, ← and_or_left]
def sp__law_tried_parts (K : PySem.W.Frag) : Sp := fun vs H Q _ => ∃ (r p sp : Addr) (kvs : Kvs) (C : List (Addr × Ck)) (D : List (Addr × Dd)) (ks : List Str) (qs : List Addr) (zss : List (List Str)), vs = [.ref r, .ref p, .ref sp] ∧ H r = some (.dK kvs) ∧ KvOk ks kvs ∧ ks.length ≤ 50 ∧ DlAt H p C D ∧ KsOk ks ∧ (∀ e ∈ C, e.2.1 ∈ ks) ∧ (∀ e ∈ D, e.2.key ∈ ks) ∧
  SqL K H sp (qs.map V.ref) ∧ zss.length = qs.length ∧ qs.length ≤ 10 ∧ (∀ (i : Nat) (q : Addr) (z : List Str), qs[i]? = some q → zss[i]? = some z → H q = some (.lst (z.map V.str)) ∧ z.length ≤ 50 ∧ ∀ t ∈ z, t ∈ ks) ∧
  ∀ H' p3 tl nl (xs : List (Addr × Tr)) (tss : List (List Str)), Same H H' → H' p3 = some (.lst [.ref tl, .ref nl]) → H' tl = some (.lst (xs.map fun e => V.ref e.1)) → H' nl = some (.lst (tss.flatten.map V.str)) → xs.length = zss.length → tss.length = zss.length → (∀ e ∈ xs, TrAt H' e.1 e.2) →
    (∀ (i : Nat) (e : Addr × Tr) (z : List Str), xs[i]? = some e → zss[i]? = some z → TrOk ks kvs (C.map (·.2)) (D.map (·.2)) z e.2) → (∀ (i : Nat) (ts z : List Str), tss[i]? = some ts → zss[i]? = some z → NmOk C D z ts) → Q (.ref p3) H'
theorem ok__law_tried_parts (T : Txt K mg) : FnOk P w K mg base CX0 7 T.f__law_tried_parts T.d__law_tried_parts ["rows", "deal", "sets"] (sp__law_tried_parts K) := by
  refine T.F__law_tried_parts.ok sc__law_tried_parts (fun vs H Q E h => ?_) (fun cdv A outer s H vs Q E hr h => ?_)
  · obtain ⟨r, p, sp, kvs, C, D, ks, qs, zss, rfl, _⟩ := h
    rfl
  obtain ⟨r, p, sp, kvs, C, D, ks, qs, zss, rfl, hr0, hkv, hk, hD, hok, hCk, hDk, hs, hzl, hql, hq, q⟩ := h
  refine ⟨_, (pss_cons (ps_set (i := 3) sc__law_tried_parts.nd rfl (Or.inl rfl) (pe_lst pa_nil))
      (pss_cons (ps_set (i := 4) sc__law_tried_parts.nd rfl (Or.inl rfl) (pe_lst pa_nil))
      (pss_cons (ps_for PassesOwn.never rfl (pi_list (pv 2)) (pg_name (i := 5) sc__law_tried_parts.nd rfl (Or.inl rfl)) (pss_cons (ps_set (i := 6) sc__law_tried_parts.nd rfl (Or.inl rfl) (pe_call (ok_part_of T) (hr.mono (by decide)) (by rfl) T.g_part_of T.F_part_of.kp T.b_part_of .nil pass0 (pa_cons (pv 1) (pa_cons (pv 5) pa_nil))))
      (pss_cons (ps_set (i := 7) sc__law_tried_parts.nd rfl (Or.inl rfl) (pe_dnewK))
      (pss_cons (ps_for PassesOwn.never rfl (pi_list (pv 5)) (pg_name (i := 8) sc__law_tried_parts.nd rfl (Or.inl rfl)) (pss_one (ps_if (pt_cmp (pc_din (hu_of hr) (pv 8) (pv 0))) (pss_one (ps_dput (hu_of hr) (pv 7) (pv 8) (pe_dget (hu_of hr) (pv 0) (pv 8) (fun _ _ => rfl)) rfl)) pss_nil)))
      (pss_cons (ps_expr (pe_bm PySem.F.plainAttrs_list PySem.F.slot_list_append PySem.F.type_list_append mt_append (pv 3) (pa_cons (pe_call (ok_try_part T) (hr.mono (by decide)) (by rfl) T.g_try_part T.F_try_part.kp T.b_try_part .nil pass0 (pa_cons (pv 7) (pa_cons (pv 6) pa_nil))) pa_nil)))
      (pss_one (ps_for PassesOwn.never rfl (pi_tup (pe_call (ok_keys_of_part T) (hr.mono (by decide)) (by rfl) T.g_keys_of_part T.F_keys_of_part.kp T.b_keys_of_part .nil pass0 (pa_cons (pv 6) pa_nil))) (pg_name (i := 8) sc__law_tried_parts.nd rfl (Or.inl rfl)) (pss_one (ps_expr (pe_bm PySem.F.plainAttrs_list PySem.F.slot_list_append PySem.F.type_list_append mt_append (pv 4) (pa_cons (pv 8) pa_nil)))))))))))
      (pss_one (ps_ret (pe_lst (pa_cons (pv 3) (pa_cons (pv 4) pa_nil)))))))), ?_⟩
  wtm_at "x0"
  wtm_at "xs"
  intro tl H1 htl s1 g1
  wtm_at "xs"
  intro nl H2 hnl s2 g2
  have g12 := s2 _ _ g1
  have nne : nl ≠ tl := (Xk.ne_new hnl g1).symm
  have hnlH := Xk.free_back hnl s1
  wtm_at "xs"
  refine Xk.x_forL (fun i σ' H' => ∃ (y5 y6 y7 y8 : Option V) (xs : List (Addr × Tr)) (tss : List (List Str)), σ' = [some (.ref r), some (.ref p), some (.ref sp), some (.ref tl), some (.ref nl), y5, y6, y7, y8] ∧ Same H H' ∧ H' tl = some (.lst (xs.map fun e => V.ref e.1)) ∧ H' nl = some (.lst (tss.flatten.map V.str)) ∧ xs.length = i ∧ tss.length = i ∧ (∀ e ∈ xs, TrAt H' e.1 e.2) ∧
    (∀ (i : Nat) (e : Addr × Tr) (z : List Str), xs[i]? = some e → zss[i]? = some z → TrOk ks kvs (C.map (·.2)) (D.map (·.2)) z e.2) ∧ (∀ (i : Nat) (ts z : List Str), tss[i]? = some ts → zss[i]? = some z → NmOk C D z ts) ∧ tss.flatten.length ≤ 50 * i) (Xk.sq_same hs (s1.trans s2))
    ⟨_, _, _, _, [], [], rfl, s1.trans s2, g12, g2, rfl, rfl, fun e he => (by cases he), fun i e z h => by simp at h, fun i e z h => by simp at h, Nat.le_refl _⟩ ?_ ?_ ?_
  · rintro i σ' H' _ ⟨_, _, _, _, _, _, _, s3, _⟩
    exact Xk.sq_same hs s3
  · clear g1 g12 g2 s1 s2
    rintro i x σ' H3 hi ⟨y5, y6, y7, y8, xs, tss, rfl, s3, g3, g4, xl, tl', hxa, hxo, hnm, hfl⟩
    obtain ⟨q0, hq0, rfl⟩ : ∃ q0, qs[i]? = some q0 ∧ x = V.ref q0 := by
      rw [List.getElem?_map] at hi
      cases h : qs[i]? with
      | none => rw [h] at hi; cases hi
      | some e => rw [h] at hi; exact ⟨e, rfl, (Option.some.inj hi).symm⟩
    obtain ⟨zs, hz0⟩ := Xk.lt_at (xs := zss) (j := i) (by have := Xk.at_lt hq0; omega)
    obtain ⟨hqz, hzl2, hzk⟩ := hq i q0 zs hq0 hz0
    have hqz3 := s3 _ _ hqz
    have hr3 := s3 _ _ hr0
    wtm_at "xs"
    refine ⟨p, q0, zs, C, D, rfl, hD.same s3, .inl (Xk.sq_of hqz3), by omega, fun H4 pp C' D' s4 hPt e1 e2 => ?_⟩
    have gd := part_good (hD.same s3) hok hCk hDk e1 e2
    have g34 := s4 _ _ g3
    have g44 := s4 _ _ g4
    have hr4 := s4 _ _ hr3
    have hqz4 := s4 _ _ hqz3
    wtm_at "xs"
    intro kd H5 hkd s5 g5
    have hr5 := s5 _ _ hr4
    have hqz5 := s5 _ _ hqz4
    have nrk : r ≠ kd := Xk.ne_new hkd hr4
    wtm_at "xs"
    have hkn : ∀ (kn : Kvs) (t : Str) (j : Nat), zs[j]? = some t → (∀ u, valV kn (Sum.inr u) = if u ∈ zs.take j then valV kvs (Sum.inr u) else none) → ∀ kn' : Kvs, (∀ u, valV kn' (Sum.inr u) = if u = t then valV kvs (Sum.inr t) else valV kn (Sum.inr u)) → ∀ u, valV kn' (Sum.inr u) = if u ∈ zs.take (j + 1) then valV kvs (Sum.inr u) else none := fun kn t j ht h kn' h' u => by
      rw [h', List.take_add_one, ht]
      by_cases e : u = t
      · subst e
        rw [if_pos rfl, if_pos (List.mem_append_right _ (by simp))]
      · rw [if_neg e, h]
        have e2 : u ∈ zs.take j ++ (some t).toList ↔ u ∈ zs.take j := by simp [e]
        simp only [e2]
    refine Xk.x_forL (fun j σ' H' => ∃ (y8 : Option V) (kn : Kvs), σ' = [some (.ref r), some (.ref p), some (.ref sp), some (.ref tl), some (.ref nl), some (.ref q0), some (.ref pp), some (.ref kd), y8] ∧ Same H4 H' ∧ H' kd = some (.dK kn) ∧ KvOk ks kn ∧ kn.length ≤ j ∧ ∀ t, valV kn (Sum.inr t) = if t ∈ zs.take j then valV kvs (Sum.inr t) else none) (Xk.sq_of hqz5)
      ⟨_, [], rfl, s5, g5, ⟨.nil, fun p hp => by cases hp⟩, Nat.le_refl _, fun t => by rw [List.take_zero, if_neg List.not_mem_nil]; rfl⟩ ?_ ?_ ?_
    · rintro j σ' H' _ ⟨_, _, _, s6, _⟩
      exact Xk.sq_of (s6 _ _ hqz4)
    · rintro j x σ' H6 hj ⟨y8, kn, rfl, s6, g6, hkvn, hkl, hval⟩
      obtain ⟨t, ht, rfl⟩ : ∃ t, zs[j]? = some t ∧ x = V.str t := by
        rw [List.getElem?_map] at hj
        cases h : zs[j]? with
        | none => rw [h] at hj; cases hj
        | some e => rw [h] at hj; exact ⟨e, rfl, (Option.some.inj hj).symm⟩
      have hr6 := s6 _ _ hr4
      have hjl := Xk.at_lt ht
      cases hb : valV kvs (Sum.inr t) with
      | none =>
        wtm_at "xs"
        rw [hb, if_neg (show ¬ (none : Option V).isSome = true by decide)]
        wtm_at "xs"
        refine ⟨_, kn, rfl, s6, g6, hkvn, by omega, hkn kn t j ht hval kn fun u => ?_⟩
        by_cases e : u = t
        · rw [if_pos e, e, hval, hb]
          split <;> rfl
        · rw [if_neg e]
      | some v =>
        have few : kn.length < 1000 := by omega
        have hp5 := hkvn.put (v := v) (hzk t (List.mem_of_getElem? ht)) (hkv.val hb)
        wtm_at "xs"
        rw [hb, if_pos (show (some v).isSome = true from rfl)]
        wtm_at "xs"
        refine ⟨_, _, rfl, Xk.same_mut s6 hkd, upd_same, hp5.1, by omega, hkn kn t j ht hval _ fun u => ?_⟩
        rw [valV_put, hb]
        by_cases e : u = t
        · rw [if_pos e, if_pos (by rw [e])]
        · rw [if_neg e, if_neg (fun z => e (Sum.inr.inj z))]
    · rintro σ' H6 ⟨y8, kn, rfl, s6, g6, hkvn, hkl, hval⟩
      rw [List.length_map, List.take_length] at hval
      rw [List.length_map] at hkl
      have hag : Ag zs kn kvs := fun t ht => by rw [hval, if_pos ht]
      have hPt6 := hPt.same s6
      have g36 := s6 _ _ g34
      have g46 := s6 _ _ g44
      clear hval hkn
      wtm_at "xs"
      refine ⟨kd, pp, kn, C', D', ks, rfl, g6, hkvn, hk, hPt6, fun e he => ⟨(gd.1 e he).1, (gd.1 e he).2.2⟩, fun e he => ⟨(gd.2 e he).1, (gd.2 e he).2.2⟩, fun H7 q7 tv ta tw es as ws s7 hq7 hes has hws heq hf ht => ?_⟩
      have g37 := s7 _ _ g36
      have g47 := s7 _ _ g46
      have hxl : (xs.map fun e => V.ref e.1).length < 100000 := by
        rw [List.length_map]
        have := Xk.at_lt hq0
        omega
      have cl := hPt.cl
      have dl := hPt.dl
      have hTr : TrAt H7 q7 ⟨heldP kn C', tv, ta, tw, es, as, ws⟩ := by
        refine ⟨hq7, hes, has, hws, ?_, ?_⟩
        · have z := congrArg List.length heq
          unfold valuesOf at z
          rw [List.length_map, List.length_map] at z
          show es.length ≤ 20
          omega
        · show as.length ≤ 20
          cases hh : heldP kn C' with
          | false =>
            rw [(hf hh).1]
            exact Nat.zero_le _
          | true =>
            have z := congrArg List.length (ht hh).1
            unfold answersOf at z
            rw [List.length_map, List.length_zip, List.length_map] at z
            omega
      have hOk : TrOk ks kvs (C.map (·.2)) (D.map (·.2)) zs ⟨heldP kn C', tv, ta, tw, es, as, ws⟩ := by
        refine ⟨kn, C', D', hkvn, hag, e1, e2, rfl, heq, hf, fun hh => ⟨(ht hh).1, ?_⟩⟩
        obtain ⟨_, ts, _, o2, o3, o4⟩ := ht hh
        exact ⟨ts, o2, o3, o4⟩
      have s37 := ((s3.trans s4).trans s6).trans s7
      have hPt7 := hPt6.same s7
      wtm_at "xs"
      refine ⟨pp, C', D', rfl, ?_, fun H9 qk ts s9 hqk so nd mem => ?_⟩
      · exact hPt7.upl g37
      have hn9 := s9 _ _ ((upd_ne nne).trans g47)
      have tsl : ts.length ≤ 50 := by
        have := nodup_sub nd (fun t ht => ((key_part e1 e2 t).mp ((mem t).mp ht)).1)
        omega
      refine Xk.x_forT (fun j σ' H' => ∃ (y8 : Option V), σ' = [some (.ref r), some (.ref p), some (.ref sp), some (.ref tl), some (.ref nl), some (.ref q0), some (.ref pp), some (.ref kd), y8] ∧ Xk.But nl H9 H' ∧ H' nl = some (.lst ((tss.flatten ++ ts.take j).map V.str))) (Xk.st_of hqk) ⟨_, rfl, Xk.But.refl _ _, by rw [List.take_zero, List.append_nil]; exact hn9⟩ ?_ ?_ ?_
      · rintro j σ' H' _ ⟨y8, rfl, b, _⟩
        exact Xk.st_of (but_tupL b hn9 hqk)
      · rintro j x σ' H' hj ⟨y8, rfl, b, g⟩
        obtain ⟨t, ht2, rfl⟩ : ∃ t, ts[j]? = some t ∧ x = V.str t := by
          rw [List.getElem?_map] at hj
          cases h : ts[j]? with
          | none => rw [h] at hj; cases hj
          | some e => rw [h] at hj; exact ⟨e, rfl, (Option.some.inj hj).symm⟩
        have hjl := Xk.at_lt ht2
        have hql2 := Xk.at_lt hq0
        have hz : ((tss.flatten ++ ts.take j).map V.str).length < 100000 := by
          rw [List.length_map, List.length_append, List.length_take]
          omega
        wtm_at "xs"
        refine ⟨_, rfl, Xk.but_mut b, ?_⟩
        rw [upd_same, List.take_add_one, ht2]
        simp
      · rintro σ' H' ⟨y8, rfl, b, g⟩
        rw [List.length_map, List.take_length] at g
        have nt := key_part e1 e2
        have tl9 : H9 tl = some (.lst ((xs ++ [((q7, ⟨heldP kn C', tv, ta, tw, es, as, ws⟩) : Addr × Tr)]).map fun e => V.ref e.1)) := by
          have := s9 _ _ (upd_same (H := H7) (a := tl) (o := HO.lst ((xs.map fun e => V.ref e.1) ++ [V.ref q7])))
          rw [this, List.map_append]
          rfl
        have sm : Same H H9 := by
          refine Same.trans (Xk.same_mut s37 htl) s9
        have hTr9 : ∀ e ∈ xs ++ [((q7, ⟨heldP kn C', tv, ta, tw, es, as, ws⟩) : Addr × Tr)], TrAt H' e.1 e.2 := fun e he => by
          rcases List.mem_append.mp he with he | he
          · exact ((((hxa e he).same ((s4.trans s6).trans s7)).upl g37).same s9).butL b hn9
          · rw [List.mem_singleton.mp he]
            exact ((hTr.upl g37).same s9).butL b hn9
        refine ⟨_, _, _, _, xs ++ [((q7, ⟨heldP kn C', tv, ta, tw, es, as, ws⟩) : Addr × Tr)], tss ++ [ts], rfl, Xk.same_but b hnlH sm, b _ _ nne.symm tl9, by rw [g, List.flatten_append]; simp, by rw [List.length_append, xl]; rfl, by rw [List.length_append, tl']; rfl, hTr9, fun i2 e z he hz => ?_, fun i2 ts2 z he hz => ?_, ?_⟩
        · rcases Nat.lt_or_ge i2 xs.length with l | l
          · rw [List.getElem?_append_left l] at he
            exact hxo i2 e z he hz
          · have hl2 := Xk.at_lt he
            rw [List.length_append, List.length_singleton] at hl2
            obtain rfl : i2 = i := by omega
            rw [List.getElem?_append_right l, xl, Nat.sub_self] at he
            cases he
            rw [hz0] at hz
            cases hz
            exact hOk
        · rcases Nat.lt_or_ge i2 tss.length with l | l
          · rw [List.getElem?_append_left l] at he
            exact hnm i2 ts2 z he hz
          · have hl2 := Xk.at_lt he
            rw [List.length_append, List.length_singleton] at hl2
            obtain rfl : i2 = i := by omega
            rw [List.getElem?_append_right l, tl', Nat.sub_self] at he
            cases he
            rw [hz0] at hz
            cases hz
            exact ⟨nd, fun t => by rw [mem, nt]⟩
        · have e0 : [ts].flatten = ts := by simp
          rw [List.flatten_append, List.length_append, e0]
          omega
  · rintro σ' H3 ⟨y5, y6, y7, y8, xs, tss, rfl, s3, g3, g4, xl, tl', hxa, hxo, hnm, hfl⟩
    rw [List.length_map] at xl tl'
    wtm_at "xs"
    intro p4 H4 hp4 s4 e4
    exact q H4 p4 tl nl xs tss (s3.trans s4) e4 (s4 _ _ g3) (s4 _ _ g4) (by omega) (by omega) (fun e he => (hxa e he).same s4) hxo hnm
--CUT--
/-! ### the whole is its parts -/
theorem sel_in {α : Type} {k : α → Str} {f : Str → Bool} {xs : List α} {x : α} (h : x ∈ xs) (hf : f (k x) = true) : ∃ i, (i, x) ∈ sel k f xs := by
  obtain ⟨i, hi⟩ := List.mem_iff_getElem?.mp h
  exact ⟨i, List.mem_map.mpr ⟨(x, i), List.mem_filter.mpr ⟨List.mem_zipIdx_iff_getElem?.mpr hi, hf⟩, rfl⟩⟩
theorem all_cg {α : Type} {f g : α → Bool} : ∀ {l : List α}, (∀ a ∈ l, f a = g a) → l.all f = l.all g
  | [], _ => rfl
  | a :: l, h => by rw [List.all_cons, List.all_cons, h a (List.mem_cons_self ..), all_cg fun b hb => h b (List.mem_cons_of_mem _ hb)]
theorem flat_cg {α β : Type} {f g : α → List β} : ∀ {l : List α}, (∀ a ∈ l, f a = g a) → l.flatMap f = l.flatMap g
  | [], _ => rfl
  | a :: l, h => by rw [List.flatMap_cons, List.flatMap_cons, h a (List.mem_cons_self ..), flat_cg fun b hb => h b (List.mem_cons_of_mem _ hb)]
theorem held_idx {kvs : Kvs} : ∀ (cs : List Ck) (s : Nat), ((cs.zipIdx s).map fun p => (p.2, p.1)).all (fun e => decide (gv kvs e.2.1 = e.2.2)) = held kvs cs
  | [], _ => rfl
  | c :: cs, s => by
    have ih := held_idx (kvs := kvs) cs (s + 1)
    rw [List.zipIdx_cons, List.map_cons, List.all_cons, ih]
    unfold held
    rw [List.map_cons, List.map_cons, Bool.eq_iff_iff, Bool.and_eq_true, decide_eq_true_eq, decide_eq_true_eq, decide_eq_true_eq, List.cons.injEq]
theorem TrOk.held {ks : List Str} {kvs : Kvs} {cs : List Ck} {ds : List Dd} {zs : List Str} {x : Tr} (h : TrOk ks kvs cs ds zs x) : x.held = (selS 0 (·.1) (inB zs) cs).all (fun e => decide (gv kvs e.2.1 = e.2.2)) := by
  obtain ⟨kn, C', D', _, ag, e1, _, hh, _⟩ := h.ex
  have e2 : heldP kn C' = (csOf C').all (fun e => decide (gv kn e.2.1 = e.2.2)) := by
    unfold heldP csOf
    rw [List.all_map, List.all_map]
    rfl
  rw [hh, e2, e1, sel_eq]
  refine all_cg fun e he => ?_
  rw [← sel_eq] at he
  rw [ag.gv (of_decide_eq_true (sel_mem he).2)]
theorem TrOk.vals {ks : List Str} {kvs : Kvs} {cs : List Ck} {ds : List Dd} {zs : List Str} {x : Tr} (h : TrOk ks kvs cs ds zs x) : x.es.map (·.2) = (selS 0 (·.1) (inB zs) cs).map fun e => (e.1, gv kvs e.2.1) := by
  obtain ⟨kn, C', D', _, ag, e1, _, _, hv, _⟩ := h.ex
  have e2 : valuesOf kn C' = (csOf C').map (fun e => (e.1, gv kn e.2.1)) := by
    unfold valuesOf csOf
    rw [List.map_map]
    rfl
  rw [hv, e2, e1, sel_eq]
  refine List.map_congr_left fun e he => ?_
  rw [← sel_eq] at he
  rw [ag.gv (of_decide_eq_true (sel_mem he).2)]
theorem TrOk.answers {ks : List Str} {kvs : Kvs} {cs : List Ck} {ds : List Dd} {zs : List Str} {x : Tr} (h : TrOk ks kvs cs ds zs x) (hx : x.held = true) : x.as.map (·.2) = (selS 0 (fun p : Dd × V => p.1.key) (inB zs) (ds.zip (doAll kvs ds).2)).map fun e => (e.1, e.2.2) := by
  obtain ⟨kn, C', D', _, ag, _, e2, _, _, _, ha⟩ := h.ex
  have e3 : answersOf kn D' = ((dsOf D').map (·.1)).zip (doAll kn ((dsOf D').map (·.2))).2 := by
    unfold answersOf dsOf ddOf
    rw [List.map_map, List.map_map]
    rfl
  rw [(ha hx).1, e3, e2, sel_eq]
  exact (part_ans ds 0 ag).2
theorem swap_map {α β : Type} (g : α → β) : ∀ (xs : List α) (s : Nat), ((xs.zipIdx s).map fun p => (p.2, p.1)).map (fun e => (e.1, g e.2)) = ((xs.map g).zipIdx s).map fun p => (p.2, p.1)
  | [], _ => rfl
  | x :: xs, s => by
    rw [List.zipIdx_cons, List.map_cons, List.map_cons, List.map_cons, List.zipIdx_cons, List.map_cons, swap_map g xs (s + 1)]
section
variable {ks : List Str} {kvs : Kvs} {cs : List Ck} {ds : List Dd} {P : List (List Str × Tr)}
theorem all_held (hP : ∀ p ∈ P, TrOk ks kvs cs ds p.1 p.2) (nd : (P.map (·.1)).flatten.Nodup) (hc : ∀ c ∈ cs, c.1 ∈ (P.map (·.1)).flatten) : (P.map (·.2)).all (fun x => x.held) = held kvs cs := by
  have e1 : (P.map (·.2)).all (fun x => x.held) = ((P.map (·.1)).flatMap fun zs => selS 0 (·.1) (inB zs) cs).all (fun e => decide (gv kvs e.2.1 = e.2.2)) := by
    rw [List.all_map, List.flatMap_map, List.all_flatMap]
    exact all_cg fun p hp => (hP p hp).held
  rw [e1, (parts_all nd cs 0 hc).all_eq]
  exact held_idx cs 0
theorem all_vals (hP : ∀ p ∈ P, TrOk ks kvs cs ds p.1 p.2) (nd : (P.map (·.1)).flatten.Nodup) (hc : ∀ c ∈ cs, c.1 ∈ (P.map (·.1)).flatten) : (((P.map (·.2)).flatMap fun x => x.es).map (·.2)).Perm (((cs.map fun c => gv kvs c.1).zipIdx 0).map fun p => (p.2, p.1)) := by
  have e1 : ((P.map (·.2)).flatMap fun x => x.es).map (·.2) = ((P.map (·.1)).flatMap fun zs => selS 0 (·.1) (inB zs) cs).map fun e => (e.1, gv kvs e.2.1) := by
    rw [List.map_flatMap, List.map_flatMap, List.flatMap_map, List.flatMap_map]
    exact flat_cg fun p hp => (hP p hp).vals
  rw [e1, ← swap_map]
  exact (parts_all nd cs 0 hc).map _
theorem all_answers (hP : ∀ p ∈ P, TrOk ks kvs cs ds p.1 p.2 ∧ p.2.held = true) (nd : (P.map (·.1)).flatten.Nodup) (hd : ∀ d ∈ ds, d.key ∈ (P.map (·.1)).flatten) : (((P.map (·.2)).flatMap fun x => x.as).map (·.2)).Perm (((doAll kvs ds).2.zipIdx 0).map fun p => (p.2, p.1)) := by
  have e1 : ((P.map (·.2)).flatMap fun x => x.as).map (·.2) = ((P.map (·.1)).flatMap fun zs => selS 0 (fun p : Dd × V => p.1.key) (inB zs) (ds.zip (doAll kvs ds).2)).map fun e => (e.1, e.2.2) := by
    rw [List.map_flatMap, List.map_flatMap, List.flatMap_map, List.flatMap_map]
    exact flat_cg fun p hp => (hP p hp).1.answers (hP p hp).2
  have e2 : (doAll kvs ds).2 = (ds.zip (doAll kvs ds).2).map fun p => p.2 := by
    rw [List.map_snd_zip]
    rw [doAll_len]
    exact Nat.le_refl _
  rw [e1]
  have e3 := swap_map (fun p : Dd × V => p.2) (ds.zip (doAll kvs ds).2) 0
  rw [← e2] at e3
  rw [← e3]
  exact (parts_all nd (ds.zip (doAll kvs ds).2) 0 fun x hx => hd _ (List.of_mem_zip hx).1).map _
/-- what the parts join to is what the deal tells -/
theorem joined (hP : ∀ p ∈ P, TrOk ks kvs cs ds p.1 p.2) (nd : (P.map (·.1)).flatten.Nodup) (hc : ∀ c ∈ cs, c.1 ∈ (P.map (·.1)).flatten) (hd : ∀ d ∈ ds, d.key ∈ (P.map (·.1)).flatten) : joinW (P.map (·.2)) = (dealW kvs cs ds).2 := by
  have ah := all_held hP nd hc
  unfold joinW dealW
  rw [ah]
  by_cases h : held kvs cs = true
  · rw [if_pos h, if_pos h]
    rw [h] at ah
    have hx : ∀ p ∈ P, p.2.held = true := fun p hp => List.all_eq_true.mp ah p.2 (List.mem_map_of_mem hp)
    rw [by_place (all_answers (fun p hp => ⟨hP p hp, hx p hp⟩) nd hd)]
  · rw [if_neg h, if_neg h, by_place (all_vals hP nd hc)]
end
/-- what a part's writes do -/
theorem TrOk.step {ks : List Str} {kvs : Kvs} {cs : List Ck} {ds : List Dd} {zs : List Str} {x : Tr} (h : TrOk ks kvs cs ds zs x) (hx : x.held = true) (hds : ∀ d ∈ ds, d.ok ∧ d.key ∈ ks) (hzk : ∀ t ∈ zs, t ∈ ks) (hzl : zs.length ≤ 50) {cur : Kvs} (hk : KvOk ks cur) (hcur : ∀ t ∈ zs, valV cur (Sum.inr t) = valV kvs (Sum.inr t)) :
    KvOk ks (wrAll cur (x.ws.map (·.2))) ∧ (∀ t, valV (wrAll cur (x.ws.map (·.2))) (Sum.inr t) = if t ∈ zs then valV (doAll kvs ds).1 (Sum.inr t) else valV cur (Sum.inr t)) ∧ (∀ e ∈ x.ws, FV e.2.2 ∧ e.2.1 ∈ ks) ∧ x.ws.length ≤ 50 := by
  obtain ⟨kn, C', D', hkn, ag, e1, e2, _, _, _, ha⟩ := h.ex
  obtain ⟨_, ts, nd, mem, ew⟩ := ha hx
  have ed : ddOf D' = (selS 0 Dd.key (inB zs) ds).map (·.2) := by
    rw [← sel_eq, ← e2]
    unfold ddOf dsOf
    rw [List.map_map]
    rfl
  have hD : ∀ d ∈ ddOf D', d.ok ∧ d.key ∈ ks := fun d hd => by
    rw [ed] at hd
    obtain ⟨e, he, rfl⟩ := List.mem_map.mp hd
    rw [← sel_eq] at he
    exact hds _ (sel_mem he).1
  have h2 := doAll_ok (ddOf D') kn hkn hD
  have hag := (part_ans ds 0 ag).1
  rw [← ed] at hag
  have tz : ∀ t ∈ ts, t ∈ zs := fun t ht => by
    rcases (mem t).mp ht with ⟨e, he, rfl⟩ | ⟨e, he, rfl⟩
    · have h1 : e.2 ∈ csOf C' := List.mem_map_of_mem (f := fun e : CE => e.2) he
      rw [e1] at h1
      exact of_decide_eq_true (sel_mem h1).2
    · have h1 : (e.2.1, e.2.2.2) ∈ dsOf D' := List.mem_map_of_mem (f := fun e : DE => (e.2.1, e.2.2.2)) he
      rw [e2] at h1
      exact of_decide_eq_true (sel_mem h1).2
  have off : ∀ t ∈ zs, t ∉ ts → ∀ d ∈ ds, d.key ≠ t := fun t hz hn d hd e => by
    obtain ⟨i, hi⟩ := sel_in (k := Dd.key) (f := inB zs) hd (by rw [e]; exact decide_eq_true hz)
    rw [← e2] at hi
    obtain ⟨f, hf, ef⟩ := List.mem_map.mp hi
    have ef2 : f.2.2.2 = d := (Prod.mk.inj ef).2
    exact hn ((mem t).mpr (.inr ⟨f, hf, by rw [ef2]; exact e⟩))
  rw [ew]
  have win : ∀ p ∈ writesOf kn (doAll kn (ddOf D')).1 ts, p.1 ∈ ks ∧ FV p.2 := fun p hp => by
    obtain ⟨t, ht, rfl⟩ := List.mem_map.mp hp
    obtain ⟨ht1, ht2⟩ := List.mem_filter.mp ht
    exact ⟨hzk t (tz t ht1), gv_fv h2.1 t⟩
  refine ⟨wrAll_ok _ hk win, fun t => ?_, fun e he => ?_, ?_⟩
  · rw [wr_val hkn h2.1 t ts cur nd fun s hs => by rw [hcur s (tz s hs), ag s (tz s hs)]]
    by_cases ht : t ∈ ts
    · rw [if_pos ht, if_pos (tz t ht), hag t (tz t ht)]
    · rw [if_neg ht]
      by_cases hz : t ∈ zs
      · rw [if_pos hz, hcur t hz, doAll_off ds (off t hz ht)]
      · rw [if_neg hz]
  · have h1 : e.2 ∈ x.ws.map (·.2) := List.mem_map_of_mem (f := fun e : Addr × Str × V => e.2) he
    rw [ew] at h1
    exact ⟨(win _ h1).2, (win _ h1).1⟩
  · have z := congrArg List.length ew
    unfold writesOf at z
    rw [List.length_map, List.length_map] at z
    have z2 := List.length_filter_le (fun t => !decide (gv (doAll kn (ddOf D')).1 t = gv kn t)) ts
    have z3 := nodup_sub nd tz
    omega
--CUT--
theorem DlAt.bt {P : Addr} {H H' : Hp} {q : Str} {p : Addr} {C : List (Addr × Ck)} {D : List (Addr × Dd)} (h : DlAt H p C D) (b : Bt P H H') (hT : LamX.TabS H P q) : DlAt H' p C D := by
  obtain ⟨pc, pd, t1, t2, t3⟩ := h.tp
  exact ⟨⟨pc, pd, b.tup hT t1, b.tup hT t2, b.tup hT t3⟩, fun e he => b.tup hT (h.ck e he), fun e he => b.tup hT (h.dd e he), h.fv, h.ok, h.cl, h.dl⟩
theorem TrAt.bt {P : Addr} {H H' : Hp} {q : Str} {p : Addr} {x : Tr} (h : TrAt H p x) (b : Bt P H H') (hT : LamX.TabS H P q) : TrAt H' p x :=
  ⟨b.tup hT h.tp, ⟨b.tup hT h.ve.tp, fun e he => b.tup hT (h.ve.it e he)⟩, ⟨b.tup hT h.va.tp, fun e he => b.tup hT (h.va.it e he)⟩, ⟨b.tup hT h.vw.tp, fun e he => b.tup hT (h.vw.it e he)⟩, h.el, h.al⟩
structure Bd (K : PySem.W.Frag) (H : Hp) (P a kl r dp : Addr) (ns : List Int) (ks : List Str) (kvs : Kvs) (C : List (Addr × Ck)) (D : List (Addr × Dd)) (xs : List (Addr × Tr)) : Prop where
  a : SqL K H a (ns.map V.int)
  kl : H kl = some (.lst (ks.map V.str))
  r : H r = some (.dK kvs)
  D : DlAt H dp C D
  x : ∀ e ∈ xs, TrAt H e.1 e.2
  T : LamX.TabS H P qL
section
variable {H H' : Hp} {P a kl r dp : Addr} {ns : List Int} {ks : List Str} {kvs : Kvs} {C : List (Addr × Ck)} {D : List (Addr × Dd)} {xs : List (Addr × Tr)}
theorem Bd.same (h : Bd K H P a kl r dp ns ks kvs C D xs) (s : Same H H') : Bd K H' P a kl r dp ns ks kvs C D xs := ⟨Xk.sq_same h.a s, s _ _ h.kl, s _ _ h.r, h.D.same s, fun e he => (h.x e he).same s, h.T.ext s⟩
theorem Bd.bt (h : Bd K H P a kl r dp ns ks kvs C D xs) (b : Bt P H H') (hT : LamX.TabS H' P qL) : Bd K H' P a kl r dp ns ks kvs C D xs := ⟨b.sq h.T h.a, b.lst h.T h.kl, b.dk h.T h.r, h.D.bt b h.T, fun e he => (h.x e he).bt b h.T, hT⟩
end
theorem TabS.but {H H' : Hp} {P r : Addr} {q : Str} {kvs : Kvs} (h : LamX.TabS H P q) (b : Xk.But r H H') (hr : H r = some (.dK kvs)) : LamX.TabS H' P q := by
  obtain ⟨ps, h1, h2, h3⟩ := h
  refine ⟨ps, b _ _ (fun z => by rw [z, hr] at h1; cases h1) h1, h2, fun pos cv hc => ?_⟩
  obtain ⟨c, e1, e2⟩ := h3 pos cv hc
  refine ⟨c, e1, b _ _ (fun z => ?_) e2⟩
  rw [z, hr] at e2
  unfold LamX.CodeO at e2
  cases e2
theorem sq_butD {H H' : Hp} {r a : Addr} {kvs : Kvs} {xs : List V} (h : SqL K H a xs) (b : Xk.But r H H') (hr : H r = some (.dK kvs)) : SqL K H' a xs := by
  rcases h with (h | ⟨u, h⟩) | h
  · exact .inl (.inl (b _ _ (fun z => by rw [z, hr] at h; cases h) h))
  · exact .inl (.inr ⟨u, b _ _ (fun z => by rw [z, hr] at h; cases h) h⟩)
  · exact .inr h
/-- data of what was tried -/
def pairD (e : Addr × Nat × V) : PyData := .tuple [.int (e.2.1 : Nat), pd e.2.2]
def trD (x : Tr) : PyData := .tuple [.int (if x.held = true then 1 else 0), .tuple (x.es.map pairD), .tuple (x.as.map pairD), .tuple (x.ws.map fun e => .tuple [.str e.2.1, pd e.2.2])]
structure TrG (x : Tr) : Prop where
  e : ∀ e ∈ x.es, FV e.2.2
  a : ∀ e ∈ x.as, FV e.2.2
  w : ∀ e ∈ x.ws, FV e.2.2 ∧ isKey (.str e.2.1) = true
theorem tr_pk {H : Hp} {q : Addr} {x : Tr} (h : TrAt H q x) (g : TrG x) : Xk.Pk K H 9 (.ref q) (trD x) := by
  have vs : ∀ {t : Addr} {es : List (Addr × Nat × V)}, VsAt H t es → (∀ e ∈ es, FV e.2.2) → Xk.Pk K H 8 (.ref t) (.tuple (es.map pairD)) := fun {t es} h1 h2 =>
    Xk.pk_tup (n := 7) (Xk.st_of h1.tp) (pk_all es fun e he => Xk.pk_tup2 (n := 6) (Xk.st_of (h1.it e he)) Xk.pk_int (pk_fv (h2 e he)))
  have ws : Xk.Pk K H 8 (.ref x.tw) (.tuple (x.ws.map fun e => .tuple [.str e.2.1, pd e.2.2])) :=
    Xk.pk_tup (n := 7) (Xk.st_of h.vw.tp) (pk_all x.ws fun e he => Xk.pk_tup2 (n := 6) (Xk.st_of (h.vw.it e he)) (pk_key (g.w e he).2) (pk_fv (g.w e he).1))
  exact Xk.pk_tup (n := 8) (Xk.st_of h.tp) (Xk.pk_cons Xk.pk_int (Xk.pk_cons (vs h.ve g.e) (Xk.pk_cons (vs h.va g.a) (Xk.pk_cons ws Xk.pk_nil))))
theorem TrOk.good {ks : List Str} {kvs : Kvs} {cs : List Ck} {ds : List Dd} {zs : List Str} {x : Tr} (h : TrOk ks kvs cs ds zs x) (hks : KsOk ks) (hkv : KvOk ks kvs) (hds : ∀ d ∈ ds, d.ok ∧ d.key ∈ ks) (hzk : ∀ t ∈ zs, t ∈ ks) (hzl : zs.length ≤ 50) : TrG x := by
  refine ⟨fun e he => ?_, fun e he => ?_, fun e he => ?_⟩
  · have h1 : e.2 ∈ x.es.map (·.2) := List.mem_map_of_mem (f := fun e : Addr × Nat × V => e.2) he
    rw [h.vals] at h1
    obtain ⟨f, _, ef⟩ := List.mem_map.mp h1
    rw [← ef]
    exact gv_fv hkv _
  · cases hx : x.held with
    | false =>
      obtain ⟨_, _, _, _, _, _, _, _, _, hf, _⟩ := h.ex
      rw [(hf hx).1] at he
      cases he
    | true =>
      have h1 : e.2 ∈ x.as.map (·.2) := List.mem_map_of_mem (f := fun e : Addr × Nat × V => e.2) he
      rw [h.answers hx] at h1
      obtain ⟨f, hf, ef⟩ := List.mem_map.mp h1
      rw [← ef]
      rw [← sel_eq] at hf
      exact (doAll_ok ds kvs hkv hds).2.1 _ (List.of_mem_zip (sel_mem hf).1).2
  · cases hx : x.held with
    | false =>
      obtain ⟨_, _, _, _, _, _, _, _, _, hf, _⟩ := h.ex
      rw [(hf hx).2] at he
      cases he
    | true =>
      have h1 := (h.step hx hds hzk hzl hkv fun _ _ => rfl).2.2.1 e he
      exact ⟨h1.1, hks _ h1.2⟩
theorem flat_perm {α : Type} : ∀ {ts zs : List (List α)}, ts.length = zs.length → (∀ (i : Nat) (t z : List α), ts[i]? = some t → zs[i]? = some z → t.Perm z) → ts.flatten.Perm zs.flatten
  | [], [], _, _ => List.Perm.refl _
  | [], _ :: _, h, _ => by cases h
  | _ :: _, [], h, _ => by cases h
  | t :: ts, z :: zs, h, hp => by
    rw [List.flatten_cons, List.flatten_cons]
    exact (hp 0 t z rfl rfl).append (flat_perm (by simpa using h) fun i t z h1 h2 => hp (i + 1) t z h1 h2)
--CUT--
def sp_law (K : PySem.W.Frag) (P : Addr) : Sp := fun vs H Q _ => ∃ (a : Addr) (ns : List Int), vs = [.ref a] ∧ SqL K H a (ns.map V.int) ∧ ns.length ≤ 63 ∧ LamX.TabS H P qL ∧ ∀ H', Q (.bl true) H'
theorem ok_law (T : Txt K mg) (B : LamX.TabB base mg T.c__by_place T.P__by_place) : FnOk P w K mg base CX0 8 T.f_law T.d_law ["script"] (sp_law K T.P__by_place) := by
  refine T.F_law.ok sc_law (fun vs H Q E h => ?_) (fun cdv A outer s H vs Q E hr h => ?_)
  · obtain ⟨a, ns, rfl, _⟩ := h
    rfl
  obtain ⟨a, ns, rfl, hS, hl, hT, q⟩ := h
  refine ⟨_, (pss_cons (ps_set (i := 1) sc_law.nd rfl (Or.inl rfl) (pe_call (ok__law_keys T) (hr.mono (by decide)) (by rfl) T.g__law_keys T.F__law_keys.kp T.b__law_keys .nil pass0 (pa_cons (pv 0) (pa_cons (pe_int) (pa_cons (pe_int) pa_nil)))))
      (pss_cons (ps_set (i := 2) sc_law.nd rfl (Or.inl rfl) (pe_call (ok__law_rows T) (hr.mono (by decide)) (by rfl) T.g__law_rows T.F__law_rows.kp T.b__law_rows .nil pass0 (pa_cons (pv 0) (pa_cons (pe_int) (pa_cons (pv 1) pa_nil)))))
      (pss_cons (ps_for PassesOwn.never rfl (pi_range1 (by rfl) T.m_range (pa_cons (pe_int) pa_nil)) (pg_name (i := 3) sc_law.nd rfl (Or.inl rfl)) (pss_cons (ps_set (i := 4) sc_law.nd rfl (Or.inl rfl) (pe_call (ok__law_deal T) (hr.mono (by decide)) (by rfl) T.g__law_deal T.F__law_deal.kp T.b__law_deal .nil pass0 (pa_cons (pv 1) (pa_cons (pv 2) (pa_cons (pe_call (ok__law_row T) (hr.mono (by decide)) (by rfl) T.g__law_row T.F__law_row.kp T.b__law_row .nil pass0 (pa_cons (pv 0) (pa_cons (pe_op op_add (pe_int) (pv 3)) pa_nil))) (pa_cons (pe_call (ok__law_row T) (hr.mono (by decide)) (by rfl) T.g__law_row T.F__law_row.kp T.b__law_row .nil pass0 (pa_cons (pv 0) (pa_cons (pe_op op_add (pe_int) (pv 3)) pa_nil))) pa_nil))))))
      (pss_cons (ps_asg (pe_call (ok__law_digits T) (hr.mono (by decide)) (by rfl) T.g__law_digits T.F__law_digits.kp T.b__law_digits .nil pass0 (pa_cons (pe_call (ok__law_row T) (hr.mono (by decide)) (by rfl) T.g__law_row T.F__law_row.kp T.b__law_row .nil pass0 (pa_cons (pv 0) (pa_cons (pe_op op_add (pe_int) (pv 3)) pa_nil))) (pa_cons (pe_lst (pa_cons (pe_int) (pa_cons (pe_int) pa_nil))) pa_nil))) (pg_lst rfl (pgs_cons (pg_name (i := 5) sc_law.nd rfl (Or.inl rfl)) (pgs_cons (pg_name (i := 6) sc_law.nd rfl (Or.inl rfl)) pgs_nil))))
      (pss_cons (ps_set (i := 7) sc_law.nd rfl (Or.inl rfl) (pe_callTy (Xk.k_list (K := K) (by rfl)) (by rfl) T.m_list (by decide +kernel) (pa_cons (pe_call (ok_keys_of T) (hr.mono (by decide)) (by rfl) T.g_keys_of T.F_keys_of.kp T.b_keys_of .nil pass0 (pa_cons (pv 4) pa_nil)) pa_nil)))
      (pss_cons (ps_set (i := 8) sc_law.nd rfl (Or.inl rfl) (pe_call (ok__law_tried_parts T) (hr.mono (by decide)) (by rfl) T.g__law_tried_parts T.F__law_tried_parts.kp T.b__law_tried_parts .nil pass0 (pa_cons (pv 2) (pa_cons (pv 4) (pa_cons (pe_call (ok__law_split T) (hr.mono (by decide)) (by rfl) T.g__law_split T.F__law_split.kp T.b__law_split .nil pass0 (pa_cons (pv 7) (pa_cons (pe_op op_fdiv (pe_call (ok__law_row T) (hr.mono (by decide)) (by rfl) T.g__law_row T.F__law_row.kp T.b__law_row .nil pass0 (pa_cons (pv 0) (pa_cons (pe_op op_add (pe_int) (pv 3)) pa_nil))) (pe_int)) (pa_cons (pe_op op_add (pe_int) (pv 5)) pa_nil)))) pa_nil)))))
      (Evl.pss_cut (ps_if (pt_cmpR (Xk.k_neD (K := K) hr.units (by rfl)) (pe_callB (Xk.k_sortedS (K := K) (by rfl)) (by rfl) T.m_sorted (by decide +kernel) (pa_cons (pe_ix (Xk.k_ixL (K := K) (by rfl)) (pv 8) (pe_int) (fun _ _ => rfl)) pa_nil)) (pv 7) (nomark _)) (pss_one (ps_ret (pe_bl))) pss_nil)
      (pss_cons (ps_set (i := 9) sc_law.nd rfl (Or.inl rfl) (pe_op op_cat (pe_slice (Xk.k_slL (K := K) (by rfl)) (pe_ix (Xk.k_ixL (K := K) (by rfl)) (pv 8) (pe_int) (fun _ _ => rfl)) (po_some (pv 6)) po_none) (pe_slice (Xk.k_slL (K := K) (by rfl)) (pe_ix (Xk.k_ixL (K := K) (by rfl)) (pv 8) (pe_int) (fun _ _ => rfl)) po_none (po_some (pv 6)))))
      (pss_cons (ps_set (i := 10) sc_law.nd rfl (Or.inl rfl) (pe_call (ok__law_copy T) (hr.mono (by decide)) (by rfl) T.g__law_copy T.F__law_copy.kp T.b__law_copy .nil pass0 (pa_cons (pv 2) pa_nil)))
      (pss_cons (ps_set (i := 11) sc_law.nd rfl (Or.inl rfl) (pe_call (ok__law_deal_done T) (hr.mono (by decide)) (by rfl) T.g__law_deal_done T.F__law_deal_done.kp T.b__law_deal_done .nil pass0 (pa_cons (pv 10) (pa_cons (pv 4) pa_nil))))
      (pss_cons (ps_set (i := 12) sc_law.nd rfl (Or.inl rfl) (pe_callTy (Xk.k_list (K := K) (by rfl)) (by rfl) T.m_list (by decide +kernel) (pa_cons (pv 9) pa_nil)))
      (Evl.pss_cut (ps_if (PW.pt (pw_or (pt_not (pt_val (pe_call (ok__law_same_answer T) (hr.mono (by decide)) (by rfl) T.g__law_same_answer T.F__law_same_answer.kp T.b__law_same_answer .nil pass0 (pa_cons (pe_call (ok_join_parts T B) (hr.mono (by decide)) (by rfl) T.g_join_parts T.F_join_parts.kp T.b_join_parts .nil pass0 (pa_cons (pv 12) pa_nil)) (pa_cons (pv 11) pa_nil))))) (pw_or (pt_cmpR (Xk.k_neD (K := K) hr.units (by rfl)) (pe_call (ok_join_parts T B) (hr.mono (by decide)) (by rfl) T.g_join_parts T.F_join_parts.kp T.b_join_parts .nil pass0 (pa_cons (pe_callTy (Xk.k_tuple (K := K) (by rfl)) (by rfl) T.m_tuple (by decide +kernel) (pa_cons (pv 9) pa_nil)) pa_nil)) (pv 11) (nomark _)) (pw_or1 (pt_cmpR (Xk.k_neD (K := K) hr.units (by rfl)) (pv 12) (pv 9) (nomark _)))))) (pss_one (ps_ret (pe_bl))) pss_nil)
      (pss_cons (ps_set (i := 13) sc_law.nd rfl (Or.inl rfl) (pe_call (ok__law_copy T) (hr.mono (by decide)) (by rfl) T.g__law_copy T.F__law_copy.kp T.b__law_copy .nil pass0 (pa_cons (pv 2) pa_nil)))
      (Evl.pss_cut (ps_if (PW.pt (pw_or (pt_cmpR (Xk.k_neD (K := K) hr.units (by rfl)) (pe_call (ok_do_deal T) (hr.mono (by decide)) (by rfl) T.g_do_deal T.F_do_deal.kp T.b_do_deal .nil pass0 (pa_cons (pv 13) (pa_cons (pv 4) pa_nil))) (pv 11) (nomark _)) (pw_or1 (pt_cmpR (op_ne_dictA (Nat.lt_of_succ_lt (hu_of hr))) (pv 13) (pv 10) (nomark _))))) (pss_one (ps_ret (pe_bl))) pss_nil)
      (Evl.pss_cut (ps_if (pt_cmpR op_eq (pe_ix (Xk.k_ixT (K := K) (by rfl)) (pv 11) (pe_int) (fun _ _ => rfl)) (pe_str) (nomark _)) (pss_one (ps_for PassesOwn.never rfl (pi_list (pv 9)) (pg_name (i := 14) sc_law.nd rfl (Or.inl rfl)) (pss_one (ps_expr (pe_call (ok_write_rows T) (hr.mono (by decide)) (by rfl) T.g_write_rows T.F_write_rows.kp T.b_write_rows .nil pass0 (pa_cons (pv 2) (pa_cons (pe_ix (Xk.k_ixT (K := K) (by rfl)) (pv 14) (pe_int) (fun _ _ => rfl)) pa_nil))))))) pss_nil)
      (pss_one (ps_if (PW.pt (pw_or (pt_cmpR (op_ne_dictA (Nat.lt_of_succ_lt (hu_of hr))) (pv 2) (pv 10) (nomark _)) (pw_or1 (pt_cmpR (Xk.k_neD (K := K) hr.units (by rfl)) (pe_callB (k_sortedD rfl) (by rfl) T.m_sorted (by decide +kernel) (pa_cons (pv 2) pa_nil)) (pe_callB (k_sortedD rfl) (by rfl) T.m_sorted (by decide +kernel) (pa_cons (pv 10) pa_nil)) (nomark _))))) (pss_one (ps_ret (pe_bl))) pss_nil))))))))))))))))
      (pss_one (ps_ret (pe_bl)))))), ?_⟩
  wtm_at "x0"
  wtm_at "xs"
  refine ⟨a, 0, 8, ns, rfl, hS, hl, by decide, by decide, by decide, by decide, fun H1 kl ks s1 hkl hks hk1 hk2 hk3 hk4 => ?_⟩
  have ha1 := Xk.sq_same hS s1
  have hT1 := hT.ext s1
  clear hS s1 hkl hT
  wtm_at "xs"
  refine ⟨a, kl, 10, ns, ks, rfl, ha1, hl, by decide, by decide, Xk.sq_of hks, by omega, fun H2 r kvs s2 hr1 hr2 hkv hiv hlen => ?_⟩
  have ha2 := Xk.sq_same ha1 s2
  have hT2 := hT1.ext s2
  have hks2 := s2 _ _ hks
  clear ha1 hT1 hks s2 hr1
  wtm_at "xs"
  refine Xk.x_range (fun i σ' H' => ∃ (kvs : Kvs) (y3 y4 y5 y6 y7 y8 y9 y10 y11 y12 y13 y14 : Option V), σ' = [some (.ref a), some (.ref kl), some (.ref r), y3, y4, y5, y6, y7, y8, y9, y10, y11, y12, y13, y14] ∧ SqL K H' a (ns.map V.int) ∧ H' kl = some (.lst (ks.map V.str)) ∧ LamX.TabS H' T.P__by_place qL ∧ H' r = some (.dK kvs) ∧ KvOk ks kvs ∧ Iv kvs)
    ⟨by omega, by omega⟩ ⟨kvs, _, _, _, _, _, _, _, _, _, _, _, _, rfl, ha2, hks2, hT2, hr2, hkv, hiv⟩ ?_ ?_
  · rintro i0 σ' H3 hi ⟨kvs, y3, y4, y5, y6, y7, y8, y9, y10, y11, y12, y13, y14, rfl, ha3, hks3, hT3, hr3, hkv, hiv⟩
    have hfew := hkv.few
    wtm_at "xs"
    refine ⟨_, _, ns, rfl, ha3, hl, by omega, by omega, fun n1 hn1 => ?_⟩
    wtm_at "xs"
    refine ⟨_, _, ns, rfl, ha3, hl, by omega, by omega, fun n2 hn2 => ?_⟩
    wtm_at "xs"
    refine ⟨kl, r, n1, n2, ks, kvs, ks, rfl, Xk.sq_of hks3, hk1, by omega, hn1, hn2, hr3, hkv, hiv, fun H4 dp C D s4 hdp hD hDk hCk lc ld lcd => ?_⟩
    have hCk1 : ∀ e ∈ C, e.2.1 ∈ ks := fun e he => (hCk e he).1
    have hDk1 : ∀ e ∈ D, e.2.key ∈ ks := fun e he => (hDk e he).1
    have ha4 := Xk.sq_same ha3 s4
    wtm_at "xs"
    refine ⟨_, _, ns, rfl, ha4, hl, by omega, by omega, fun n3 hn3 => ?_⟩
    wtm_at "xs"
    intro zp H5 hzp s5 hz5
    wtm_at "xs"
    refine ⟨_, zp, [4, 4], rfl, Xk.sq_of hz5, by decide, fun z hz => by simp at hz; subst hz; decide, fun dg H6 dgs hdg s6 hd6 hdl hdb => ?_⟩
    obtain ⟨d0, d1, rfl⟩ : ∃ x y, dgs = [x, y] := by
      match dgs, hdl with
      | [x, y], _ => exact ⟨x, y, rfl⟩
    replace hd6 : H6 dg = some (.lst [.int d0, .int d1]) := hd6
    have hd0 := hdb 0 d0 4 rfl rfl
    have hd1 := hdb 1 d1 4 rfl rfl
    have ha6 := Xk.sq_same (Xk.sq_same ha4 s5) s6
    wtm_at "xs"
    refine ⟨dp, C, D, rfl, (hD.same s5).same s6, fun H7 kq nm s7 hkq sonm ndnm memnm => ?_⟩
    wtm_at "xs"
    intro nl H8 hnl s8 hn8
    have ha8 := Xk.sq_same (Xk.sq_same ha6 s7) s8
    have nmk : ∀ t ∈ nm, t ∈ ks := fun t ht => by
      rcases (memnm t).mp ht with ⟨e, he, rfl⟩ | ⟨e, he, rfl⟩
      · exact hCk1 e he
      · exact hDk1 e he
    have nml : nm.length ≤ 10 := by
      have := nodup_sub (ys := C.map (fun e => e.2.1) ++ D.map (fun e => e.2.key)) ndnm fun t ht => by
        rcases (memnm t).mp ht with ⟨e, he, rfl⟩ | ⟨e, he, rfl⟩
        · exact List.mem_append_left _ (List.mem_map_of_mem (f := fun e : Addr × Ck => e.2.1) he)
        · exact List.mem_append_right _ (List.mem_map_of_mem (f := fun e : Addr × Dd => e.2.key) he)
      rw [List.length_append, List.length_map, List.length_map] at this
      omega
    wtm_at "xs"
    refine ⟨a, _, ns, rfl, ha8, hl, by omega, by omega, fun n4 hn4 => ?_⟩
    wtm_at "xs"
    refine ⟨nl, _, _, nm, rfl, Xk.sq_of hn8, by omega, by omega, by omega, by omega, fun H9 sp qs zss s9 hsp hs9 hql hzl hqz hperm => ?_⟩
    have s49 := (((s5.trans s6).trans s7).trans s8).trans s9
    have hr9 := (s4.trans s49) _ _ hr3
    have ndz : zss.flatten.Nodup := hperm.nodup_iff.mpr ndnm
    have zin : ∀ z ∈ zss, (∀ t ∈ z, t ∈ nm) ∧ z.Nodup ∧ z.length ≤ 10 := fun z hz => by
      have h1 : ∀ t ∈ z, t ∈ nm := fun t ht => hperm.mem_iff.mp (List.mem_flatten.mpr ⟨z, hz, ht⟩)
      have h2 : z.Nodup := by
        obtain ⟨u, v, e⟩ := List.append_of_mem hz
        rw [e, List.flatten_append, List.flatten_cons] at ndz
        exact (List.nodup_append.mp (List.nodup_append.mp ndz).2.1).1
      exact ⟨h1, h2, Nat.le_trans (nodup_sub h2 h1) nml⟩
    wtm_at "xs"
    refine ⟨r, dp, sp, kvs, C, D, ks, qs, zss, rfl, hr9, hkv, by omega, hD.same s49, hk3, hCk1, hDk1, Xk.sq_of hs9, hzl, by omega, fun i q z h1 h2 => ?_, fun H10 p3 tl nl2 xs tss s10 hp3 htl hnl2 hxl htsl hxa hxo hnm => ?_⟩
    · have := zin z (List.mem_of_getElem? h2)
      exact ⟨(hqz i q z h1 h2).2, by omega, fun t ht => nmk t (this.1 t ht)⟩
    have hn10 := (s9.trans s10) _ _ hn8
    have hB := (⟨ha8, (((s4.trans s5).trans s6).trans (s7.trans s8)) _ _ hks3, (((s4.trans s5).trans s6).trans (s7.trans s8)) _ _ hr3, (((hD.same s5).same s6).same s7).same s8, fun e he => (by cases he), ((((hT3.ext s4).ext s5).ext s6).ext s7).ext s8⟩ : Bd K H8 T.P__by_place a kl r dp ns ks kvs C D [])
    have hB10 : Bd K H10 T.P__by_place a kl r dp ns ks kvs C D xs := by
      have := (hB.same s9).same s10
      exact ⟨this.a, this.kl, this.r, this.D, hxa, this.T⟩
    clear hB ha8 ha6 ha4 s49 hr9 hs9 hqz s4 s5 s6 s7 s8 s9 s10 hkq hn8 hd6 hz5 hD hT3 hks3 hr3 ha3
    have tsp : tss.flatten.Perm nm := by
      refine (flat_perm htsl fun i t z h1 h2 => ?_).trans hperm
      have hz := zin z (List.mem_of_getElem? h2)
      have hn := hnm i t z h1 h2
      refine (List.perm_ext_iff_of_nodup hn.1 hz.2.1).mpr fun u => ?_
      rw [hn.2]
      exact ⟨fun h => h.1, fun h => ⟨h, (memnm u).mp (hz.1 u h)⟩⟩
    wtm_at "xs"
    refine Xk.x_cut (fun σ2 H2 => Same H10 H2 ∧ σ2 = [some (.ref a), some (.ref kl), some (.ref r), some (.int i0), some (.ref dp), some (.int d0), some (.int d1), some (.ref nl), some (.ref p3), y9, y10, y11, y12, y13, y14]) ?_ ?_
    · wtm_at "xs"
      refine Xk.x_sortS (Xk.sq_of hnl2) (by rw [tsp.length_eq]; omega) fun ap HS ys hys so hap sS hS => ?_
      have eys : ys = nm := srtS_eq (hys.trans tsp) so sonm
      have hok : ∀ t ∈ nm, Xk.AllC Xk.okC t = true := fun t ht => Xk.allC_mono (isKey_str (hk3 t (nmk t ht))).2.2 al_ok
      rw [eys] at hS
      have hn11 := sS _ _ hn10
      wtm_at "xs"
      refine Xk.x_nePkL (n := 8) (m := 8) (Xk.sq_of hS) (Xk.sq_of hn11) (pk_strs nm hok) (pk_strs nm hok) ?_
      wtm_at "xs"
      exact ⟨sS, rfl⟩
    rintro σ2 H11 ⟨s11, rfl⟩
    have hB11 := hB10.same s11
    have hp3' := s11 _ _ hp3
    have htl' := s11 _ _ htl
    obtain ⟨k1, hk1'⟩ := Int.eq_ofNat_of_zero_le hd1.1
    wtm_at "xs"
    intro u1 H12 hu1 s12 e12
    wtm_at "xs"
    intro u2 H13 hu2 s13 e13
    rw [hk1', Xk.cut_drop (k := k1) rfl] at e12
    rw [hk1', Xk.cut_take (k := k1) rfl] at e13
    have e12' := s13 _ _ e12
    wtm_at "xs"
    refine Xk.x_cat e12' e13 (by rw [List.length_drop, List.length_take, List.length_map]; omega) fun tp H14 htp s14 e14 => ?_
    have hB14 := ((hB11.same s12).same s13).same s14
    have ety : (xs.map fun e => V.ref e.1).drop k1 ++ (xs.map fun e => V.ref e.1).take k1 = (xs.drop k1 ++ xs.take k1).map fun e => V.ref e.1 := by rw [List.map_append, List.map_drop, List.map_take]
    rw [ety] at e14
    have pxy : (xs.drop k1 ++ xs.take k1).Perm xs := List.perm_append_comm.trans (by rw [List.take_append_drop])
    have yin : ∀ e ∈ xs.drop k1 ++ xs.take k1, e ∈ xs := fun e he => pxy.mem_iff.mp he
    have yl : (xs.drop k1 ++ xs.take k1).length ≤ 10 := by rw [pxy.length_eq]; omega
    obtain ⟨W, hW1, hW2⟩ : ∃ W : List (List Str × (Addr × Tr)), W.map (·.2) = xs.drop k1 ++ xs.take k1 ∧ W.Perm (zss.zip xs) := by
      refine ⟨(zss.zip xs).drop k1 ++ (zss.zip xs).take k1, ?_, List.perm_append_comm.trans (by rw [List.take_append_drop])⟩
      rw [List.map_append, List.map_drop, List.map_take, List.map_snd_zip (by omega)]
    have hWok : ∀ w ∈ W, TrOk ks kvs (C.map (·.2)) (D.map (·.2)) w.1 w.2.2 ∧ w.1 ∈ zss := fun w hw => by
      obtain ⟨i, hi⟩ := List.mem_iff_getElem?.mp (hW2.mem_iff.mp hw)
      obtain ⟨z1, z2⟩ := List.getElem?_zip_eq_some.mp hi
      exact ⟨hxo i w.2 w.1 z2 z1, List.mem_of_getElem? z1⟩
    have hWf : (W.map (·.1)).flatten.Perm zss.flatten := by
      have := (hW2.map (·.1)).flatten
      rw [List.map_fst_zip (by omega)] at this
      exact this
    generalize xs.drop k1 ++ xs.take k1 = ys at *
    clear e12 e13 e12' hB11 hp3' htl' s12 s13 s14 hp3 htl hnl2 hB10
    wtm_at "xs"
    have hr14 := hB14.r
    refine ⟨r, kvs, rfl, hr14, hkv.nd, by omega, fun H15 m s15 hm hm15 => ?_⟩
    have hB15 := hB14.same s15
    have hr15 := hB15.r
    have hD15 := hB15.D
    wtm_at "xs"
    refine ⟨m, dp, kvs, C, D, ks, rfl, hm15, hkv, by omega, hD15, hDk1, fun H16 dq dt b16 hdq hdt hm16 hq16 ht16 => ?_⟩
    have s16 := Xk.same_but b16 hm s15
    have hB16 := hB14.same s16
    have e16 := s16 _ _ e14
    clear hB15 hr15 hD15 hm15 s15
    wtm_at "xs"
    intro pp H17 hpp s17 e17
    have hB17 := hB16.same s17
    have hm17 := s17 _ _ hm16
    have hq17 := s17 _ _ hq16
    have ht17 := s17 _ _ ht16
    have et17 := s17 _ _ e16
    have hds : ∀ d ∈ D.map (·.2), d.ok ∧ d.key ∈ ks := fun d hd => by
      obtain ⟨e, he, rfl⟩ := List.mem_map.mp hd
      exact ⟨hB17.D.ok e he, hDk1 e he⟩
    have Wzk : ∀ w ∈ W, (∀ t ∈ w.1, t ∈ ks) ∧ w.1.length ≤ 50 := fun w hw => by
      have := zin w.1 (hWok w hw).2
      exact ⟨fun t ht => nmk t (this.1 t ht), by omega⟩
    have hWn : (W.map (·.1)).flatten.Nodup := hWf.nodup_iff.mpr ndz
    have inW : ∀ t, t ∈ nm → t ∈ (W.map (·.1)).flatten := fun t ht => hWf.mem_iff.mpr (hperm.mem_iff.mpr ht)
    have hcW : ∀ c ∈ C.map (·.2), c.1 ∈ (W.map (·.1)).flatten := fun c hc => by
      obtain ⟨e, he, rfl⟩ := List.mem_map.mp hc
      exact inW _ ((memnm _).mpr (.inl ⟨e, he, rfl⟩))
    have hdW : ∀ d ∈ D.map (·.2), d.key ∈ (W.map (·.1)).flatten := fun d hd => by
      obtain ⟨e, he, rfl⟩ := List.mem_map.mp hd
      exact inW _ ((memnm _).mpr (.inr ⟨e, he, rfl⟩))
    have hPq : ∀ p ∈ W.map (fun w => (w.1, w.2.2)), TrOk ks kvs (C.map (·.2)) (D.map (·.2)) p.1 p.2 := fun p hp => by
      obtain ⟨w, hw, rfl⟩ := List.mem_map.mp hp
      exact (hWok w hw).1
    have eP1 : (W.map (fun w => (w.1, w.2.2))).map (·.1) = W.map (·.1) := by rw [List.map_map]; rfl
    have eP2 : (W.map (fun w => (w.1, w.2.2))).map (·.2) = ys.map (·.2) := by rw [← hW1, List.map_map, List.map_map]; rfl
    have hJ := joined hPq (by rw [eP1]; exact hWn) (by rw [eP1]; exact hcW) (by rw [eP1]; exact hdW)
    have hH := all_held hPq (by rw [eP1]; exact hWn) (by rw [eP1]; exact hcW)
    rw [eP2] at hJ hH
    have hdo := dealW_ok (cs := C.map (·.2)) hkv hds (by rw [List.length_map]; omega) (by rw [List.length_map]; omega)
    have hyg : ∀ e ∈ ys, TrG e.2 := fun e he => by
      rw [← hW1] at he
      obtain ⟨w, hw, rfl⟩ := List.mem_map.mp he
      exact (hWok w hw).1.good hk3 hkv hds (Wzk w hw).1 (Wzk w hw).2
    have hyt : ∀ {H' : Hp}, Bd K H' T.P__by_place a kl r dp ns ks kvs C D xs → ∀ e ∈ ys, TrAt H' e.1 e.2 := fun b e he => b.x e (yin e he)
    have pkA : ∀ {H' : Hp} {q t : Addr}, H' q = some (.tup [.str (dealW kvs (C.map (·.2)) (D.map (·.2))).2.1, .ref t]) → H' t = some (.tup (dealW kvs (C.map (·.2)) (D.map (·.2))).2.2) →
        Xk.Pk K H' 9 (.ref q) (.tuple [.str (dealW kvs (C.map (·.2)) (D.map (·.2))).2.1, .tuple ((dealW kvs (C.map (·.2)) (D.map (·.2))).2.2.map pd)]) := fun {H' q t} e1 e2 => by
      refine Xk.pk_tup2 (n := 8) (Xk.st_of e1) (Xk.pk_str ?_) (Xk.pk_tup (n := 7) (Xk.st_of e2) (pk_fvs _ hdo.2.1))
      unfold dealW
      split
      · show PyData.canLay0 (.str ("done" : Str)) = true
        decide +kernel
      · show PyData.canLay0 (.str ("unheld" : Str)) = true
        decide +kernel
    refine Xk.x_cut (fun σ2 H2 => Bt T.P__by_place H17 H2 ∧ LamX.TabS H2 T.P__by_place qL ∧ σ2 = [some (.ref a), some (.ref kl), some (.ref r), some (.int i0), some (.ref dp), some (.int d0), some (.int d1), some (.ref nl), some (.ref p3), some (.ref tp), some (.ref m), some (.ref dq), some (.ref pp), y13, y14]) ?_ ?_
    · wtm_at "xs"
      refine ⟨pp, ys, rfl, .inl (Xk.sq_of e17), hyt hB17, by omega, hB17.T, fun H18 jq jt b18 hT18 hjq hjt ejq ejt => ?_⟩
      rw [hJ] at ejq ejt
      have hB18 := hB17.bt b18 hT18
      have hq18 := b18.tup hB17.T hq17
      have ht18 := b18.tup hB17.T ht17
      have et18 := b18.lst hB17.T et17
      have e18 := b18.lst hB17.T e17
      wtm_at "xs"
      refine ⟨jq, dq, jt, dt, _, _, rfl, ejq, hq18, ejt, ht18, hdo.2.1, hdo.2.2, ?_⟩
      wtm_at "xs"
      intro tt H19 htt s19 e19
      have hB19 := hB18.same s19
      have hq19 := s19 _ _ hq18
      have ht19 := s19 _ _ ht18
      have et19 := s19 _ _ et18
      have ep19 := s19 _ _ e18
      wtm_at "xs"
      refine ⟨tt, ys, rfl, .inr (Xk.st_of e19), hyt hB19, by omega, hB19.T, fun H20 jq2 jt2 b20 hT20 hjq2 hjt2 ejq2 ejt2 => ?_⟩
      rw [hJ] at ejq2 ejt2
      have hB20 := hB19.bt b20 hT20
      have hq20 := b20.tup hB19.T hq19
      have ht20 := b20.tup hB19.T ht19
      have et20 := b20.lst hB19.T et19
      have ep20 := b20.lst hB19.T ep19
      wtm_at "xs"
      refine Xk.x_nePk (pkA ejq2 ejt2) (pkA hq20 ht20) ?_
      wtm_at "xs"
      have hpk : Xk.PkAll K H20 9 (ys.map fun e => V.ref e.1) (ys.map fun e => trD e.2) := pk_all ys fun e he => tr_pk (hyt hB20 e he) (hyg e he)
      refine Xk.x_nePkL (n := 9) (m := 9) (Xk.sq_of ep20) (Xk.sq_of et20) hpk hpk ?_
      wtm_at "xs"
      exact ⟨(b18.same s19).trans b20, hT20, rfl⟩
    rintro σ2 H18 ⟨b18, hT18, rfl⟩
    have hB18 := hB17.bt b18 hT18
    have hr18 := hB18.r
    have hm18 := b18.dk hB17.T hm17
    have hq18 := b18.tup hB17.T hq17
    have ht18 := b18.tup hB17.T ht17
    have et18 := b18.lst hB17.T et17
    clear b18 hB17 hm17 hq17 ht17 et17 e17 s17 hB16 e16 hm16 hq16 ht16
    wtm_at "xs"
    refine ⟨r, kvs, rfl, hr18, hkv.nd, by omega, fun H19 wh s19 hwh ewh => ?_⟩
    have hD19 := hB18.D.same s19
    wtm_at "xs"
    refine Xk.x_cut (fun σ2 H2 => Same H18 H2 ∧ σ2 = [some (.ref a), some (.ref kl), some (.ref r), some (.int i0), some (.ref dp), some (.int d0), some (.int d1), some (.ref nl), some (.ref p3), some (.ref tp), some (.ref m), some (.ref dq), some (.ref pp), some (.ref wh), y14]) ?_ ?_
    · wtm_at "xs"
      refine ⟨wh, dp, kvs, C, D, ks, rfl, ewh, hkv, by omega, hD19, hDk1, fun H20 wq wt b20 hwq hwt hwh20 hwq20 hwt20 => ?_⟩
      have s20 := Xk.same_but b20 hwh s19
      have hq20 := s20 _ _ hq18
      have ht20 := s20 _ _ ht18
      have hm20 := s20 _ _ hm18
      wtm_at "xs"
      refine Xk.x_nePk (pkA hwq20 hwt20) (pkA hq20 ht20) ?_
      wtm_at "xs"
      refine ⟨wh, m, _, _, rfl, rfl, hwh20, hm20, rfl, alike_all hdo.1 fun _ => rfl, ?_⟩
      wtm_at "xs"
      exact ⟨s20, rfl⟩
    rintro σ2 H20 ⟨s20, rfl⟩
    have hB20 := hB18.same s20
    have hr20 := hB20.r
    have hm20 := s20 _ _ hm18
    have hq20 := s20 _ _ hq18
    have et20 := s20 _ _ et18
    clear hB18 hr18 hm18 hq18 ht18 et18 s20 hD19
    have hdw : ∀ t, valV (doAll kvs (D.map (·.2))).1 (Sum.inr t) = if t ∈ (W.map (·.1)).flatten then valV (doAll kvs (D.map (·.2))).1 (Sum.inr t) else valV kvs (Sum.inr t) := fun t => by
      by_cases ht : t ∈ (W.map (·.1)).flatten
      · rw [if_pos ht]
      · rw [if_neg ht]
        exact doAll_off _ fun d hd e => ht (e ▸ hdW d hd)
    have wl : W.length = ys.length := by
      have := congrArg List.length hW1
      rwa [List.length_map] at this
    refine Xk.x_cut (fun σ2 H2 => ∃ (y14 : Option V) (kv2 : Kvs), σ2 = [some (.ref a), some (.ref kl), some (.ref r), some (.int i0), some (.ref dp), some (.int d0), some (.int d1), some (.ref nl), some (.ref p3), some (.ref tp), some (.ref m), some (.ref dq), some (.ref pp), some (.ref wh), y14] ∧
      SqL K H2 a (ns.map V.int) ∧ H2 kl = some (.lst (ks.map V.str)) ∧ LamX.TabS H2 T.P__by_place qL ∧ H2 r = some (.dK kv2) ∧ H2 m = some (.dK (dealW kvs (C.map (·.2)) (D.map (·.2))).1) ∧ KvOk ks kv2 ∧ ∀ t, valV kv2 (Sum.inr t) = valV (dealW kvs (C.map (·.2)) (D.map (·.2))).1 (Sum.inr t)) ?_ ?_
    · cases hh : held kvs (C.map (·.2)) with
      | false =>
        have ew : dealW kvs (C.map (·.2)) (D.map (·.2)) = (kvs, ("unheld" : Str), (C.map (·.2)).map fun c => gv kvs c.1) := by
          unfold dealW
          rw [if_neg (by rw [hh]; decide)]
        rw [ew] at hm20 hq20 ⊢
        have hne : ¬ (V.str ("unheld" : Str) = V.str "done") := by decide +kernel
        wtm_at "xs"
        exact ⟨_, kvs, rfl, hB20.a, hB20.kl, hB20.T, hr20, hm20, hkv, fun _ => rfl⟩
      | true =>
        have ew : dealW kvs (C.map (·.2)) (D.map (·.2)) = ((doAll kvs (D.map (·.2))).1, ("done" : Str), (doAll kvs (D.map (·.2))).2) := by
          unfold dealW
          rw [if_pos hh]
        rw [ew] at hm20 hq20 ⊢
        have heq : V.str ("done" : Str) = V.str "done" := rfl
        rw [hh] at hH
        have hheld : ∀ e ∈ ys, e.2.held = true := fun e he => List.all_eq_true.mp hH e.2 (List.mem_map_of_mem he)
        wtm_at "xs"
        refine Xk.x_forL (fun i σ' H' => ∃ (y14 : Option V) (kv2 : Kvs), σ' = [some (.ref a), some (.ref kl), some (.ref r), some (.int i0), some (.ref dp), some (.int d0), some (.int d1), some (.ref nl), some (.ref p3), some (.ref tp), some (.ref m), some (.ref dq), some (.ref pp), some (.ref wh), y14] ∧
          Xk.But r H20 H' ∧ H' r = some (.dK kv2) ∧ KvOk ks kv2 ∧ ∀ t, valV kv2 (Sum.inr t) = if t ∈ ((W.take i).map (·.1)).flatten then valV (doAll kvs (D.map (·.2))).1 (Sum.inr t) else valV kvs (Sum.inr t)) (Xk.sq_of et20)
          ⟨_, kvs, rfl, Xk.But.refl _ _, hr20, hkv, fun t => by rw [List.take_zero, List.map_nil, List.flatten_nil, if_neg List.not_mem_nil]⟩ ?_ ?_ ?_
        · rintro i σ' H' _ ⟨_, _, _, b, _⟩
          exact Xk.sq_of (b _ _ (fun z => by rw [z, hr20] at et20; cases et20) et20)
        · rintro i x σ' H' hi2 ⟨y14, kv2, rfl, b, hr', hkv2, hval⟩
          obtain ⟨e, he, rfl⟩ : ∃ e, ys[i]? = some e ∧ x = V.ref e.1 := by
            rw [List.getElem?_map] at hi2
            cases h : ys[i]? with
            | none => rw [h] at hi2; cases hi2
            | some e => rw [h] at hi2; exact ⟨e, rfl, (Option.some.inj hi2).symm⟩
          obtain ⟨w, hw0⟩ := Xk.lt_at (xs := W) (j := i) (by have := Xk.at_lt he; omega)
          have hwe : w.2 = e := by
            have := congrArg (fun l : List (Addr × Tr) => l[i]?) hW1
            simp only [List.getElem?_map, hw0, he] at this
            exact Option.some.inj this
          have hwm := List.mem_of_getElem? hw0
          have hem := List.mem_of_getElem? he
          have hte := hyt hB20 e hem
          have htp' := but_tup b hr20 hte.tp
          have hws' : WsAt H' e.2.tw e.2.ws := ⟨but_tup b hr20 hte.vw.tp, fun x hx => but_tup b hr20 (hte.vw.it x hx)⟩
          have hnew : ∀ t ∈ w.1, t ∉ ((W.take i).map (·.1)).flatten := fun t ht hb => by
            have hi3 := Xk.at_lt hw0
            have e3 : W[i] = w := by
              rw [List.getElem?_eq_getElem hi3] at hw0
              exact Option.some.inj hw0
            have e4 : W = W.take i ++ w :: W.drop (i + 1) := by rw [← e3, ← List.drop_eq_getElem_cons hi3, List.take_append_drop]
            rw [e4, List.map_append, List.map_cons, List.flatten_append, List.flatten_cons] at hWn
            exact (List.nodup_append.mp hWn).2.2 t hb t (List.mem_append_left _ ht) rfl
          have hst := (hWok w hwm).1.step (by rw [hwe]; exact hheld e hem) hds (Wzk w hwm).1 (Wzk w hwm).2 hkv2 fun t ht => by rw [hval, if_neg (hnew t ht)]
          rw [hwe] at hst
          wtm_at "xs"
          refine ⟨r, e.2.tw, kv2, e.2.ws, ks, rfl, hr', hkv2, by omega, hws', hst.2.2.2, hst.2.2.1, fun H2 b2 hr2 => ?_⟩
          wtm_at "xs"
          refine ⟨_, _, rfl, Xk.but_trans b b2, hr2, hst.1, fun t => ?_⟩
          rw [hst.2.1, hval, List.take_add_one, hw0, List.map_append, List.flatten_append]
          by_cases ht : t ∈ w.1
          · rw [if_pos ht, if_pos (List.mem_append_right _ (by simpa using ht))]
          · rw [if_neg ht]
            have : t ∈ ((W.take i).map (·.1)).flatten ++ ((some w).toList.map (·.1)).flatten ↔ t ∈ ((W.take i).map (·.1)).flatten := by simp [ht]
            simp only [this]
        · rintro σ' H' ⟨y14, kv2, rfl, b, hr', hkv2, hval⟩
          rw [List.length_map, ← wl, List.take_length] at hval
          have nmr : m ≠ r := (Xk.ne_new hm hB14.r).symm
          exact ⟨_, kv2, rfl, sq_butD hB20.a b hr20, b _ _ (fun z => by have := hB20.kl; rw [z, hr20] at this; cases this) hB20.kl, TabS.but hB20.T b hr20, hr', b _ _ nmr hm20, hkv2, fun t => by rw [hval]; exact (hdw t).symm⟩
    rintro σ2 HB ⟨y14, W2, rfl, haB, hklB, hTB, hrB, hmB, hW, wd⟩
    have hiv2 := dealW_iv (cs := C.map (·.2)) (ds := D.map (·.2)) hiv fun d hd => by
      obtain ⟨e, he, rfl⟩ := List.mem_map.mp hd
      exact ⟨hB20.D.ok e he, (hDk e he).2⟩
    generalize (dealW kvs (C.map (·.2)) (D.map (·.2))).1 = M at *
    wtm_at "xs"
    refine ⟨r, m, _, _, rfl, rfl, hrB, hmB, alike_len hW hdo.1 wd, alike_all hW wd, ?_⟩
    obtain ⟨u1, hu1, hv1⟩ := KvOk.keys hW.ok
    obtain ⟨u2, hu2, hv2⟩ := KvOk.keys hdo.1.ok
    have lu1 : u1.length < 64 := by
      have z := congrArg List.length hu1
      rw [List.length_map, List.length_map] at z
      have := hW.few
      omega
    have lu2 : u2.length < 64 := by
      have z := congrArg List.length hu2
      rw [List.length_map, List.length_map] at z
      have := hdo.1.few
      omega
    wtm_at "xs"
    refine x_rSortD hrB hu1 lu1 fun a1 HC ys1 hy1 so1 ha1 sC hC => ?_
    have hmC := sC _ _ hmB
    wtm_at "xs"
    refine x_rSortD hmC hu2 lu2 fun a2 HD ys2 hy2 so2 ha2 sD hD => ?_
    have pu : u1.Perm u2 := keys_perm hW hdo.1 wd hu1 hu2
    cases srtS_eq ((hy1.trans pu).trans hy2.symm) so1 so2
    have hok : ∀ t ∈ ys1, Xk.AllC Xk.okC t = true := fun t ht => Xk.allC_mono (isKey_str (hk3 t (hv1 t (hy1.mem_iff.mp ht)))).2.2 al_ok
    have hCD := sD _ _ hC
    refine Xk.x_nePkL (n := 8) (m := 8) (Xk.sq_of hCD) (Xk.sq_of hD) (pk_strs ys1 hok) (pk_strs ys1 hok) ?_
    have sBD := sC.trans sD
    wtm_at "xs"
    exact ⟨W2, _, _, _, _, _, _, _, _, _, _, _, _, rfl, Xk.sq_same haB sBD, sBD _ _ hklB, hTB.ext sBD, sBD _ _ hrB, hW, alike_iv hW wd hiv2⟩
  · rintro σ' H3 ⟨kvs, y3, y4, y5, y6, y7, y8, y9, y10, y11, y12, y13, y14, rfl, _⟩
    wtm_at "xs"
    exact q _
end
theorem all_mk {l : PySem.W.OpenLaw} {w : World} {K : PySem.W.Frag} {h : Heap} {mg : Str → Option Value} {fa f_is_integer f_is_text f_is_integer_within f_is_value f_key_of_deed f_apply_deed f__add f_part_of f_keys_of_part f_try_part f_write_rows f_join_parts f__by_place cA__by_place PA__by_place f_keys_of f_do_deal f__law_row f__law_digits f__law_sign f__law_text f__law_key f__law_value f__law_deed f__law_done f__law_same f__law_copy f__law_keys f__law_rows f__law_deal f__law_deal_done f__law_same_answer f__law_split f__law_tried_parts f_law : Addr} (X : K.In h) (G : h.Ns mainGlobals mg) (hfa : mg "law" = some (.ref fa))
    {od_is_integer an_is_integer od_is_text an_is_text od_is_integer_within an_is_integer_within od_is_value an_is_value od_key_of_deed an_key_of_deed od_apply_deed an_apply_deed od__add an__add od_part_of an_part_of od_keys_of_part an_keys_of_part od_try_part an_try_part od_write_rows an_write_rows od_join_parts an_join_parts od__by_place an__by_place odc__by_place od_keys_of an_keys_of od_do_deal an_do_deal od__law_row an__law_row od__law_digits an__law_digits od__law_sign an__law_sign od__law_text an__law_text od__law_key an__law_key od__law_value an__law_value od__law_deed an__law_deed od__law_done an__law_done od__law_same an__law_same od__law_copy an__law_copy od__law_keys an__law_keys od__law_rows an__law_rows od__law_deal an__law_deal od__law_deal_done an__law_deal_done od__law_same_answer an__law_same_answer od__law_split an__law_split od__law_tried_parts an__law_tried_parts od_law an_law : Option Addr} {sl_is_integer sl_is_text sl_is_integer_within sl_is_value sl_key_of_deed sl_apply_deed sl__add sl_part_of sl_keys_of_part sl_try_part sl_write_rows sl_join_parts sl__by_place slc__by_place sl_keys_of sl_do_deal sl__law_row sl__law_digits sl__law_sign sl__law_text sl__law_key sl__law_value sl__law_deed sl__law_done sl__law_same sl__law_copy sl__law_keys sl__law_rows sl__law_deal sl__law_deal_done sl__law_same_answer sl__law_split sl__law_tried_parts sl_law : Array (Option Value)} {oc_is_integer kV_is_integer dc_is_integer pm_is_integer cd_is_integer ct_is_integer oc_is_text kV_is_text dc_is_text pm_is_text cd_is_text ct_is_text oc_is_integer_within kV_is_integer_within dc_is_integer_within pm_is_integer_within cd_is_integer_within ct_is_integer_within oc_is_value kV_is_value dc_is_value pm_is_value cd_is_value ct_is_value oc_key_of_deed kV_key_of_deed dc_key_of_deed pm_key_of_deed cd_key_of_deed ct_key_of_deed oc_apply_deed kV_apply_deed dc_apply_deed pm_apply_deed cd_apply_deed ct_apply_deed oc__add kV__add dc__add pm__add cd__add ct__add oc_part_of kV_part_of dc_part_of pm_part_of cd_part_of ct_part_of oc_keys_of_part kV_keys_of_part dc_keys_of_part pm_keys_of_part cd_keys_of_part ct_keys_of_part oc_try_part kV_try_part dc_try_part pm_try_part cd_try_part ct_try_part oc_write_rows kV_write_rows dc_write_rows pm_write_rows cd_write_rows ct_write_rows oc_join_parts kV_join_parts dc_join_parts pm_join_parts cd_join_parts ct_join_parts oc__by_place kV__by_place dc__by_place pm__by_place ct__by_place occ__by_place oc_keys_of kV_keys_of dc_keys_of pm_keys_of cd_keys_of ct_keys_of oc_do_deal kV_do_deal dc_do_deal pm_do_deal cd_do_deal ct_do_deal oc__law_row kV__law_row dc__law_row pm__law_row cd__law_row ct__law_row oc__law_digits kV__law_digits dc__law_digits pm__law_digits cd__law_digits ct__law_digits oc__law_sign kV__law_sign dc__law_sign pm__law_sign cd__law_sign ct__law_sign oc__law_text kV__law_text dc__law_text pm__law_text cd__law_text ct__law_text oc__law_key kV__law_key dc__law_key pm__law_key cd__law_key ct__law_key oc__law_value kV__law_value dc__law_value pm__law_value cd__law_value ct__law_value oc__law_deed kV__law_deed dc__law_deed pm__law_deed cd__law_deed ct__law_deed oc__law_done kV__law_done dc__law_done pm__law_done cd__law_done ct__law_done oc__law_same kV__law_same dc__law_same pm__law_same cd__law_same ct__law_same oc__law_copy kV__law_copy dc__law_copy pm__law_copy cd__law_copy ct__law_copy oc__law_keys kV__law_keys dc__law_keys pm__law_keys cd__law_keys ct__law_keys oc__law_rows kV__law_rows dc__law_rows pm__law_rows cd__law_rows ct__law_rows oc__law_deal kV__law_deal dc__law_deal pm__law_deal cd__law_deal ct__law_deal oc__law_deal_done kV__law_deal_done dc__law_deal_done pm__law_deal_done cd__law_deal_done ct__law_deal_done oc__law_same_answer kV__law_same_answer dc__law_same_answer pm__law_same_answer cd__law_same_answer ct__law_same_answer oc__law_split kV__law_split dc__law_split pm__law_split cd__law_split ct__law_split oc__law_tried_parts kV__law_tried_parts dc__law_tried_parts pm__law_tried_parts cd__law_tried_parts ct__law_tried_parts oc_law kV_law dc_law pm_law cd_law ct_law : Value} {t_HIGH_SIGNS t_LOW_SIGNS t_MOST_VALUE t_VALUE_SIGNS : Tok} {vsc__by_place : Array Value}
    (a_is_integer : PySem.W.nsIn K mainGlobals "is_integer" = some (some (.ref f_is_integer)))
    (l_is_integer : K.lookup f_is_integer = some ⟨oc_is_integer, od_is_integer, .func (PySem.W.fnOf "is_integer" "is_integer" (defArgs s_is_integer) (defBody s_is_integer) (defScope s_is_integer) .none kV_is_integer dc_is_integer pm_is_integer an_is_integer cd_is_integer ct_is_integer), sl_is_integer⟩)
    (c_is_integer : PySem.W.codeIn K cd_is_integer "is_integer" = true)
    (k_is_integer : PySem.W.keepIn K (.ref f_is_integer) = true)
    (a_is_text : PySem.W.nsIn K mainGlobals "is_text" = some (some (.ref f_is_text)))
    (l_is_text : K.lookup f_is_text = some ⟨oc_is_text, od_is_text, .func (PySem.W.fnOf "is_text" "is_text" (defArgs s_is_text) (defBody s_is_text) (defScope s_is_text) .none kV_is_text dc_is_text pm_is_text an_is_text cd_is_text ct_is_text), sl_is_text⟩)
    (c_is_text : PySem.W.codeIn K cd_is_text "is_text" = true)
    (k_is_text : PySem.W.keepIn K (.ref f_is_text) = true)
    (a_is_integer_within : PySem.W.nsIn K mainGlobals "is_integer_within" = some (some (.ref f_is_integer_within)))
    (l_is_integer_within : K.lookup f_is_integer_within = some ⟨oc_is_integer_within, od_is_integer_within, .func (PySem.W.fnOf "is_integer_within" "is_integer_within" (defArgs s_is_integer_within) (defBody s_is_integer_within) (defScope s_is_integer_within) .none kV_is_integer_within dc_is_integer_within pm_is_integer_within an_is_integer_within cd_is_integer_within ct_is_integer_within), sl_is_integer_within⟩)
    (c_is_integer_within : PySem.W.codeIn K cd_is_integer_within "is_integer_within" = true)
    (k_is_integer_within : PySem.W.keepIn K (.ref f_is_integer_within) = true)
    (a_is_value : PySem.W.nsIn K mainGlobals "is_value" = some (some (.ref f_is_value)))
    (l_is_value : K.lookup f_is_value = some ⟨oc_is_value, od_is_value, .func (PySem.W.fnOf "is_value" "is_value" (defArgs s_is_value) (defBody s_is_value) (defScope s_is_value) .none kV_is_value dc_is_value pm_is_value an_is_value cd_is_value ct_is_value), sl_is_value⟩)
    (c_is_value : PySem.W.codeIn K cd_is_value "is_value" = true)
    (k_is_value : PySem.W.keepIn K (.ref f_is_value) = true)
    (a_key_of_deed : PySem.W.nsIn K mainGlobals "key_of_deed" = some (some (.ref f_key_of_deed)))
    (l_key_of_deed : K.lookup f_key_of_deed = some ⟨oc_key_of_deed, od_key_of_deed, .func (PySem.W.fnOf "key_of_deed" "key_of_deed" (defArgs s_key_of_deed) (defBody s_key_of_deed) (defScope s_key_of_deed) .none kV_key_of_deed dc_key_of_deed pm_key_of_deed an_key_of_deed cd_key_of_deed ct_key_of_deed), sl_key_of_deed⟩)
    (c_key_of_deed : PySem.W.codeIn K cd_key_of_deed "key_of_deed" = true)
    (k_key_of_deed : PySem.W.keepIn K (.ref f_key_of_deed) = true)
    (a_apply_deed : PySem.W.nsIn K mainGlobals "apply_deed" = some (some (.ref f_apply_deed)))
    (l_apply_deed : K.lookup f_apply_deed = some ⟨oc_apply_deed, od_apply_deed, .func (PySem.W.fnOf "apply_deed" "apply_deed" (defArgs s_apply_deed) (defBody s_apply_deed) (defScope s_apply_deed) .none kV_apply_deed dc_apply_deed pm_apply_deed an_apply_deed cd_apply_deed ct_apply_deed), sl_apply_deed⟩)
    (c_apply_deed : PySem.W.codeIn K cd_apply_deed "apply_deed" = true)
    (k_apply_deed : PySem.W.keepIn K (.ref f_apply_deed) = true)
    (a__add : PySem.W.nsIn K mainGlobals "_add" = some (some (.ref f__add)))
    (l__add : K.lookup f__add = some ⟨oc__add, od__add, .func (PySem.W.fnOf "_add" "_add" (defArgs s__add) (defBody s__add) (defScope s__add) .none kV__add dc__add pm__add an__add cd__add ct__add), sl__add⟩)
    (c__add : PySem.W.codeIn K cd__add "_add" = true)
    (k__add : PySem.W.keepIn K (.ref f__add) = true)
    (a_part_of : PySem.W.nsIn K mainGlobals "part_of" = some (some (.ref f_part_of)))
    (l_part_of : K.lookup f_part_of = some ⟨oc_part_of, od_part_of, .func (PySem.W.fnOf "part_of" "part_of" (defArgs s_part_of) (defBody s_part_of) (defScope s_part_of) .none kV_part_of dc_part_of pm_part_of an_part_of cd_part_of ct_part_of), sl_part_of⟩)
    (c_part_of : PySem.W.codeIn K cd_part_of "part_of" = true)
    (k_part_of : PySem.W.keepIn K (.ref f_part_of) = true)
    (a_keys_of_part : PySem.W.nsIn K mainGlobals "keys_of_part" = some (some (.ref f_keys_of_part)))
    (l_keys_of_part : K.lookup f_keys_of_part = some ⟨oc_keys_of_part, od_keys_of_part, .func (PySem.W.fnOf "keys_of_part" "keys_of_part" (defArgs s_keys_of_part) (defBody s_keys_of_part) (defScope s_keys_of_part) .none kV_keys_of_part dc_keys_of_part pm_keys_of_part an_keys_of_part cd_keys_of_part ct_keys_of_part), sl_keys_of_part⟩)
    (c_keys_of_part : PySem.W.codeIn K cd_keys_of_part "keys_of_part" = true)
    (k_keys_of_part : PySem.W.keepIn K (.ref f_keys_of_part) = true)
    (a_try_part : PySem.W.nsIn K mainGlobals "try_part" = some (some (.ref f_try_part)))
    (l_try_part : K.lookup f_try_part = some ⟨oc_try_part, od_try_part, .func (PySem.W.fnOf "try_part" "try_part" (defArgs s_try_part) (defBody s_try_part) (defScope s_try_part) .none kV_try_part dc_try_part pm_try_part an_try_part cd_try_part ct_try_part), sl_try_part⟩)
    (c_try_part : PySem.W.codeIn K cd_try_part "try_part" = true)
    (k_try_part : PySem.W.keepIn K (.ref f_try_part) = true)
    (a_write_rows : PySem.W.nsIn K mainGlobals "write_rows" = some (some (.ref f_write_rows)))
    (l_write_rows : K.lookup f_write_rows = some ⟨oc_write_rows, od_write_rows, .func (PySem.W.fnOf "write_rows" "write_rows" (defArgs s_write_rows) (defBody s_write_rows) (defScope s_write_rows) .none kV_write_rows dc_write_rows pm_write_rows an_write_rows cd_write_rows ct_write_rows), sl_write_rows⟩)
    (c_write_rows : PySem.W.codeIn K cd_write_rows "write_rows" = true)
    (k_write_rows : PySem.W.keepIn K (.ref f_write_rows) = true)
    (a_join_parts : PySem.W.nsIn K mainGlobals "join_parts" = some (some (.ref f_join_parts)))
    (l_join_parts : K.lookup f_join_parts = some ⟨oc_join_parts, od_join_parts, .func (PySem.W.fnOf "join_parts" "join_parts" (defArgs s_join_parts) (defBody s_join_parts) (defScope s_join_parts) .none kV_join_parts dc_join_parts pm_join_parts an_join_parts cd_join_parts ct_join_parts), sl_join_parts⟩)
    (c_join_parts : PySem.W.codeIn K cd_join_parts "join_parts" = true)
    (k_join_parts : PySem.W.keepIn K (.ref f_join_parts) = true)
    (a__by_place : PySem.W.nsIn K mainGlobals "_by_place" = some (some (.ref f__by_place)))
    (l__by_place : K.lookup f__by_place = some ⟨oc__by_place, od__by_place, .func (PySem.W.fnOf "_by_place" "_by_place" (defArgs s__by_place) (defBody s__by_place) (defScope s__by_place) .none kV__by_place dc__by_place pm__by_place an__by_place (.ref cA__by_place) ct__by_place), sl__by_place⟩)
    (c__by_place : PySem.W.codeIn K (.ref cA__by_place) "_by_place" = true)
    (k__by_place : PySem.W.keepIn K (.ref f__by_place) = true)
    (a_keys_of : PySem.W.nsIn K mainGlobals "keys_of" = some (some (.ref f_keys_of)))
    (l_keys_of : K.lookup f_keys_of = some ⟨oc_keys_of, od_keys_of, .func (PySem.W.fnOf "keys_of" "keys_of" (defArgs s_keys_of) (defBody s_keys_of) (defScope s_keys_of) .none kV_keys_of dc_keys_of pm_keys_of an_keys_of cd_keys_of ct_keys_of), sl_keys_of⟩)
    (c_keys_of : PySem.W.codeIn K cd_keys_of "keys_of" = true)
    (k_keys_of : PySem.W.keepIn K (.ref f_keys_of) = true)
    (a_do_deal : PySem.W.nsIn K mainGlobals "do_deal" = some (some (.ref f_do_deal)))
    (l_do_deal : K.lookup f_do_deal = some ⟨oc_do_deal, od_do_deal, .func (PySem.W.fnOf "do_deal" "do_deal" (defArgs s_do_deal) (defBody s_do_deal) (defScope s_do_deal) .none kV_do_deal dc_do_deal pm_do_deal an_do_deal cd_do_deal ct_do_deal), sl_do_deal⟩)
    (c_do_deal : PySem.W.codeIn K cd_do_deal "do_deal" = true)
    (k_do_deal : PySem.W.keepIn K (.ref f_do_deal) = true)
    (a__law_row : PySem.W.nsIn K mainGlobals "_law_row" = some (some (.ref f__law_row)))
    (l__law_row : K.lookup f__law_row = some ⟨oc__law_row, od__law_row, .func (PySem.W.fnOf "_law_row" "_law_row" (defArgs s__law_row) (defBody s__law_row) (defScope s__law_row) .none kV__law_row dc__law_row pm__law_row an__law_row cd__law_row ct__law_row), sl__law_row⟩)
    (c__law_row : PySem.W.codeIn K cd__law_row "_law_row" = true)
    (k__law_row : PySem.W.keepIn K (.ref f__law_row) = true)
    (a__law_digits : PySem.W.nsIn K mainGlobals "_law_digits" = some (some (.ref f__law_digits)))
    (l__law_digits : K.lookup f__law_digits = some ⟨oc__law_digits, od__law_digits, .func (PySem.W.fnOf "_law_digits" "_law_digits" (defArgs s__law_digits) (defBody s__law_digits) (defScope s__law_digits) .none kV__law_digits dc__law_digits pm__law_digits an__law_digits cd__law_digits ct__law_digits), sl__law_digits⟩)
    (c__law_digits : PySem.W.codeIn K cd__law_digits "_law_digits" = true)
    (k__law_digits : PySem.W.keepIn K (.ref f__law_digits) = true)
    (a__law_sign : PySem.W.nsIn K mainGlobals "_law_sign" = some (some (.ref f__law_sign)))
    (l__law_sign : K.lookup f__law_sign = some ⟨oc__law_sign, od__law_sign, .func (PySem.W.fnOf "_law_sign" "_law_sign" (defArgs s__law_sign) (defBody s__law_sign) (defScope s__law_sign) .none kV__law_sign dc__law_sign pm__law_sign an__law_sign cd__law_sign ct__law_sign), sl__law_sign⟩)
    (c__law_sign : PySem.W.codeIn K cd__law_sign "_law_sign" = true)
    (k__law_sign : PySem.W.keepIn K (.ref f__law_sign) = true)
    (a__law_text : PySem.W.nsIn K mainGlobals "_law_text" = some (some (.ref f__law_text)))
    (l__law_text : K.lookup f__law_text = some ⟨oc__law_text, od__law_text, .func (PySem.W.fnOf "_law_text" "_law_text" (defArgs s__law_text) (defBody s__law_text) (defScope s__law_text) .none kV__law_text dc__law_text pm__law_text an__law_text cd__law_text ct__law_text), sl__law_text⟩)
    (c__law_text : PySem.W.codeIn K cd__law_text "_law_text" = true)
    (k__law_text : PySem.W.keepIn K (.ref f__law_text) = true)
    (a__law_key : PySem.W.nsIn K mainGlobals "_law_key" = some (some (.ref f__law_key)))
    (l__law_key : K.lookup f__law_key = some ⟨oc__law_key, od__law_key, .func (PySem.W.fnOf "_law_key" "_law_key" (defArgs s__law_key) (defBody s__law_key) (defScope s__law_key) .none kV__law_key dc__law_key pm__law_key an__law_key cd__law_key ct__law_key), sl__law_key⟩)
    (c__law_key : PySem.W.codeIn K cd__law_key "_law_key" = true)
    (k__law_key : PySem.W.keepIn K (.ref f__law_key) = true)
    (a__law_value : PySem.W.nsIn K mainGlobals "_law_value" = some (some (.ref f__law_value)))
    (l__law_value : K.lookup f__law_value = some ⟨oc__law_value, od__law_value, .func (PySem.W.fnOf "_law_value" "_law_value" (defArgs s__law_value) (defBody s__law_value) (defScope s__law_value) .none kV__law_value dc__law_value pm__law_value an__law_value cd__law_value ct__law_value), sl__law_value⟩)
    (c__law_value : PySem.W.codeIn K cd__law_value "_law_value" = true)
    (k__law_value : PySem.W.keepIn K (.ref f__law_value) = true)
    (a__law_deed : PySem.W.nsIn K mainGlobals "_law_deed" = some (some (.ref f__law_deed)))
    (l__law_deed : K.lookup f__law_deed = some ⟨oc__law_deed, od__law_deed, .func (PySem.W.fnOf "_law_deed" "_law_deed" (defArgs s__law_deed) (defBody s__law_deed) (defScope s__law_deed) .none kV__law_deed dc__law_deed pm__law_deed an__law_deed cd__law_deed ct__law_deed), sl__law_deed⟩)
    (c__law_deed : PySem.W.codeIn K cd__law_deed "_law_deed" = true)
    (k__law_deed : PySem.W.keepIn K (.ref f__law_deed) = true)
    (a__law_done : PySem.W.nsIn K mainGlobals "_law_done" = some (some (.ref f__law_done)))
    (l__law_done : K.lookup f__law_done = some ⟨oc__law_done, od__law_done, .func (PySem.W.fnOf "_law_done" "_law_done" (defArgs s__law_done) (defBody s__law_done) (defScope s__law_done) .none kV__law_done dc__law_done pm__law_done an__law_done cd__law_done ct__law_done), sl__law_done⟩)
    (c__law_done : PySem.W.codeIn K cd__law_done "_law_done" = true)
    (k__law_done : PySem.W.keepIn K (.ref f__law_done) = true)
    (a__law_same : PySem.W.nsIn K mainGlobals "_law_same" = some (some (.ref f__law_same)))
    (l__law_same : K.lookup f__law_same = some ⟨oc__law_same, od__law_same, .func (PySem.W.fnOf "_law_same" "_law_same" (defArgs s__law_same) (defBody s__law_same) (defScope s__law_same) .none kV__law_same dc__law_same pm__law_same an__law_same cd__law_same ct__law_same), sl__law_same⟩)
    (c__law_same : PySem.W.codeIn K cd__law_same "_law_same" = true)
    (k__law_same : PySem.W.keepIn K (.ref f__law_same) = true)
    (a__law_copy : PySem.W.nsIn K mainGlobals "_law_copy" = some (some (.ref f__law_copy)))
    (l__law_copy : K.lookup f__law_copy = some ⟨oc__law_copy, od__law_copy, .func (PySem.W.fnOf "_law_copy" "_law_copy" (defArgs s__law_copy) (defBody s__law_copy) (defScope s__law_copy) .none kV__law_copy dc__law_copy pm__law_copy an__law_copy cd__law_copy ct__law_copy), sl__law_copy⟩)
    (c__law_copy : PySem.W.codeIn K cd__law_copy "_law_copy" = true)
    (k__law_copy : PySem.W.keepIn K (.ref f__law_copy) = true)
    (a__law_keys : PySem.W.nsIn K mainGlobals "_law_keys" = some (some (.ref f__law_keys)))
    (l__law_keys : K.lookup f__law_keys = some ⟨oc__law_keys, od__law_keys, .func (PySem.W.fnOf "_law_keys" "_law_keys" (defArgs s__law_keys) (defBody s__law_keys) (defScope s__law_keys) .none kV__law_keys dc__law_keys pm__law_keys an__law_keys cd__law_keys ct__law_keys), sl__law_keys⟩)
    (c__law_keys : PySem.W.codeIn K cd__law_keys "_law_keys" = true)
    (k__law_keys : PySem.W.keepIn K (.ref f__law_keys) = true)
    (a__law_rows : PySem.W.nsIn K mainGlobals "_law_rows" = some (some (.ref f__law_rows)))
    (l__law_rows : K.lookup f__law_rows = some ⟨oc__law_rows, od__law_rows, .func (PySem.W.fnOf "_law_rows" "_law_rows" (defArgs s__law_rows) (defBody s__law_rows) (defScope s__law_rows) .none kV__law_rows dc__law_rows pm__law_rows an__law_rows cd__law_rows ct__law_rows), sl__law_rows⟩)
    (c__law_rows : PySem.W.codeIn K cd__law_rows "_law_rows" = true)
    (k__law_rows : PySem.W.keepIn K (.ref f__law_rows) = true)
    (a__law_deal : PySem.W.nsIn K mainGlobals "_law_deal" = some (some (.ref f__law_deal)))
    (l__law_deal : K.lookup f__law_deal = some ⟨oc__law_deal, od__law_deal, .func (PySem.W.fnOf "_law_deal" "_law_deal" (defArgs s__law_deal) (defBody s__law_deal) (defScope s__law_deal) .none kV__law_deal dc__law_deal pm__law_deal an__law_deal cd__law_deal ct__law_deal), sl__law_deal⟩)
    (c__law_deal : PySem.W.codeIn K cd__law_deal "_law_deal" = true)
    (k__law_deal : PySem.W.keepIn K (.ref f__law_deal) = true)
    (a__law_deal_done : PySem.W.nsIn K mainGlobals "_law_deal_done" = some (some (.ref f__law_deal_done)))
    (l__law_deal_done : K.lookup f__law_deal_done = some ⟨oc__law_deal_done, od__law_deal_done, .func (PySem.W.fnOf "_law_deal_done" "_law_deal_done" (defArgs s__law_deal_done) (defBody s__law_deal_done) (defScope s__law_deal_done) .none kV__law_deal_done dc__law_deal_done pm__law_deal_done an__law_deal_done cd__law_deal_done ct__law_deal_done), sl__law_deal_done⟩)
    (c__law_deal_done : PySem.W.codeIn K cd__law_deal_done "_law_deal_done" = true)
    (k__law_deal_done : PySem.W.keepIn K (.ref f__law_deal_done) = true)
    (a__law_same_answer : PySem.W.nsIn K mainGlobals "_law_same_answer" = some (some (.ref f__law_same_answer)))
    (l__law_same_answer : K.lookup f__law_same_answer = some ⟨oc__law_same_answer, od__law_same_answer, .func (PySem.W.fnOf "_law_same_answer" "_law_same_answer" (defArgs s__law_same_answer) (defBody s__law_same_answer) (defScope s__law_same_answer) .none kV__law_same_answer dc__law_same_answer pm__law_same_answer an__law_same_answer cd__law_same_answer ct__law_same_answer), sl__law_same_answer⟩)
    (c__law_same_answer : PySem.W.codeIn K cd__law_same_answer "_law_same_answer" = true)
    (k__law_same_answer : PySem.W.keepIn K (.ref f__law_same_answer) = true)
    (a__law_split : PySem.W.nsIn K mainGlobals "_law_split" = some (some (.ref f__law_split)))
    (l__law_split : K.lookup f__law_split = some ⟨oc__law_split, od__law_split, .func (PySem.W.fnOf "_law_split" "_law_split" (defArgs s__law_split) (defBody s__law_split) (defScope s__law_split) .none kV__law_split dc__law_split pm__law_split an__law_split cd__law_split ct__law_split), sl__law_split⟩)
    (c__law_split : PySem.W.codeIn K cd__law_split "_law_split" = true)
    (k__law_split : PySem.W.keepIn K (.ref f__law_split) = true)
    (a__law_tried_parts : PySem.W.nsIn K mainGlobals "_law_tried_parts" = some (some (.ref f__law_tried_parts)))
    (l__law_tried_parts : K.lookup f__law_tried_parts = some ⟨oc__law_tried_parts, od__law_tried_parts, .func (PySem.W.fnOf "_law_tried_parts" "_law_tried_parts" (defArgs s__law_tried_parts) (defBody s__law_tried_parts) (defScope s__law_tried_parts) .none kV__law_tried_parts dc__law_tried_parts pm__law_tried_parts an__law_tried_parts cd__law_tried_parts ct__law_tried_parts), sl__law_tried_parts⟩)
    (c__law_tried_parts : PySem.W.codeIn K cd__law_tried_parts "_law_tried_parts" = true)
    (k__law_tried_parts : PySem.W.keepIn K (.ref f__law_tried_parts) = true)
    (a_law : PySem.W.nsIn K mainGlobals "law" = some (some (.ref f_law)))
    (l_law : K.lookup f_law = some ⟨oc_law, od_law, .func (PySem.W.fnOf "law" "law" (defArgs s_law) (defBody s_law) (defScope s_law) .none kV_law dc_law pm_law an_law cd_law ct_law), sl_law⟩)
    (c_law : PySem.W.codeIn K cd_law "law" = true)
    (k_law : PySem.W.keepIn K (.ref f_law) = true)
    (z_HIGH_SIGNS : PySem.W.nsIn K mainGlobals "HIGH_SIGNS" = some (some (.str "&'()*+,-./0123456789:;<=>?@ABCDEFGHIJKLMNOPQRSTUVWXYZ[\\]^_`abcdefghijklmnopqrstuvwxyz{|}~" t_HIGH_SIGNS)))
    (z_LOW_SIGNS : PySem.W.nsIn K mainGlobals "LOW_SIGNS" = some (some (.str " !\"#$" t_LOW_SIGNS)))
    (z_MOST_VALUE : PySem.W.nsIn K mainGlobals "MOST_VALUE" = some (some (.int 1000000000000000 t_MOST_VALUE)))
    (z_VALUE_SIGNS : PySem.W.nsIn K mainGlobals "VALUE_SIGNS" = some (some (.int 20 t_VALUE_SIGNS)))
    (lc__by_place : K.lookup cA__by_place = some ⟨occ__by_place, odc__by_place, .fields vsc__by_place, slc__by_place⟩)
    (pv__by_place : vsc__by_place[11]? = some (.ref PA__by_place))
    (pn__by_place : K.lookup PA__by_place = none)
    (z_all : PySem.W.nsIn K mainGlobals "all" = some none)
    (z_bool : PySem.W.nsIn K mainGlobals "bool" = some none)
    (z_enumerate : PySem.W.nsIn K mainGlobals "enumerate" = some none)
    (z_int : PySem.W.nsIn K mainGlobals "int" = some none)
    (z_isinstance : PySem.W.nsIn K mainGlobals "isinstance" = some none)
    (z_len : PySem.W.nsIn K mainGlobals "len" = some none)
    (z_list : PySem.W.nsIn K mainGlobals "list" = some none)
    (z_range : PySem.W.nsIn K mainGlobals "range" = some none)
    (z_set : PySem.W.nsIn K mainGlobals "set" = some none)
    (z_sorted : PySem.W.nsIn K mainGlobals "sorted" = some none)
    (z_str : PySem.W.nsIn K mainGlobals "str" = some none)
    (z_tuple : PySem.W.nsIn K mainGlobals "tuple" = some none)
    : ∃ (c P : Addr) (fd : FuncData), PySem.W.tabIn K "_by_place" = some (c, P) ∧ K.lookup P = none ∧ (∀ (s : Shared) (v : Value), BindsTo s fd ⟨[v], []⟩ [("script", v)]) ∧ ∀ base : Heap, K.In base → base.Ns mainGlobals mg → LamX.TabB base mg c P → FnOk l.prog w K mg base CX0 8 fa fd ["script"] (sp_law K P) := by
  have e := hfa.symm.trans (PySem.W.mg_of X G a_law)
  cases e
  have F_is_integer := fun_mk (st := s_is_integer) l_is_integer c_is_integer k_is_integer
  have b_is_integer := F_is_integer.binds (ps := ["data"]) fun _ _ _ _ _ _ us hl => match us, hl with | [_], _ => rfl
  have F_is_text := fun_mk (st := s_is_text) l_is_text c_is_text k_is_text
  have b_is_text := F_is_text.binds (ps := ["data"]) fun _ _ _ _ _ _ us hl => match us, hl with | [_], _ => rfl
  have F_is_integer_within := fun_mk (st := s_is_integer_within) l_is_integer_within c_is_integer_within k_is_integer_within
  have b_is_integer_within := F_is_integer_within.binds (ps := ["data", "most"]) fun _ _ _ _ _ _ us hl => match us, hl with | [_, _], _ => rfl
  have F_is_value := fun_mk (st := s_is_value) l_is_value c_is_value k_is_value
  have b_is_value := F_is_value.binds (ps := ["data"]) fun _ _ _ _ _ _ us hl => match us, hl with | [_], _ => rfl
  have F_key_of_deed := fun_mk (st := s_key_of_deed) l_key_of_deed c_key_of_deed k_key_of_deed
  have b_key_of_deed := F_key_of_deed.binds (ps := ["deed"]) fun _ _ _ _ _ _ us hl => match us, hl with | [_], _ => rfl
  have F_apply_deed := fun_mk (st := s_apply_deed) l_apply_deed c_apply_deed k_apply_deed
  have b_apply_deed := F_apply_deed.binds (ps := ["rows", "deed"]) fun _ _ _ _ _ _ us hl => match us, hl with | [_, _], _ => rfl
  have F__add := fun_mk (st := s__add) l__add c__add k__add
  have b__add := F__add.binds (ps := ["rows", "key", "number"]) fun _ _ _ _ _ _ us hl => match us, hl with | [_, _, _], _ => rfl
  have F_part_of := fun_mk (st := s_part_of) l_part_of c_part_of k_part_of
  have b_part_of := F_part_of.binds (ps := ["deal", "keys"]) fun _ _ _ _ _ _ us hl => match us, hl with | [_, _], _ => rfl
  have F_keys_of_part := fun_mk (st := s_keys_of_part) l_keys_of_part c_keys_of_part k_keys_of_part
  have b_keys_of_part := F_keys_of_part.binds (ps := ["part"]) fun _ _ _ _ _ _ us hl => match us, hl with | [_], _ => rfl
  have F_try_part := fun_mk (st := s_try_part) l_try_part c_try_part k_try_part
  have b_try_part := F_try_part.binds (ps := ["rows", "part"]) fun _ _ _ _ _ _ us hl => match us, hl with | [_, _], _ => rfl
  have F_write_rows := fun_mk (st := s_write_rows) l_write_rows c_write_rows k_write_rows
  have b_write_rows := F_write_rows.binds (ps := ["rows", "writes"]) fun _ _ _ _ _ _ us hl => match us, hl with | [_, _], _ => rfl
  have F_join_parts := fun_mk (st := s_join_parts) l_join_parts c_join_parts k_join_parts
  have b_join_parts := F_join_parts.binds (ps := ["tried"]) fun _ _ _ _ _ _ us hl => match us, hl with | [_], _ => rfl
  have F__by_place := Xk.funC_mk (st := s__by_place) l__by_place c__by_place k__by_place
  have b__by_place := F__by_place.fn.binds (ps := ["pairs"]) fun _ _ _ _ _ _ us hl => match us, hl with | [_], _ => rfl
  have F_keys_of := fun_mk (st := s_keys_of) l_keys_of c_keys_of k_keys_of
  have b_keys_of := F_keys_of.binds (ps := ["deal"]) fun _ _ _ _ _ _ us hl => match us, hl with | [_], _ => rfl
  have F_do_deal := fun_mk (st := s_do_deal) l_do_deal c_do_deal k_do_deal
  have b_do_deal := F_do_deal.binds (ps := ["rows", "deal"]) fun _ _ _ _ _ _ us hl => match us, hl with | [_, _], _ => rfl
  have F__law_row := fun_mk (st := s__law_row) l__law_row c__law_row k__law_row
  have b__law_row := F__law_row.binds (ps := ["script", "k"]) fun _ _ _ _ _ _ us hl => match us, hl with | [_, _], _ => rfl
  have F__law_digits := fun_mk (st := s__law_digits) l__law_digits c__law_digits k__law_digits
  have b__law_digits := F__law_digits.binds (ps := ["row", "sizes"]) fun _ _ _ _ _ _ us hl => match us, hl with | [_, _], _ => rfl
  have F__law_sign := fun_mk (st := s__law_sign) l__law_sign c__law_sign k__law_sign
  have b__law_sign := F__law_sign.binds (ps := ["number"]) fun _ _ _ _ _ _ us hl => match us, hl with | [_], _ => rfl
  have F__law_text := fun_mk (st := s__law_text) l__law_text c__law_text k__law_text
  have b__law_text := F__law_text.binds (ps := ["row", "count"]) fun _ _ _ _ _ _ us hl => match us, hl with | [_, _], _ => rfl
  have F__law_key := fun_mk (st := s__law_key) l__law_key c__law_key k__law_key
  have b__law_key := F__law_key.binds (ps := ["row", "most"]) fun _ _ _ _ _ _ us hl => match us, hl with | [_, _], _ => rfl
  have F__law_value := fun_mk (st := s__law_value) l__law_value c__law_value k__law_value
  have b__law_value := F__law_value.binds (ps := ["row"]) fun _ _ _ _ _ _ us hl => match us, hl with | [_], _ => rfl
  have F__law_deed := fun_mk (st := s__law_deed) l__law_deed c__law_deed k__law_deed
  have b__law_deed := F__law_deed.binds (ps := ["keys", "row"]) fun _ _ _ _ _ _ us hl => match us, hl with | [_, _], _ => rfl
  have F__law_done := fun_mk (st := s__law_done) l__law_done c__law_done k__law_done
  have b__law_done := F__law_done.binds (ps := ["rows", "deed"]) fun _ _ _ _ _ _ us hl => match us, hl with | [_, _], _ => rfl
  have F__law_same := fun_mk (st := s__law_same) l__law_same c__law_same k__law_same
  have b__law_same := F__law_same.binds (ps := ["actual", "due"]) fun _ _ _ _ _ _ us hl => match us, hl with | [_, _], _ => rfl
  have F__law_copy := fun_mk (st := s__law_copy) l__law_copy c__law_copy k__law_copy
  have b__law_copy := F__law_copy.binds (ps := ["rows"]) fun _ _ _ _ _ _ us hl => match us, hl with | [_], _ => rfl
  have F__law_keys := fun_mk (st := s__law_keys) l__law_keys c__law_keys k__law_keys
  have b__law_keys := F__law_keys.binds (ps := ["script", "at", "most"]) fun _ _ _ _ _ _ us hl => match us, hl with | [_, _, _], _ => rfl
  have F__law_rows := fun_mk (st := s__law_rows) l__law_rows c__law_rows k__law_rows
  have b__law_rows := F__law_rows.binds (ps := ["script", "at", "keys"]) fun _ _ _ _ _ _ us hl => match us, hl with | [_, _, _], _ => rfl
  have F__law_deal := fun_mk (st := s__law_deal) l__law_deal c__law_deal k__law_deal
  have b__law_deal := F__law_deal.binds (ps := ["keys", "rows", "row", "more"]) fun _ _ _ _ _ _ us hl => match us, hl with | [_, _, _, _], _ => rfl
  have F__law_deal_done := fun_mk (st := s__law_deal_done) l__law_deal_done c__law_deal_done k__law_deal_done
  have b__law_deal_done := F__law_deal_done.binds (ps := ["rows", "deal"]) fun _ _ _ _ _ _ us hl => match us, hl with | [_, _], _ => rfl
  have F__law_same_answer := fun_mk (st := s__law_same_answer) l__law_same_answer c__law_same_answer k__law_same_answer
  have b__law_same_answer := F__law_same_answer.binds (ps := ["actual", "due"]) fun _ _ _ _ _ _ us hl => match us, hl with | [_, _], _ => rfl
  have F__law_split := fun_mk (st := s__law_split) l__law_split c__law_split k__law_split
  have b__law_split := F__law_split.binds (ps := ["keys", "row", "many"]) fun _ _ _ _ _ _ us hl => match us, hl with | [_, _, _], _ => rfl
  have F__law_tried_parts := fun_mk (st := s__law_tried_parts) l__law_tried_parts c__law_tried_parts k__law_tried_parts
  have b__law_tried_parts := F__law_tried_parts.binds (ps := ["rows", "deal", "sets"]) fun _ _ _ _ _ _ us hl => match us, hl with | [_, _, _], _ => rfl
  have F_law := fun_mk (st := s_law) l_law c_law k_law
  have b_law := F_law.binds (ps := ["script"]) fun _ _ _ _ _ _ us hl => match us, hl with | [_], _ => rfl
  let T : Txt K mg := ⟨t_HIGH_SIGNS, PySem.W.mg_of X G z_HIGH_SIGNS, t_LOW_SIGNS, PySem.W.mg_of X G z_LOW_SIGNS, t_MOST_VALUE, PySem.W.mg_of X G z_MOST_VALUE, t_VALUE_SIGNS, PySem.W.mg_of X G z_VALUE_SIGNS, f_is_integer, _, F_is_integer, b_is_integer, PySem.W.mg_of X G a_is_integer, f_is_text, _, F_is_text, b_is_text, PySem.W.mg_of X G a_is_text, f_is_integer_within, _, F_is_integer_within, b_is_integer_within, PySem.W.mg_of X G a_is_integer_within, f_is_value, _, F_is_value, b_is_value, PySem.W.mg_of X G a_is_value, f_key_of_deed, _, F_key_of_deed, b_key_of_deed, PySem.W.mg_of X G a_key_of_deed, f_apply_deed, _, F_apply_deed, b_apply_deed, PySem.W.mg_of X G a_apply_deed, f__add, _, F__add, b__add, PySem.W.mg_of X G a__add, f_part_of, _, F_part_of, b_part_of, PySem.W.mg_of X G a_part_of, f_keys_of_part, _, F_keys_of_part, b_keys_of_part, PySem.W.mg_of X G a_keys_of_part, f_try_part, _, F_try_part, b_try_part, PySem.W.mg_of X G a_try_part, f_write_rows, _, F_write_rows, b_write_rows, PySem.W.mg_of X G a_write_rows, f_join_parts, _, F_join_parts, b_join_parts, PySem.W.mg_of X G a_join_parts, f__by_place, _, cA__by_place, PA__by_place, F__by_place, b__by_place, PySem.W.mg_of X G a__by_place, f_keys_of, _, F_keys_of, b_keys_of, PySem.W.mg_of X G a_keys_of, f_do_deal, _, F_do_deal, b_do_deal, PySem.W.mg_of X G a_do_deal, f__law_row, _, F__law_row, b__law_row, PySem.W.mg_of X G a__law_row, f__law_digits, _, F__law_digits, b__law_digits, PySem.W.mg_of X G a__law_digits, f__law_sign, _, F__law_sign, b__law_sign, PySem.W.mg_of X G a__law_sign, f__law_text, _, F__law_text, b__law_text, PySem.W.mg_of X G a__law_text, f__law_key, _, F__law_key, b__law_key, PySem.W.mg_of X G a__law_key, f__law_value, _, F__law_value, b__law_value, PySem.W.mg_of X G a__law_value, f__law_deed, _, F__law_deed, b__law_deed, PySem.W.mg_of X G a__law_deed, f__law_done, _, F__law_done, b__law_done, PySem.W.mg_of X G a__law_done, f__law_same, _, F__law_same, b__law_same, PySem.W.mg_of X G a__law_same, f__law_copy, _, F__law_copy, b__law_copy, PySem.W.mg_of X G a__law_copy, f__law_keys, _, F__law_keys, b__law_keys, PySem.W.mg_of X G a__law_keys, f__law_rows, _, F__law_rows, b__law_rows, PySem.W.mg_of X G a__law_rows, f__law_deal, _, F__law_deal, b__law_deal, PySem.W.mg_of X G a__law_deal, f__law_deal_done, _, F__law_deal_done, b__law_deal_done, PySem.W.mg_of X G a__law_deal_done, f__law_same_answer, _, F__law_same_answer, b__law_same_answer, PySem.W.mg_of X G a__law_same_answer, f__law_split, _, F__law_split, b__law_split, PySem.W.mg_of X G a__law_split, f__law_tried_parts, _, F__law_tried_parts, b__law_tried_parts, PySem.W.mg_of X G a__law_tried_parts, fa, _, F_law, b_law, PySem.W.mg_of X G a_law, PySem.W.mg_none_of X G z_all, PySem.W.mg_none_of X G z_bool, PySem.W.mg_none_of X G z_enumerate, PySem.W.mg_none_of X G z_int, PySem.W.mg_none_of X G z_isinstance, PySem.W.mg_none_of X G z_len, PySem.W.mg_none_of X G z_list, PySem.W.mg_none_of X G z_range, PySem.W.mg_none_of X G z_set, PySem.W.mg_none_of X G z_sorted, PySem.W.mg_none_of X G z_str, PySem.W.mg_none_of X G z_tuple⟩
  exact ⟨cA__by_place, PA__by_place, PySem.W.fnOf "law" "law" (defArgs s_law) (defBody s_law) (defScope s_law) .none kV_law dc_law pm_law an_law cd_law ct_law, Xk.tab_in a__by_place l__by_place rfl lc__by_place pv__by_place, pn__by_place, fun s v => .of_eq rfl, fun base _ _ B => ok_law T B⟩
end K05
open PySem PySem.W PyProof.Rows
set_option maxRecDepth 100000 in
set_option maxHeartbeats 0 in
theorem PySem.Challenge.cw_crosskeep_k05_whole_deal_is_its_parts_holds : PySem.Challenge.rw_crosskeep_k05_whole_deal_is_its_parts.Holds := by
  w_on; o_law; k_head; (case hw => w_witness2)
  k_fill
  refine Xk.walk_ofT (l := PySem.Challenge.rw_crosskeep_k05_whole_deal_is_its_parts) (n := 63) (k := 8) (x := "script") (xn := "_by_place") (sp := K05.sp_law) rfl (by decide) rfl ⟨rfl, by decide, by decide⟩ (by rfl) (fun w h Y => PySem.W.km_in_of Y) ?F (fun _ _ _ a ns hl hT hS => ⟨a, ns, rfl, hS, hl, LamX.TabS.nil hT, fun _ => rfl⟩)
  case F =>
    intro w mg fa h KX G hmg
    refine' K05.all_mk KX G hmg ?a_is_integer ?l_is_integer ?c_is_integer ?k_is_integer ?a_is_text ?l_is_text ?c_is_text ?k_is_text ?a_is_integer_within ?l_is_integer_within ?c_is_integer_within ?k_is_integer_within ?a_is_value ?l_is_value ?c_is_value ?k_is_value ?a_key_of_deed ?l_key_of_deed ?c_key_of_deed ?k_key_of_deed ?a_apply_deed ?l_apply_deed ?c_apply_deed ?k_apply_deed ?a__add ?l__add ?c__add ?k__add ?a_part_of ?l_part_of ?c_part_of ?k_part_of ?a_keys_of_part ?l_keys_of_part ?c_keys_of_part ?k_keys_of_part ?a_try_part ?l_try_part ?c_try_part ?k_try_part ?a_write_rows ?l_write_rows ?c_write_rows ?k_write_rows ?a_join_parts ?l_join_parts ?c_join_parts ?k_join_parts ?a__by_place ?l__by_place ?c__by_place ?k__by_place ?a_keys_of ?l_keys_of ?c_keys_of ?k_keys_of ?a_do_deal ?l_do_deal ?c_do_deal ?k_do_deal ?a__law_row ?l__law_row ?c__law_row ?k__law_row ?a__law_digits ?l__law_digits ?c__law_digits ?k__law_digits ?a__law_sign ?l__law_sign ?c__law_sign ?k__law_sign ?a__law_text ?l__law_text ?c__law_text ?k__law_text ?a__law_key ?l__law_key ?c__law_key ?k__law_key ?a__law_value ?l__law_value ?c__law_value ?k__law_value ?a__law_deed ?l__law_deed ?c__law_deed ?k__law_deed ?a__law_done ?l__law_done ?c__law_done ?k__law_done ?a__law_same ?l__law_same ?c__law_same ?k__law_same ?a__law_copy ?l__law_copy ?c__law_copy ?k__law_copy ?a__law_keys ?l__law_keys ?c__law_keys ?k__law_keys ?a__law_rows ?l__law_rows ?c__law_rows ?k__law_rows ?a__law_deal ?l__law_deal ?c__law_deal ?k__law_deal ?a__law_deal_done ?l__law_deal_done ?c__law_deal_done ?k__law_deal_done ?a__law_same_answer ?l__law_same_answer ?c__law_same_answer ?k__law_same_answer ?a__law_split ?l__law_split ?c__law_split ?k__law_split ?a__law_tried_parts ?l__law_tried_parts ?c__law_tried_parts ?k__law_tried_parts ?a_law ?l_law ?c_law ?k_law ?z_HIGH_SIGNS ?z_LOW_SIGNS ?z_MOST_VALUE ?z_VALUE_SIGNS ?lc__by_place ?pv__by_place ?pn__by_place ?z_all ?z_bool ?z_enumerate ?z_int ?z_isinstance ?z_len ?z_list ?z_range ?z_set ?z_sorted ?z_str ?z_tuple
    (case a_is_integer => k_is)
    (case l_is_integer => k_is)
    (case c_is_integer => k_is)
    (case k_is_integer => k_is)
    (case a_is_text => k_is)
    (case l_is_text => k_is)
    (case c_is_text => k_is)
    (case k_is_text => k_is)
    (case a_is_integer_within => k_is)
    (case l_is_integer_within => k_is)
    (case c_is_integer_within => k_is)
    (case k_is_integer_within => k_is)
    (case a_is_value => k_is)
    (case l_is_value => k_is)
    (case c_is_value => k_is)
    (case k_is_value => k_is)
    (case a_key_of_deed => k_is)
    (case l_key_of_deed => k_is)
    (case c_key_of_deed => k_is)
    (case k_key_of_deed => k_is)
    (case a_apply_deed => k_is)
    (case l_apply_deed => k_is)
    (case c_apply_deed => k_is)
    (case k_apply_deed => k_is)
    (case a__add => k_is)
    (case l__add => k_is)
    (case c__add => k_is)
    (case k__add => k_is)
    (case a_part_of => k_is)
    (case l_part_of => k_is)
    (case c_part_of => k_is)
    (case k_part_of => k_is)
    (case a_keys_of_part => k_is)
    (case l_keys_of_part => k_is)
    (case c_keys_of_part => k_is)
    (case k_keys_of_part => k_is)
    (case a_try_part => k_is)
    (case l_try_part => k_is)
    (case c_try_part => k_is)
    (case k_try_part => k_is)
    (case a_write_rows => k_is)
    (case l_write_rows => k_is)
    (case c_write_rows => k_is)
    (case k_write_rows => k_is)
    (case a_join_parts => k_is)
    (case l_join_parts => k_is)
    (case c_join_parts => k_is)
    (case k_join_parts => k_is)
    (case a__by_place => k_is)
    (case l__by_place => k_is)
    (case c__by_place => k_is)
    (case k__by_place => k_is)
    (case a_keys_of => k_is)
    (case l_keys_of => k_is)
    (case c_keys_of => k_is)
    (case k_keys_of => k_is)
    (case a_do_deal => k_is)
    (case l_do_deal => k_is)
    (case c_do_deal => k_is)
    (case k_do_deal => k_is)
    (case a__law_row => k_is)
    (case l__law_row => k_is)
    (case c__law_row => k_is)
    (case k__law_row => k_is)
    (case a__law_digits => k_is)
    (case l__law_digits => k_is)
    (case c__law_digits => k_is)
    (case k__law_digits => k_is)
    (case a__law_sign => k_is)
    (case l__law_sign => k_is)
    (case c__law_sign => k_is)
    (case k__law_sign => k_is)
    (case a__law_text => k_is)
    (case l__law_text => k_is)
    (case c__law_text => k_is)
    (case k__law_text => k_is)
    (case a__law_key => k_is)
    (case l__law_key => k_is)
    (case c__law_key => k_is)
    (case k__law_key => k_is)
    (case a__law_value => k_is)
    (case l__law_value => k_is)
    (case c__law_value => k_is)
    (case k__law_value => k_is)
    (case a__law_deed => k_is)
    (case l__law_deed => k_is)
    (case c__law_deed => k_is)
    (case k__law_deed => k_is)
    (case a__law_done => k_is)
    (case l__law_done => k_is)
    (case c__law_done => k_is)
    (case k__law_done => k_is)
    (case a__law_same => k_is)
    (case l__law_same => k_is)
    (case c__law_same => k_is)
    (case k__law_same => k_is)
    (case a__law_copy => k_is)
    (case l__law_copy => k_is)
    (case c__law_copy => k_is)
    (case k__law_copy => k_is)
    (case a__law_keys => k_is)
    (case l__law_keys => k_is)
    (case c__law_keys => k_is)
    (case k__law_keys => k_is)
    (case a__law_rows => k_is)
    (case l__law_rows => k_is)
    (case c__law_rows => k_is)
    (case k__law_rows => k_is)
    (case a__law_deal => k_is)
    (case l__law_deal => k_is)
    (case c__law_deal => k_is)
    (case k__law_deal => k_is)
    (case a__law_deal_done => k_is)
    (case l__law_deal_done => k_is)
    (case c__law_deal_done => k_is)
    (case k__law_deal_done => k_is)
    (case a__law_same_answer => k_is)
    (case l__law_same_answer => k_is)
    (case c__law_same_answer => k_is)
    (case k__law_same_answer => k_is)
    (case a__law_split => k_is)
    (case l__law_split => k_is)
    (case c__law_split => k_is)
    (case k__law_split => k_is)
    (case a__law_tried_parts => k_is)
    (case l__law_tried_parts => k_is)
    (case c__law_tried_parts => k_is)
    (case k__law_tried_parts => k_is)
    (case a_law => k_is)
    (case l_law => k_is)
    (case c_law => k_is)
    (case k_law => k_is)
    (case z_HIGH_SIGNS => k_is)
    (case z_LOW_SIGNS => k_is)
    (case z_MOST_VALUE => k_is)
    (case z_VALUE_SIGNS => k_is)
    (case lc__by_place => k_is)
    (case pv__by_place => first | rfl | kernel_rfl | decide +kernel)
    (case pn__by_place => first | rfl | kernel_rfl | decide +kernel)
    (case z_all => k_is)
    (case z_bool => k_is)
    (case z_enumerate => k_is)
    (case z_int => k_is)
    (case z_isinstance => k_is)
    (case z_len => k_is)
    (case z_list => k_is)
    (case z_range => k_is)
    (case z_set => k_is)
    (case z_sorted => k_is)
    (case z_str => k_is)
    (case z_tuple => k_is)
#print axioms PySem.Challenge.cw_crosskeep_k05_whole_deal_is_its_parts_holds

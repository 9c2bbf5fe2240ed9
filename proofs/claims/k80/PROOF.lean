import PyProof.Rows.All
import Wide.All
import OpenK.AllK
import Wide.FinOn
import HandS.ForMost
import HandS.TryOnly
import HandS.IsInst
import HandS.Evl
import HandS.Wide
import HandS.TupAny
import HandS.SortInts
import HandS.Style
import HandS.Strs
import HandS.SetFor
import HandS.Conv
import HandS.More
import HandS.Walk
import HandS.WideBits
import HandS.Property
import HandS.TupLe
import HandS.Defaults
import HandS.Deep
import HandS.RevRange
import PyProof.StrOps2
import HandS.TupMul
import HandS.DictComp
import KE.GoesMore
import KE.SortKeyHeap
import KE.DataCmp
import PyProof.DictMoreH
import HandS.SetKeys
import HandS.Conv
import KE.DataMinMax
import HandS.TupLen
import PySem.Challenge.RW_crosskeep_k80_orders_are_judged
set_option Elab.async false
set_option linter.all false
set_option maxRecDepth 100000
set_option maxHeartbeats 4000000

/-! ## readings, one step at a time (a layer of our own over the hand layer) -/
namespace Xk
open PySem PySem.Spec PyProof.Rows L2

section
variable {K : PySem.W.Frag} {σ : L2.St} {H H0 H1 H2 : Hp} {Q : VK} {ta tb tc te : TE} {t u : TT} {D : Ends} {tz tu tw : TS} {g : TG} {x y z v : V} {i j : Int} {b : Bool}

/-! ### values -/
theorem rel_ref {a : Addr} : RelV (.ref a) (.ref a) := rfl
theorem rel_ty {T : String} : RelV (.ty T) (.type T) := rfl
theorem rel_int {tk : Tok} : RelV (.int i) (.int i tk) := ⟨tk, rfl⟩
theorem rel_str {s : Str} {tk : Tok} : RelV (.str s) (.str s tk) := ⟨tk, rfl⟩

/-! ### heaps -/
/-- nothing stands at p -/
structure Fr (p : Addr) (H : Hp) : Prop where
  is : H p = none
theorem same_fr {p : Addr} {o : HO} (h : Fr p H) : Same H (upd H p o) := fun c x e => by
  rw [upd_ne (ne_of_none e h.is)]
  exact e
theorem same_new {p : Addr} {o : HO} (h : H p = none) : Same H (upd H p o) := fun c x e => by
  rw [upd_ne (ne_of_none e h)]
  exact e
theorem same_mut {p : Addr} {o : HO} (e : Same H H1) (h : Fr p H) : Same H (upd H1 p o) := fun c x ha => by
  rw [upd_ne (ne_of_none ha h.is)]
  exact e c x ha
theorem same_at {a : Addr} {o : HO} (e : Same H H1) (h : H a = some o) : H1 a = some o := e a o h
theorem free_back {p : Addr} (h : Fr p H1) (e : Same H H1) : Fr p H := ⟨Same.free e h.is⟩
theorem ne_new {a p : Addr} {o : HO} (h' : Fr p H) (h : H a = some o) : a ≠ p := ne_of_none h h'.is
theorem sq_of {a : Addr} {xs : List V} (h : H a = some (.lst xs)) : SqL K H a xs := Or.inl (Or.inl h)
theorem st_of {a : Addr} {xs : List V} (h : H a = some (.tup xs)) : SqT K H a xs := Or.inl (Or.inl h)
theorem sq_same {a : Addr} {xs : List V} (h : SqL K H a xs) (e : Same H H1) : SqL K H1 a xs := e.seq h
theorem st_same {a : Addr} {xs : List V} (h : SqT K H a xs) (e : Same H H1) : SqT K H1 a xs := by
  rcases h with (h | ⟨o, h⟩) | h
  · exact .inl (.inl (e _ _ h))
  · exact .inl (.inr ⟨o, e _ _ h⟩)
  · exact .inr h
theorem size_ok {n : Nat} (h : n ≤ 100000) : n ≤ sizeLine := Nat.le_trans h (by decide)
theorem size_lt {n : Nat} (h : n < 100000) : n < sizeLine := Nat.lt_of_lt_of_le h (by decide)

/-- all that was tracked but at p is as it was -/
def But (p : Addr) (H H' : Hp) : Prop := ∀ b o, b ≠ p → H b = some o → H' b = some o
theorem But.refl (p : Addr) (H : Hp) : But p H H := fun _ _ _ h => h
theorem but_same {p : Addr} (e : Same H H1) : But p H H1 := fun b o _ h => e b o h
theorem but_trans {p : Addr} (e : But p H H1) (e' : But p H1 H2) : But p H H2 := fun b o n h => e' b o n (e b o n h)
theorem but_mut {p : Addr} {o : HO} (e : But p H H1) : But p H (upd H1 p o) := fun b u n h => by
  rw [upd_ne n]
  exact e b u n h
theorem but_new {p q : Addr} {o : HO} (e : But p H H1) (h : Fr q H) : But p H (upd H1 q o) := fun b u n g => by
  rw [upd_ne (ne_of_none g h.is)]
  exact e b u n g
theorem but_at {p a : Addr} {o : HO} (e : But p H H1) (n : a ≠ p) (h : H a = some o) : H1 a = some o := e a o n h
theorem none_but {p a : Addr} {o u : HO} (h : H p = some o) (e : But p H H1) (h1 : H1 p = some u) (ha : Fr a H1) : Fr a H := by
  refine ⟨?_⟩
  cases q : H a with
  | none => rfl
  | some v =>
    by_cases n : a = p
    · subst n
      rw [ha.is] at h1
      cases h1
    · have := e a v n q
      rw [ha.is] at this
      cases this
theorem fr_upd {p q : Addr} {o : HO} (h : Fr p (upd H q o)) : Fr p H := by
  refine ⟨?_⟩
  have h1 := h.is
  unfold upd at h1
  split at h1
  · cases h1
  · exact h1
theorem same_but {p : Addr} (e : But p H H1) (h : Fr p H0) (e0 : Same H0 H) : Same H0 H1 := fun b o g => e b o (ne_of_none g h.is) (e0 b o g)

/-! ### expressions -/
theorem x_var {n : Nat} (h : σ[n]? = some (some v)) (q : Q v H) : tVar n σ H Q := ⟨v, h, q⟩
theorem x_c (q : Q v H) : tC v σ H Q := q
theorem x_op {r : R2} (q : ta σ H fun x H1 => tb σ H1 fun y H2 => r x y H2 Q) : tOp r ta tb σ H Q := q
theorem x_un {r : V → Hp → VK → Prop} (q : ta σ H fun x H1 => r x H1 Q) : tUn r ta σ H Q := q
theorem x_I0 {f : Int → Int → V} (q : Q (f i j) H) : rI0 f (.int i) (.int j) H Q := ⟨i, j, rfl, rfl, q⟩
theorem x_I {C : Int → Int → Prop} {f : Int → Int → V} (hc : C i j) (q : Q (f i j) H) : rI C f (.int i) (.int j) H Q := ⟨i, j, rfl, rfl, hc, q⟩
theorem x_U {f : Int → V} (q : Q (f i) H) : rU f (.int i) H Q := ⟨i, rfl, q⟩
theorem x_eq (h : scal x y = true) (q : Q (.bl (decide (x = y))) H) : rEq x y H Q := ⟨h, q⟩
theorem x_ne (h : scal x y = true) (q : Q (.bl (!decide (x = y))) H) : rNe x y H Q := ⟨h, q⟩
theorem x_ixL {p : Addr} {xs : List V} (h : SqL K H p xs) (ha : atI xs i = some v) (q : Q v H) : rIxL K (.ref p) (.int i) H Q := ⟨p, xs, i, v, rfl, rfl, h, ha, q⟩
theorem x_ixT {p : Addr} {xs : List V} (h : SqT K H p xs) (ha : atI xs i = some v) (q : Q v H) : rIxT K (.ref p) (.int i) H Q := ⟨p, xs, i, v, rfl, rfl, h, ha, q⟩
theorem x_ixS {w : Str} {c : Nat} (h : w.length ≤ 100000) (ha : atI w.cps.toList i = some c) (q : Q (.str ⟨#[c]⟩) H) : rIxS (.str w) (.int i) H Q := ⟨w, i, c, rfl, rfl, size_ok h, ha, q⟩
theorem x_nil {R : List V → Hp → Prop} (q : R [] H) : tNil σ H R := q
theorem x_cons {tr : TA} {R : List V → Hp → Prop} (q : ta σ H fun x H1 => tr σ H1 fun xs H2 => R (x :: xs) H2) : tCons ta tr σ H R := q
def New (Q : VK) (o : HO) (n : Nat) (H : Hp) : Prop := n ≤ sizeLine ∧ ∀ p, H p = none → Q (.ref p) (upd H p o)
theorem x_lst {tr : TA} (q : tr σ H fun xs H1 => New Q (.lst xs) xs.length H1) : tLst tr σ H Q := q
theorem x_tup {tr : TA} (q : tr σ H fun xs H1 => New Q (.tup xs) xs.length H1) : tTup tr σ H Q := q
/-- what is new is told by what it holds; the heap gets a name -/
theorem x_new {n : Nat} {o : HO} (hl : n ≤ 100000) (k : ∀ p H2, Fr p H → Same H H2 → H2 p = some o → Q (.ref p) H2) : New Q o n H :=
  ⟨size_ok hl, fun p hp => k p _ ⟨hp⟩ (same_new hp) upd_same⟩
theorem x_new1 {o : HO} (k : ∀ p H2, Fr p H → Same H H2 → H2 p = some o → Q (.ref p) H2) : ∀ p, H p = none → Q (.ref p) (upd H p o) :=
  fun p hp => k p _ ⟨hp⟩ (same_new hp) upd_same
theorem x_cb {r : List V → Hp → VK → Prop} {tr : TA} (q : tr σ H fun vs H1 => r vs H1 Q) : tCB r tr σ H Q := q
theorem x_call {sp : Sp} {dvs : List V} {E : XK} {tr : TA} (q : tr σ H fun vs H1 => sp (vs ++ dvs) H1 Q E) : tCall sp dvs E tr σ H Q := q
theorem x_sl {r : V → Option Int → Option Int → Hp → VK → Prop} {tl th : TO} (q : te σ H fun x H1 => tl σ H1 fun l H2 => th σ H2 fun u H3 => r x l u H3 Q) : tSl r te tl th σ H Q := q
theorem x_nopart {R : Option Int → Hp → Prop} (q : R none H) : tNoPart σ H R := q
theorem x_part {R : Option Int → Hp → Prop} (q : te σ H fun x H1 => ∃ i, x = .int i ∧ R (some i) H1) : tPart te σ H R := q
theorem x_if (q : t σ H fun c H1 => if c = true then ta σ H1 Q else tb σ H1 Q) : tIf t ta tb σ H Q := q
theorem x_andV (q : ta σ H fun x H1 => ∃ c, x = .bl c ∧ if c = true then tb σ H1 Q else Q (.bl false) H1) : tAndV ta tb σ H Q := q
theorem x_orV (q : ta σ H fun x H1 => ∃ c, x = .bl c ∧ if c = true then Q (.bl true) H1 else tb σ H1 Q) : tOrV ta tb σ H Q := q
theorem x_notV (q : ta σ H fun x H1 => ∃ c, x = .bl c ∧ Q (.bl (!c)) H1) : tNotV ta σ H Q := q
theorem x_bl {R : Bool → Prop} (q : R b) : ∃ c, V.bl b = .bl c ∧ R c := ⟨b, rfl, q⟩
theorem x_isI {R : Int → Prop} (q : R i) : ∃ c, V.int i = .int c ∧ R c := ⟨i, rfl, q⟩

/-! ### built-ins by names -/
def nInt : List V → Hp → VK → Prop := fun xs H Q => (∃ i, xs = [.int i] ∧ Q (.int i) H) ∨ ∃ k, xs = [.bl k] ∧ Q (.int (if k then 1 else 0)) H
theorem call_nInt {X : Cx} : CallR X (.type "int") nInt := call_int1
theorem x_nInt (q : Q (.int i) H) : nInt [.int i] H Q := .inl ⟨i, rfl, q⟩
theorem x_nIntB (q : Q (.int (if b then 1 else 0)) H) : nInt [.bl b] H Q := .inr ⟨b, rfl, q⟩
def nLen (K : PySem.W.Frag) : List V → Hp → VK → Prop := fun xs H Q => ∃ p ys, xs = [.ref p] ∧ (SqL K H p ys ∨ SqT K H p ys) ∧ Q (.int ys.length) H
theorem call_nLen {X : Cx} : CallR X (.builtin "len") (nLen X.K) := call_len_seq
theorem x_lenL {p : Addr} {ys : List V} (h : SqL K H p ys) (q : Q (.int ys.length) H) : nLen K [.ref p] H Q := ⟨p, ys, rfl, .inl h, q⟩
theorem x_lenT {p : Addr} {ys : List V} (h : SqT K H p ys) (q : Q (.int ys.length) H) : nLen K [.ref p] H Q := ⟨p, ys, rfl, .inr h, q⟩
def nListOf (K : PySem.W.Frag) : List V → Hp → VK → Prop := fun xs H Q => ∃ p ys, xs = [.ref p] ∧ (SqL K H p ys ∨ SqT K H p ys) ∧ ∀ l, H l = none → Q (.ref l) (upd H l (.lst ys))
theorem call_nListOf {X : Cx} : CallR X (.type "list") (nListOf X.K) := call_list_of
theorem x_listL {p : Addr} {ys : List V} (h : SqL K H p ys) (k : ∀ l H2, Fr l H → Same H H2 → H2 l = some (.lst ys) → Q (.ref l) H2) : nListOf K [.ref p] H Q := ⟨p, ys, rfl, .inl h, x_new1 k⟩
theorem x_listT {p : Addr} {ys : List V} (h : SqT K H p ys) (k : ∀ l H2, Fr l H → Same H H2 → H2 l = some (.lst ys) → Q (.ref l) H2) : nListOf K [.ref p] H Q := ⟨p, ys, rfl, .inr h, x_new1 k⟩
def nTupleOf (K : PySem.W.Frag) : List V → Hp → VK → Prop := fun xs H Q => ∃ p ys, xs = [.ref p] ∧ ((SqL K H p ys ∧ ∀ l, H l = none → Q (.ref l) (upd H l (.tup ys))) ∨ (SqT K H p ys ∧ Q (.ref p) H))
theorem call_nTupleOf {X : Cx} : CallR X (.type "tuple") (nTupleOf X.K) := call_tuple_of
theorem x_tupleL {p : Addr} {ys : List V} (h : SqL K H p ys) (k : ∀ l H2, Fr l H → Same H H2 → H2 l = some (.tup ys) → Q (.ref l) H2) : nTupleOf K [.ref p] H Q := ⟨p, ys, rfl, .inl ⟨h, x_new1 k⟩⟩
theorem x_tupleT {p : Addr} {ys : List V} (h : SqT K H p ys) (q : Q (.ref p) H) : nTupleOf K [.ref p] H Q := ⟨p, ys, rfl, .inr ⟨h, q⟩⟩
theorem kit_T {a c : String} (h : kitB a c = some true) : kitB a c = some true := h
theorem kit_F {a c : String} (h : kitB a c = some false) : kitB a c = some false := h
theorem x_isi {c : String} {tt : String} {k : Bool} (ty : TyX K H x (.type tt)) (e : kitB tt c = some k) (q : Q (.bl k) H) : rIsi K [x, .ty c] H Q := ⟨x, .ty c, .type tt, .type c, k, rfl, .ty _, ty, kit_ty e, q⟩
theorem x_isiInt {c : String} {k : Bool} (e : kitB "int" c = some k) (q : Q (.bl k) H) : rIsi K [.int i, .ty c] H Q := x_isi (.base (.int i)) e q
theorem x_isiBl {c : String} {k b : Bool} (e : kitB "bool" c = some k) (q : Q (.bl k) H) : rIsi K [.bl b, .ty c] H Q := x_isi (.base (.bl b)) e q
theorem x_isiStr {c : String} {k : Bool} {s : Str} (e : kitB "str" c = some k) (q : Q (.bl k) H) : rIsi K [.str s, .ty c] H Q := x_isi (.base (.str s)) e q
theorem x_isiNon {c : String} {k : Bool} (e : kitB "NoneType" c = some k) (q : Q (.bl k) H) : rIsi K [.non, .ty c] H Q := x_isi (.base .non) e q
theorem x_isiLst {c : String} {k : Bool} {a : Addr} {xs : List V} (h : H a = some (.lst xs)) (e : kitB "list" c = some k) (q : Q (.bl k) H) : rIsi K [.ref a, .ty c] H Q := x_isi (.base (.lst h)) e q
theorem x_isiTup {c : String} {k : Bool} {a : Addr} {xs : List V} (h : H a = some (.tup xs)) (e : kitB "tuple" c = some k) (q : Q (.bl k) H) : rIsi K [.ref a, .ty c] H Q := x_isi (.base (.tup h)) e q

def nSorted (K : PySem.W.Frag) : List V → Hp → VK → Prop := fun vs H Q => ∃ (a : Addr) (ns : List Int), vs = [V.ref a] ∧ SqL K H a (ns.map V.int) ∧ ns.length < 64 ∧
  ∀ (ns' : List Int) (p : Addr), ns'.Perm ns → ns'.Pairwise (· ≤ ·) → H p = none → Q (.ref p) (upd H p (.lst (ns'.map V.int)))
theorem x_sorted {a : Addr} {ns : List Int} (h : SqL K H a (ns.map V.int)) (hl : ns.length < 64) (k : ∀ p H2 (ns' : List Int), ns'.Perm ns → ns'.Pairwise (· ≤ ·) → Fr p H → Same H H2 → H2 p = some (.lst (ns'.map V.int)) → Q (.ref p) H2) : rSorted K [.ref a] H Q :=
  ⟨a, ns, rfl, h, hl, fun ns' p h1 h2 h3 => k p _ ns' h1 h2 ⟨h3⟩ (same_new h3) upd_same⟩
/-- set(t), t a tuple of ints -/
def rSetOfI (K : PySem.W.Frag) (w : World) : List V → Hp → VK → Prop := fun vs H Q => ∃ (p : Addr) (ns : List Int), vs = [V.ref p] ∧ SqT K H p (ns.map V.int) ∧ ns.length ≤ 1000 ∧ ∀ a n, H a = none → n ≤ ns.length → Q (.ref a) (upd H a (SetO w a (fun j => decide (j ∈ ns)) n))
theorem cr_setOfI {X : Cx} (hc : X.calm = true) : CallR X (.type "set") (rSetOfI X.K X.w) := by
  intro pins s σ H xs us Q I r h
  obtain ⟨p0, ns, rfl, hq, hl, q⟩ := h
  cases r with
  | cons r rr =>
    cases rr
    cases r
    obtain ⟨its, rv, pt, hz⟩ := I.tuple hq
    have hi : IntsAre its.toArray.toList ns := ints_of_vals rv
    have hd := I.ok.hd hc
    refine call_set_tupI ns hd (show s.heap.IsTuple p0 its.toArray from pt) hi (by unfold scanBound; omega) fun h' tk c R1 hcn k => ?_
    exact ⟨.ref _, upd H s.heap.objs.size (SetO X.w s.heap.objs.size (fun j => decide (j ∈ ns)) c), I.laid (t' := tk) k (Nat.le_refl _) (setO_new R1), rfl, q _ _ (I.hok.fresh (Nat.le_refl _)) hcn⟩
theorem x_setOfI {w : World} {p : Addr} {ns : List Int} (h : SqT K H p (ns.map V.int)) (hl : ns.length ≤ 1000) (k : ∀ a H2 n, Fr a H → Same H H2 → H2 a = some (SetO w a (fun j => decide (j ∈ ns)) n) → n ≤ ns.length → Q (.ref a) H2) : rSetOfI K w [.ref p] H Q :=
  ⟨p, ns, rfl, h, hl, fun a n h1 h2 => k a _ n ⟨h1⟩ (same_new h1) upd_same h2⟩
theorem x_sortedSet {w : World} {a : Addr} {S : Int → Bool} {n : Nat} (h : H a = some (SetO w a S n)) (hl : n < 64) (k : ∀ p H2 (ns : List Int), ns.Pairwise (· < ·) → (∀ k : Int, k ∈ ns ↔ S k = true) → ns.length = n → Fr p H → Same H H2 → H2 p = some (.lst (ns.map V.int)) → Q (.ref p) H2) : rSortedSet w [.ref a] H Q :=
  ⟨a, S, n, rfl, h, hl, fun ns p h1 h2 h3 h4 => k p _ ns h1 h2 h3 ⟨h4⟩ (same_new h4) upd_same⟩
theorem x_all {a : Addr} {bs : List Bool} (h : SqL K H a (bs.map V.bl)) (q : Q (.bl (bs.all id)) H) : rAll K [.ref a] H Q := ⟨a, bs, rfl, h, q⟩
theorem x_any {a : Addr} {bs : List Bool} (h : SqL K H a (bs.map V.bl)) (q : Q (.bl (bs.any id)) H) : rAny K [.ref a] H Q := ⟨a, bs, rfl, h, q⟩
theorem x_sum {a : Addr} {ns : List Int} (h : SqL K H a (ns.map V.int)) (q : Q (.int ns.sum) H) : rSum K [.ref a] H Q := ⟨a, ns, rfl, h, q⟩
theorem x_inL {p : Addr} {xs : List V} (h : SqL K H p xs) (hx : flatV x = true) (ha : xs.all flatV = true) (q : Q (.bl (inV x xs)) H) : rIn K false x (.ref p) H Q := ⟨p, xs, rfl, .inl h, hx, ha, q⟩
theorem x_inT {p : Addr} {xs : List V} (h : SqT K H p xs) (hx : flatV x = true) (ha : xs.all flatV = true) (q : Q (.bl (inV x xs)) H) : rIn K false x (.ref p) H Q := ⟨p, xs, rfl, .inr h, hx, ha, q⟩
theorem x_niL {p : Addr} {xs : List V} (h : SqL K H p xs) (hx : flatV x = true) (ha : xs.all flatV = true) (q : Q (.bl (!inV x xs)) H) : rIn K true x (.ref p) H Q := ⟨p, xs, rfl, .inl h, hx, ha, q⟩
theorem x_niT {p : Addr} {xs : List V} (h : SqT K H p xs) (hx : flatV x = true) (ha : xs.all flatV = true) (q : Q (.bl (!inV x xs)) H) : rIn K true x (.ref p) H Q := ⟨p, xs, rfl, .inr h, hx, ha, q⟩
theorem flat_ints : ∀ ns : List Int, (ns.map V.int).all flatV = true
  | [] => rfl
  | n :: r => by
    rw [List.map_cons, List.all_cons, flat_ints r]
    rfl
theorem in_ints (i : Int) : ∀ ns : List Int, inV (.int i) (ns.map V.int) = decide (i ∈ ns)
  | [] => by simp [inV]
  | n :: r => by
    have h := in_ints i r
    unfold inV at h ⊢
    rw [List.map_cons, List.any_cons, h]
    by_cases e : n = i
    · subst e
      simp [eqV]
    · have e' : ¬ i = n := fun z => e z.symm
      simp [eqV, e, e']

def nIsN : R2 := fun x y H Q => y = .non ∧ Q (.bl (decide (x = .non))) H
def nNotN : R2 := fun x y H Q => y = .non ∧ Q (.bl (!decide (x = .non))) H
theorem op_nIsN {X : Cx} : OpR X (compareOp .Is) nIsN := op_isN
theorem op_nNotN {X : Cx} : OpR X (compareOp .IsNot) nNotN := op_notN
theorem x_nIsN (q : Q (.bl (decide (x = .non))) H) : nIsN x .non H Q := ⟨rfl, q⟩
theorem x_nNotN (q : Q (.bl (!decide (x = .non))) H) : nNotN x .non H Q := ⟨rfl, q⟩
def nAndM : R2 := fun x y H Q => ∃ (i : Int) (k : Nat), x = .int i ∧ y = .int (2 ^ k - 1) ∧ Q (.int (i % 2 ^ k)) H
theorem op_nAndM {X : Cx} : OpR X (binaryOp .BitAnd) nAndM := op_andM
theorem x_and255 (q : Q (.int (i % 256)) H) : nAndM (.int i) (.int 255) H Q := ⟨i, 8, rfl, rfl, q⟩

/-! ### the same rules, K told: within a comprehension's block too -/
section
variable {X : Cx} {w : World}
theorem k_in (e : X.K = K) : OpR X (compareOp .In) (rIn K false) := e ▸ op_in_seq
theorem k_enum {e : Expr} {ta : TA} {p pos tpos : Pos} {elts : List Expr} {kk : Nat} (hk : X.K = K) (hg : Gl X "enumerate") (hm : X.mg "enumerate" = none) (ha : PA X [e] ta) (hs : starEach [e] X.env = [(false, eval e X.env)] := by rfl) :
    PI X (.Tuple elts kk tpos) (.Call (.Name "enumerate" p) [e] [] pos) (iEnum K ta) := hk ▸ pi_enum hg hm ha hs
theorem k_gtup {es : List Expr} {k : Nat} {pos : Pos} {gs : TGs} {n : Nat} (hk : X.K = K) (hc : X.calm = true) (h : PGs X es gs)
    (hn : (assignEach es X.env).length = n := by rfl) (hst : (assignEach es X.env).findIdx? (·.1) = none := by rfl) : PG X (.Tuple es k pos) (gTup K n gs) := hk ▸ pg_tup hc h hn hst
theorem k_nin (e : X.K = K) : OpR X (compareOp .NotIn) (rIn K true) := e ▸ op_notIn_seq
theorem k_ixL (e : X.K = K) : IxR X (rIxL K) := e ▸ ix_list
theorem k_ixT (e : X.K = K) : IxR X (rIxT K) := e ▸ ix_tup
theorem k_slL (e : X.K = K) : SlR X (rSlL K) := e ▸ sl_list
theorem k_len (e : X.K = K) : CallR X (.builtin "len") (nLen K) := e ▸ call_nLen
theorem k_list (e : X.K = K) : CallR X (.type "list") (nListOf K) := e ▸ call_nListOf
theorem k_tuple (e : X.K = K) : CallR X (.type "tuple") (nTupleOf K) := e ▸ call_nTupleOf
theorem k_isi (e : X.K = K) : CallR X (.builtin "isinstance") (rIsi K) := e ▸ call_isi
theorem k_all (hc : X.calm = true) (e : X.K = K) : CallR X (.builtin "all") (rAll K) := e ▸ cr_all hc
theorem k_any (hc : X.calm = true) (e : X.K = K) : CallR X (.builtin "any") (rAny K) := e ▸ cr_any hc
theorem k_sum (hc : X.calm = true) (e : X.K = K) : CallR X (.builtin "sum") (rSum K) := e ▸ cr_sum hc
theorem k_sorted (e : X.K = K) : CallR X (.builtin "sorted") (rSorted K) := e ▸ cr_sorted
theorem k_sortedS (e : X.K = K) : CallR X (.builtin "sorted") (rSortedS K) := e ▸ cr_sortedS
theorem k_sortedSet (hc : X.calm = true) (e : X.w = w) : CallR X (.builtin "sorted") (rSortedSet w) := e ▸ cr_sortedSet hc
theorem k_setOfI (hc : X.calm = true) (e : X.K = K) (e' : X.w = w) : CallR X (.type "set") (rSetOfI K w) := e ▸ e' ▸ cr_setOfI hc
theorem k_eqD (hu : X.A.units + 64 < cLine) (e : X.K = K) : OpR X (compareOp .Eq) (rEqD K) := e ▸ op_eqD hu
theorem k_neD (hu : X.A.units + 64 < cLine) (e : X.K = K) : OpR X (compareOp .NotEq) (rNeD K) := e ▸ op_neD hu
end

/-! ### tests -/
theorem x_test {R : Bool → Hp → Prop} (q : te σ H fun x H1 => ∃ k, x = .bl k ∧ R k H1) : tTest te σ H R := q
theorem x_B {R : Bool → Hp → Prop} (q : te σ H fun x H1 => ∃ k, x = .bl k ∧ R k H1) : tB te σ H R := q
theorem x_and {R : Bool → Hp → Prop} (q : t σ H fun c H1 => if c = true then u σ H1 R else R false H1) : tAnd t u σ H R := q
theorem x_or {R : Bool → Hp → Prop} (q : t σ H fun c H1 => if c = true then R true H1 else u σ H1 R) : tOr t u σ H R := q
theorem x_not {R : Bool → Hp → Prop} (q : t σ H fun c H1 => R (!c) H1) : tNot t σ H R := q
theorem x_yes {R : Bool → Hp → Prop} (q : R true H) : tYes σ H R := q
theorem x_chain {r r' : R2} (q : ta σ H fun x H1 => tb σ H1 fun y H2 => r x y H2 fun z H3 => ∃ k, z = .bl k ∧ (if k = true then tc σ H3 fun w' H4 => r' y w' H4 Q else Q (.bl false) H3)) : tChain r r' ta tb tc σ H Q := q
theorem x_itd {p A B : Prop} [Decidable p] (h1 : p → A) (h2 : ¬p → B) : if decide p = true then A else B := by
  by_cases h : p
  · rw [if_pos (decide_eq_true h)]
    exact h1 h
  · rw [if_neg (by rw [decide_eq_false h]; decide)]
    exact h2 h
theorem x_itn {p A B : Prop} [Decidable p] (h1 : ¬p → A) (h2 : p → B) : if (!decide p) = true then A else B := by
  by_cases h : p
  · rw [decide_eq_true h, if_neg (by decide)]
    exact h2 h
  · rw [decide_eq_false h, if_pos (by decide)]
    exact h1 h
theorem x_itb {A B : Prop} (h1 : b = true → A) (h2 : b = false → B) : if b = true then A else B := by
  cases b with
  | true => rw [if_pos rfl]; exact h1 rfl
  | false => rw [if_neg (by decide)]; exact h2 rfl
theorem x_itnb {A B : Prop} (h1 : b = false → A) (h2 : b = true → B) : if (!b) = true then A else B := by
  cases b with
  | true => exact h2 rfl
  | false => exact h1 rfl

theorem x_nT {A B : Prop} (h : B) : if (!true) = true then A else B := h
theorem x_nF {A B : Prop} (h : A) : if (!false) = true then A else B := h
theorem x_dY {p A B : Prop} [Decidable p] (hp : p) (h : A) : if decide p = true then A else B := x_itd (fun _ => h) fun z => absurd hp z
theorem x_dN {p A B : Prop} [Decidable p] (hp : ¬p) (h : B) : if decide p = true then A else B := x_itd (fun z => absurd z hp) fun _ => h
theorem x_ndY {p A B : Prop} [Decidable p] (hp : p) (h : B) : if (!decide p) = true then A else B := x_itn (fun z => absurd hp z) fun _ => h
theorem x_ndN {p A B : Prop} [Decidable p] (hp : ¬p) (h : A) : if (!decide p) = true then A else B := x_itn (fun _ => h) fun z => absurd z hp

/-! ### statements -/
theorem x_seq (q : tu { D with nx := tz D } σ H) : tSeq tu tz D σ H := q
theorem x_sasg {n : Nat} (q : te σ H fun v H1 => tz D (σ.set n (some v)) H1) : tSeq (tAsg te (gName n)) tz D σ H := q
theorem x_asg {n : Nat} (q : te σ H fun v H1 => D.nx (σ.set n (some v)) H1) : tAsg te (gName n) D σ H := q
theorem x_sasgG (q : te σ H fun v H1 => g v σ H1 (tz D)) : tSeq (tAsg te g) tz D σ H := q
theorem x_asgG (q : te σ H fun v H1 => g v σ H1 D.nx) : tAsg te g D σ H := q
theorem x_ret (q : te σ H D.rt) : tRet te D σ H := q
theorem x_retN (q : D.rt .non H) : tRetN D σ H := q
theorem x_next (q : D.nx σ H) : tNext D σ H := q
theorem x_brk (q : D.bk σ H) : tBreak D σ H := q
theorem x_ct (q : D.ct σ H) : tCont D σ H := q
theorem x_sif (q : t σ H fun b H1 => if b = true then tu { D with nx := tz D } σ H1 else tw { D with nx := tz D } σ H1) : tSeq (tIfS t tu tw) tz D σ H := q
theorem x_ifS (q : t σ H fun b H1 => if b = true then tu D σ H1 else tw D σ H1) : tIfS t tu tw D σ H := q
theorem x_sdrop (q : te σ H fun _ H1 => tz D σ H1) : tSeq (tDrop te) tz D σ H := q
theorem x_drop (q : te σ H fun _ H1 => D.nx σ H1) : tDrop te D σ H := q
theorem x_saug {n : Nat} {ti : TIp} (h : σ[n]? = some (some x)) (q : te σ H fun y H1 => ti x y H1 fun z H2 => tz D (σ.set n (some z)) H2) : tSeq (tAug n te ti) tz D σ H := ⟨x, h, q⟩
theorem x_aug {n : Nat} {ti : TIp} (h : σ[n]? = some (some x)) (q : te σ H fun y H1 => ti x y H1 fun z H2 => D.nx (σ.set n (some z)) H2) : tAug n te ti D σ H := ⟨x, h, q⟩
theorem x_ipI {f : Int → Int → Int} (q : Q (.int (f i j)) H) : ipI f (.int i) (.int j) H Q := ⟨i, j, rfl, rfl, q⟩
/-- an if, then the rest: what follows is shown once -/
theorem x_cut (M : L2.St → Hp → Prop) (h : tu { D with nx := M } σ H) (k : ∀ σ' H', M σ' H' → tz D σ' H') : Evl.tCut tu tz D σ H := ⟨M, h, k⟩
theorem x_nocut (h : tu { D with nx := tz D } σ H) : Evl.tCut tu tz D σ H := ⟨_, h, fun _ _ q => q⟩

theorem x_nocutW (h : tSeq (tWhile t tu) tz D σ H) : Evl.tCut (tWhile t tu) tz D σ H := ⟨_, h, fun _ _ q => q⟩

/-! ### targets -/
theorem x_gName {n : Nat} {R : L2.St → Hp → Prop} (q : R (σ.set n (some v)) H) : gName n v σ H R := q
theorem x_gTup {n : Nat} {gs : TGs} {R : L2.St → Hp → Prop} {a : Addr} {xs : List V} (h : SqT K H a xs) (hn : xs.length = n) (q : gs xs σ H R) : gTup K n gs (.ref a) σ H R := ⟨a, xs, rfl, h, hn, q⟩
theorem x_gLst {n : Nat} {gs : TGs} {R : L2.St → Hp → Prop} {a : Addr} {xs : List V} (h : SqL K H a xs) (hn : xs.length = n) (q : gs xs σ H R) : gLst K n gs (.ref a) σ H R := ⟨a, xs, rfl, h, hn, q⟩
theorem x_gCons {gs : TGs} {R : L2.St → Hp → Prop} {vs : List V} (q : g v σ H fun σ' H' => gs vs σ' H' R) : gCons g gs (v :: vs) σ H R := ⟨v, vs, rfl, q⟩
theorem x_gNil {R : L2.St → Hp → Prop} (q : R σ H) : gNil [] σ H R := ⟨rfl, q⟩
theorem x_gSub {to ti : TE} {ts : TSet} {R : L2.St → Hp → Prop} (q : to σ H fun o H1 => ti σ H1 fun i H2 => ts o i v H2 fun H3 => R σ H3) : gSub to ti ts v σ H R := q
theorem ixN_nat {n j : Nat} (hj : j < n) : ixN n (j : Int) = some j := by
  unfold ixN
  rw [if_pos (by omega), if_pos (by omega)]
  simp
theorem ixN_of {n j : Nat} {k : Int} (e : k = (j : Int)) (hj : j < n) : ixN n k = some j := by
  rw [e]
  exact ixN_nat hj
theorem at_nat {α : Type} {xs : List α} {k : Int} {j : Nat} {v : α} (e : k = (j : Int)) (h : xs[j]? = some v) : atI xs k = some v := by
  rw [e]
  exact atI_nat h
theorem at_neg {α : Type} {xs : List α} {k : Int} {j : Nat} {v : α} (hk : k < 0) (e : k + (xs.length : Int) = (j : Int)) (h : xs[j]? = some v) : atI xs k = some v := by
  unfold atI ixN
  rw [if_neg (by omega), if_pos (by omega)]
  have e2 : (k + (xs.length : Int)).toNat = j := by omega
  rw [e2]
  exact h
theorem x_setL {p : Addr} {xs : List V} {k : Int} {j : Nat} {R : Hp → Prop} (h : H p = some (.lst xs)) (hj : ixN xs.length k = some j) (q : R (upd H p (.lst (xs.set j v)))) : rSetL (.ref p) (.int k) v H R := ⟨p, xs, k, j, rfl, rfl, h, hj, q⟩
/-- xs.append(e) -/
theorem x_bm {T : String} {r : V → List V → Hp → VK → Prop} {tr : TA} (q : te σ H fun x H1 => tyV K T x H1 ∧ tr σ H1 fun xs H2 => r x xs H2 Q) : tBM K T r te tr σ H Q := q
theorem x_bm0 {T : String} {r : V → List V → Hp → VK → Prop} (q : te σ H fun x H1 => tyV K T x H1 ∧ r x [] H1 Q) : tBM0 K T r te σ H Q := q
theorem x_tyL {a : Addr} {xs : List V} {P : Prop} (h : SqL K H a xs) (q : P) : tyV K "list" (.ref a) H ∧ P := ⟨.inl ⟨rfl, xs, h⟩, q⟩
theorem x_app {l : Addr} {xs : List V} (h : H l = some (.lst xs)) (hz : xs.length < 100000) (q : Q .non (upd H l (.lst (xs ++ [v])))) : rAppend (.ref l) [v] H Q := ⟨l, xs, v, rfl, rfl, h, size_lt hz, q⟩
theorem x_cat {a c : Addr} {xs ys : List V} (h : H a = some (.lst xs)) (h' : H c = some (.lst ys)) (hz : xs.length + ys.length ≤ 100000) (k : ∀ p H2, Fr p H → Same H H2 → H2 p = some (.lst (xs ++ ys)) → Q (.ref p) H2) : rCat (.ref a) (.ref c) H Q :=
  ⟨a, c, xs, ys, rfl, rfl, h, h', size_ok hz, x_new1 k⟩
theorem x_slL {a : Addr} {xs : List V} {lo hi : Option Int} (h : SqL K H a xs) (k : ∀ p H2, Fr p H → Same H H2 → H2 p = some (.lst (cutV xs lo hi)) → Q (.ref p) H2) : rSlL K (.ref a) lo hi H Q := ⟨a, xs, rfl, h, x_new1 k⟩

/-! ### loops -/
theorem x_forR {n : Nat} (q : te σ H fun x H1 => ∃ m : Int, x = .int m ∧ 0 ≤ m ∧ m ≤ 100000 ∧ ∃ Pv : Nat → L2.St → Hp → Prop, Pv 0 σ H1 ∧
      (∀ (i : Nat) σ' H', (i : Int) < m → Pv i σ' H' → tu { D with nx := Pv (i + 1), ct := Pv (i + 1), bk := D.nx } (σ'.set n (some (.int (i : Int)))) H') ∧ (∀ σ' H', Pv m.toNat σ' H' → D.nx σ' H'))
    (mono : ∀ Q Q' : VK, (∀ v H1, Q v H1 → Q' v H1) → te σ H Q → te σ H Q') : tFor (iRng1 (tCons te tNil)) (gName n) tu D σ H := by
  refine mono _ _ (fun v H1 h => ?_) q
  obtain ⟨m, rfl, h0, h1, Pv, p0, ps, pd⟩ := h
  refine ⟨m, rfl, by omega, by omega, for_range (lo := 0) (n := m.toNat) Pv p0 (fun i σ' H' hi p => ?_) pd⟩
  have e0 : (0 : Int) + (i : Int) = (i : Int) := Int.zero_add _
  show tu { D with nx := Pv (i + 1), ct := Pv (i + 1), bk := D.nx } (σ'.set n (some (.int ((0 : Int) + (i : Int))))) H'
  rw [e0]
  exact ps i σ' H' (by omega) p
def RRange (n : Nat) (m : Int) (tu : TS) (D : Ends) (σ : L2.St) (H : Hp) : Prop := ∃ Pv : Nat → L2.St → Hp → Prop, Pv 0 σ H ∧
      (∀ (i : Nat) σ' H', (i : Int) < m → Pv i σ' H' → tu { D with nx := Pv (i + 1), ct := Pv (i + 1), bk := D.nx } (σ'.set n (some (.int (i : Int)))) H') ∧ (∀ σ' H', Pv m.toNat σ' H' → D.nx σ' H')
def rRange (n : Nat) (tu : TS) (D : Ends) (σ : L2.St) : List V → Hp → Prop := fun vs H => ∃ j : Int, vs = [.int j] ∧ -(2 ^ 62) ≤ j ∧ j < 2 ^ 62 ∧ ∃ W : Nat → Nat → L2.St → Hp → Prop, (∃ m, W 0 m σ H) ∧ ∀ i m σ H, W i m σ H →
  ((Itr 0 j.toNat).stop i H ∧ D.nx σ H) ∨ ((Itr 0 j.toNat).go i H ∧ ∃ N : L2.St → Hp → Prop, (∀ σ' H', N σ' H' → ∃ m', m' < m ∧ W (i + 1) m' σ' H') ∧ ∀ x H', (Itr 0 j.toNat).yld i H x H' → gName n x σ H' fun σ2 H2 => tu { D with nx := N, ct := N, bk := D.nx } σ2 H2)
theorem x_forR1 {n : Nat} {tr : TA} (q : tr σ H (rRange n tu D σ)) : tFor (iRng1 tr) (gName n) tu D σ H := q
theorem x_range {n : Nat} {m : Int} (Pv : Nat → L2.St → Hp → Prop) (hm : 0 ≤ m ∧ m ≤ 100000) (p0 : Pv 0 σ H)
    (ps : ∀ (i : Nat) σ' H', (i : Int) < m → Pv i σ' H' → tu { D with nx := Pv (i + 1), ct := Pv (i + 1), bk := D.nx } (σ'.set n (some (.int (i : Int)))) H') (pd : ∀ σ' H', Pv m.toNat σ' H' → D.nx σ' H') : rRange n tu D σ [.int m] H := by
  refine ⟨m, rfl, by omega, by omega, for_range (lo := 0) (n := m.toNat) Pv p0 (fun i σ' H' hi p => ?_) pd⟩
  have e0 : (0 : Int) + (i : Int) = (i : Int) := Int.zero_add _
  show tu { D with nx := Pv (i + 1), ct := Pv (i + 1), bk := D.nx } (σ'.set n (some (.int ((0 : Int) + (i : Int))))) H'
  rw [e0]
  exact ps i σ' H' (by omega) p
def rForL (K : PySem.W.Frag) (g : TG) (tu : TS) (D : Ends) (σ : L2.St) : VK := fun x H => ∃ a, x = .ref a ∧ (∃ xs, SqL K H a xs) ∧ ∃ W : Nat → Nat → L2.St → Hp → Prop, (∃ m, W 0 m σ H) ∧ ∀ i m σ H, W i m σ H →
  ((Itl K a).stop i H ∧ D.nx σ H) ∨ ((Itl K a).go i H ∧ ∃ N : L2.St → Hp → Prop, (∀ σ' H', N σ' H' → ∃ m', m' < m ∧ W (i + 1) m' σ' H') ∧ ∀ x H', (Itl K a).yld i H x H' → g x σ H' fun σ2 H2 => tu { D with nx := N, ct := N, bk := D.nx } σ2 H2)
theorem x_forL1 (q : te σ H (rForL K g tu D σ)) : tFor (iList K te) g tu D σ H := q
theorem x_forL {a : Addr} {xs : List V} (Pv : Nat → L2.St → Hp → Prop) (hx : SqL K H a xs) (p0 : Pv 0 σ H) (hl : ∀ i σ' H', i ≤ xs.length → Pv i σ' H' → SqL K H' a xs)
    (ps : ∀ i x σ' H', xs[i]? = some x → Pv i σ' H' → g x σ' H' fun σ2 H2 => tu { D with nx := Pv (i + 1), ct := Pv (i + 1), bk := D.nx } σ2 H2) (pd : ∀ σ' H', Pv xs.length σ' H' → D.nx σ' H') : rForL K g tu D σ (.ref a) H :=
  ⟨a, rfl, ⟨xs, hx⟩, for_list Pv p0 hl ps pd⟩
def rForT (K : PySem.W.Frag) (g : TG) (tu : TS) (D : Ends) (σ : L2.St) : VK := fun x H => ∃ a, x = .ref a ∧ (∃ xs, SqT K H a xs) ∧ ∃ W : Nat → Nat → L2.St → Hp → Prop, (∃ m, W 0 m σ H) ∧ ∀ i m σ H, W i m σ H →
  ((Itt K a).stop i H ∧ D.nx σ H) ∨ ((Itt K a).go i H ∧ ∃ N : L2.St → Hp → Prop, (∀ σ' H', N σ' H' → ∃ m', m' < m ∧ W (i + 1) m' σ' H') ∧ ∀ x H', (Itt K a).yld i H x H' → g x σ H' fun σ2 H2 => tu { D with nx := N, ct := N, bk := D.nx } σ2 H2)
theorem x_forT1 (q : te σ H (rForT K g tu D σ)) : tFor (iTup K te) g tu D σ H := q
theorem x_forT {a : Addr} {xs : List V} (Pv : Nat → L2.St → Hp → Prop) (hx : SqT K H a xs) (p0 : Pv 0 σ H) (hl : ∀ i σ' H', i ≤ xs.length → Pv i σ' H' → SqT K H' a xs)
    (ps : ∀ i x σ' H', xs[i]? = some x → Pv i σ' H' → g x σ' H' fun σ2 H2 => tu { D with nx := Pv (i + 1), ct := Pv (i + 1), bk := D.nx } σ2 H2) (pd : ∀ σ' H', Pv xs.length σ' H' → D.nx σ' H') : rForT K g tu D σ (.ref a) H :=
  ⟨a, rfl, ⟨xs, hx⟩, for_tup Pv p0 hl ps pd⟩
/-- while: W by a number that falls -/
def Falls (W : Nat → L2.St → Hp → Prop) (m : Nat) : L2.St → Hp → Prop := fun σ' H' => ∃ m', m' < m ∧ W m' σ' H'
theorem x_while (W : Nat → L2.St → Hp → Prop) (m0 : Nat) (h0 : W m0 σ H) (hs : ∀ m σ' H', W m σ' H' → t σ' H' fun b H1 => if b = true then tu { D with nx := Falls W m, ct := Falls W m, bk := D.nx } σ' H1 else D.nx σ' H1)
    (mono : ∀ (σ' : L2.St) (H' : Hp) (R R' : Bool → Hp → Prop), (∀ y H4, R y H4 → R' y H4) → t σ' H' R → t σ' H' R') : tWhile t tu D σ H :=
  ⟨W, ⟨m0, h0⟩, fun m σ' H' hw => mono _ _ _ _ (fun b H1 q => by
    cases b with
    | true =>
      rw [if_pos rfl] at q ⊢
      exact ⟨Falls W m, fun _ _ h => h, q⟩
    | false =>
      rw [if_neg (by decide)] at q ⊢
      exact q) (hs m σ' H' hw)⟩
def WTurn (W : Nat → L2.St → Hp → Prop) (m : Nat) (tu : TS) (D : Ends) (σ : L2.St) : Bool → Hp → Prop := fun b H1 => if b = true then ∃ N : L2.St → Hp → Prop, (∀ σ' H', N σ' H' → ∃ m', m' < m ∧ W m' σ' H') ∧ tu { D with nx := N, ct := N, bk := D.nx } σ H1 else D.nx σ H1
theorem x_while1 (W : Nat → L2.St → Hp → Prop) (m0 : Nat) (h0 : W m0 σ H) (hs : ∀ m σ' H', W m σ' H' → t σ' H' (WTurn W m tu D σ')) : tWhile t tu D σ H := ⟨W, ⟨m0, h0⟩, hs⟩
theorem x_wT {W : Nat → L2.St → Hp → Prop} {m : Nat} (q : tu { D with nx := Falls W m, ct := Falls W m, bk := D.nx } σ H) : WTurn W m tu D σ true H := by
  unfold WTurn
  rw [if_pos rfl]
  exact ⟨Falls W m, fun _ _ h => h, q⟩
theorem x_wF {W : Nat → L2.St → Hp → Prop} {m : Nat} (q : D.nx σ H) : WTurn W m tu D σ false H := by
  unfold WTurn
  rw [if_neg (by decide)]
  exact q
theorem x_wd {W : Nat → L2.St → Hp → Prop} {m : Nat} {p : Prop} [Decidable p] (h1 : p → WTurn W m tu D σ true H) (h2 : ¬p → WTurn W m tu D σ false H) : WTurn W m tu D σ (decide p) H := by
  by_cases h : p
  · rw [decide_eq_true h]
    exact h1 h
  · rw [decide_eq_false h]
    exact h2 h
theorem x_wn {W : Nat → L2.St → Hp → Prop} {m : Nat} {p : Prop} [Decidable p] (h1 : ¬p → WTurn W m tu D σ true H) (h2 : p → WTurn W m tu D σ false H) : WTurn W m tu D σ (!decide p) H := by
  by_cases h : p
  · rw [decide_eq_true h]
    exact h2 h
  · rw [decide_eq_false h]
    exact h1 h

/-! ### comprehensions -/
def RLc (J : It) (g : TG) (tt : TT) (te : TE) (vs : List Nat) (σ : L2.St) (Q : VK) : Hp → Prop := fun H1 => ∀ D, H1 D = none → ∃ W : Nat → Nat → Hp → Prop, (∃ m, W 0 m (upd H1 D (.lst []))) ∧ ∀ i m H, W i m H →
  (J.stop i H ∧ Q (.ref D) H) ∨ (J.go i H ∧ ∃ Nx : Hp → Prop, (∀ H', Nx H' → ∃ m', m' < m ∧ W (i + 1) m' H') ∧ ∀ x H', J.yld i H x H' → g x (wipe σ vs) H' fun σ2 H2 => wipe σ2 vs = wipe σ vs ∧ tt σ2 H2 fun b H3 =>
    if b = true then te σ2 H3 fun y H4 => ∃ acc, H4 D = some (.lst acc) ∧ acc.length < sizeLine ∧ Nx (upd H4 D (.lst (acc ++ [y]))) else Nx H3)
def rLcL (K : PySem.W.Frag) (g : TG) (tt : TT) (te : TE) (vs : List Nat) (σ : L2.St) (Q : VK) : VK := fun x H1 => ∃ a, x = .ref a ∧ (∃ xs, SqL K H1 a xs) ∧ RLc (Itl K a) g tt te vs σ Q H1
def rLcT (K : PySem.W.Frag) (g : TG) (tt : TT) (te : TE) (vs : List Nat) (σ : L2.St) (Q : VK) : VK := fun x H1 => ∃ a, x = .ref a ∧ (∃ xs, SqT K H1 a xs) ∧ RLc (Itt K a) g tt te vs σ Q H1
def rLcR (g : TG) (tt : TT) (te : TE) (vs : List Nat) (σ : L2.St) (Q : VK) : List V → Hp → Prop := fun xs H1 => ∃ j : Int, xs = [.int j] ∧ -(2 ^ 62) ≤ j ∧ j < 2 ^ 62 ∧ RLc (Itr 0 j.toNat) g tt te vs σ Q H1
theorem x_lcL1 {tx : TE} {vs : List Nat} (q : tx σ H (rLcL K g t te vs σ Q)) : tLc (iList K tx) g t te vs σ H Q := q
theorem x_lcT1 {tx : TE} {vs : List Nat} (q : tx σ H (rLcT K g t te vs σ Q)) : tLc (iTup K tx) g t te vs σ H Q := q
theorem x_lcR1 {tr : TA} {vs : List Nat} (q : tr σ H (rLcR g t te vs σ Q)) : tLc (iRng1 tr) g t te vs σ H Q := q
/-- a list comprehension: Pv of the new list's place, the turn and the heap -/
theorem x_lcL {a : Addr} {xs : List V} {vs : List Nat} (Pv : Addr → Nat → Hp → Prop) (hx : SqL K H a xs) (h0 : ∀ Dl, Fr Dl H → Pv Dl 0 (upd H Dl (.lst []))) (hl : ∀ Dl i H', Fr Dl H → Pv Dl i H' → SqL K H' a xs)
    (hs : ∀ Dl, Fr Dl H → ∀ i x H', xs[i]? = some x → Pv Dl i H' → g x (wipe σ vs) H' fun σ2 H2 => wipe σ2 vs = wipe σ vs ∧ t σ2 H2 fun b H3 =>
      if b = true then te σ2 H3 fun y H4 => ∃ acc, H4 Dl = some (.lst acc) ∧ acc.length < sizeLine ∧ Pv Dl (i + 1) (upd H4 Dl (.lst (acc ++ [y]))) else Pv Dl (i + 1) H3)
    (hd : ∀ Dl H', Fr Dl H → Pv Dl xs.length H' → Q (.ref Dl) H') : rLcL K g t te vs σ Q (.ref a) H := ⟨a, rfl, ⟨xs, hx⟩, fun Dl hD =>
  lc_list (xs := xs) (Pv Dl) (h0 Dl ⟨hD⟩) (fun i H' _ p => hl Dl i H' ⟨hD⟩ p) (fun i x H' hi p => hs Dl ⟨hD⟩ i x H' hi p) (fun H' p => hd Dl H' ⟨hD⟩ p)⟩
theorem x_lcT {a : Addr} {xs : List V} {vs : List Nat} (Pv : Addr → Nat → Hp → Prop) (hx : SqT K H a xs) (h0 : ∀ Dl, Fr Dl H → Pv Dl 0 (upd H Dl (.lst []))) (hl : ∀ Dl i H', Fr Dl H → Pv Dl i H' → SqT K H' a xs)
    (hs : ∀ Dl, Fr Dl H → ∀ i x H', xs[i]? = some x → Pv Dl i H' → g x (wipe σ vs) H' fun σ2 H2 => wipe σ2 vs = wipe σ vs ∧ t σ2 H2 fun b H3 =>
      if b = true then te σ2 H3 fun y H4 => ∃ acc, H4 Dl = some (.lst acc) ∧ acc.length < sizeLine ∧ Pv Dl (i + 1) (upd H4 Dl (.lst (acc ++ [y]))) else Pv Dl (i + 1) H3)
    (hd : ∀ Dl H', Fr Dl H → Pv Dl xs.length H' → Q (.ref Dl) H') : rLcT K g t te vs σ Q (.ref a) H := ⟨a, rfl, ⟨xs, hx⟩, fun Dl hD =>
  lc_tup (xs := xs) (Pv Dl) (h0 Dl ⟨hD⟩) (fun i H' _ p => hl Dl i H' ⟨hD⟩ p) (fun i x H' hi p => hs Dl ⟨hD⟩ i x H' hi p) (fun H' p => hd Dl H' ⟨hD⟩ p)⟩
theorem x_lcR {m : Int} {vs : List Nat} (Pv : Addr → Nat → Hp → Prop) (hm : 0 ≤ m ∧ m ≤ 100000) (h0 : ∀ Dl, Fr Dl H → Pv Dl 0 (upd H Dl (.lst [])))
    (hs : ∀ Dl, Fr Dl H → ∀ (i : Nat) H', (i : Int) < m → Pv Dl i H' → g (.int (i : Int)) (wipe σ vs) H' fun σ2 H2 => wipe σ2 vs = wipe σ vs ∧ t σ2 H2 fun b H3 =>
      if b = true then te σ2 H3 fun y H4 => ∃ acc, H4 Dl = some (.lst acc) ∧ acc.length < sizeLine ∧ Pv Dl (i + 1) (upd H4 Dl (.lst (acc ++ [y]))) else Pv Dl (i + 1) H3)
    (hd : ∀ Dl H', Fr Dl H → Pv Dl m.toNat H' → Q (.ref Dl) H') : rLcR g t te vs σ Q [.int m] H := ⟨m, rfl, by omega, by omega, fun Dl hD =>
  lc_range (lo := 0) (n := m.toNat) (Pv Dl) (h0 Dl ⟨hD⟩) (fun i H' hi p => by
    have e0 : (0 : Int) + (i : Int) = (i : Int) := Int.zero_add _
    rw [e0]
    exact hs Dl ⟨hD⟩ i H' (by omega) p) (fun H' p => hd Dl H' ⟨hD⟩ p)⟩
def rLcE (K : PySem.W.Frag) (g : TG) (tt : TT) (te : TE) (vs : List Nat) (σ : L2.St) (Q : VK) : List V → Hp → Prop := fun vs' H1 => ∃ a xs, vs' = [.ref a] ∧ SqL K H1 a xs ∧ RLc (Ite K a) g tt te vs σ Q H1
theorem x_lcE1 {tr : TA} {vs : List Nat} (q : tr σ H (rLcE K g t te vs σ Q)) : tLc (iEnum K tr) g t te vs σ H Q := q
theorem x_lcE {a : Addr} {xs : List V} {vs : List Nat} (Pv : Addr → Nat → Hp → Prop) (hx : SqL K H a xs) (h0 : ∀ Dl, Fr Dl H → Pv Dl 0 (upd H Dl (.lst []))) (hl : ∀ Dl i H', Fr Dl H → Pv Dl i H' → SqL K H' a xs)
    (hs : ∀ Dl, Fr Dl H → ∀ i x H1 T H', xs[i]? = some x → Pv Dl i H1 → Fr T H1 → Same H1 H' → H' T = some (.tup [.int (i : Nat), x]) → g (.ref T) (wipe σ vs) H' fun σ2 H2 => wipe σ2 vs = wipe σ vs ∧ t σ2 H2 fun b H3 =>
      if b = true then te σ2 H3 fun y H4 => ∃ acc, H4 Dl = some (.lst acc) ∧ acc.length < sizeLine ∧ Pv Dl (i + 1) (upd H4 Dl (.lst (acc ++ [y]))) else Pv Dl (i + 1) H3)
    (hd : ∀ Dl H', Fr Dl H → Pv Dl xs.length H' → Q (.ref Dl) H') : rLcE K g t te vs σ Q [.ref a] H := ⟨a, xs, rfl, hx, fun Dl hD =>
  lc_it walk_enum (Pv Dl) (h0 Dl ⟨hD⟩) (fun i H' _ p => hl Dl i H' ⟨hD⟩ p) (fun i x H1 H' hi p y => by
    obtain ⟨T, u, v, rfl, hT, rfl, e1, e2⟩ := y
    cases Option.some.inj e1
    exact hs Dl ⟨hD⟩ i v H1 T _ e2 p ⟨hT⟩ (same_new hT) upd_same) (fun H' p => hd Dl H' ⟨hD⟩ p)⟩
/-- the end of a turn: what is kept goes into the list -/
def Keep (Dl : Addr) (N : Hp → Prop) : VK := fun y H => ∃ acc, H Dl = some (.lst acc) ∧ acc.length < sizeLine ∧ N (upd H Dl (.lst (acc ++ [y])))
theorem x_keep {Dl : Addr} {N : Hp → Prop} {acc : List V} (h : H Dl = some (.lst acc)) (hz : acc.length < 100000) (q : N (upd H Dl (.lst (acc ++ [y])))) : ∃ acc, H Dl = some (.lst acc) ∧ acc.length < sizeLine ∧ N (upd H Dl (.lst (acc ++ [y]))) := ⟨acc, h, size_lt hz, q⟩
theorem x_wiped {A : Prop} {a b : L2.St} (h : a = b) (q : A) : a = b ∧ A := ⟨h, q⟩
end

/-! ### lists -/
theorem map_at {α β : Type} {f : α → β} {xs : List α} {j : Nat} {x : α} (h : xs[j]? = some x) : (xs.map f)[j]? = some (f x) := by
  rw [List.getElem?_map, h]
  rfl
theorem of_map_at {α β : Type} {f : α → β} {xs : List α} {j : Nat} {y : β} (h : (xs.map f)[j]? = some y) : ∃ x, xs[j]? = some x ∧ y = f x := by
  rw [List.getElem?_map] at h
  obtain ⟨x, hx, rfl⟩ := Option.map_eq_some_iff.mp h
  exact ⟨x, hx, rfl⟩
theorem at_lt {α : Type} {xs : List α} {j : Nat} {x : α} (h : xs[j]? = some x) : j < xs.length := (List.getElem?_eq_some_iff.mp h).1
theorem lt_at {α : Type} {xs : List α} {j : Nat} (h : j < xs.length) : ∃ x, xs[j]? = some x := ⟨xs[j], List.getElem?_eq_getElem h⟩
theorem drop_at {α : Type} {xs : List α} {j : Nat} {x : α} (h : xs[j]? = some x) : xs.drop j = x :: xs.drop (j + 1) := by
  obtain ⟨h1, h2⟩ := List.getElem?_eq_some_iff.mp h
  rw [List.drop_eq_getElem_cons h1, h2]
theorem snoc_map {α β : Type} {f : α → β} {xs : List α} {x : α} : xs.map f ++ [f x] = (xs ++ [x]).map f := by
  rw [List.map_append]
  rfl
theorem mem_snoc {α : Type} {P : α → Prop} {xs : List α} {x : α} (h : ∀ y ∈ xs, P y) (hx : P x) : ∀ y ∈ xs ++ [x], P y := fun y hy => by
  rcases List.mem_append.mp hy with hy | hy
  · exact h y hy
  · rw [List.mem_singleton.mp hy]
    exact hx

def upto (a b : Int) : List Int := (List.range (b - a).toNat).map fun i => a + (i : Nat)
theorem rgV_ints (a b : Int) : rgV a b = (upto a b).map V.int := by
  unfold rgV upto
  rw [List.map_map]
  rfl
theorem upto_len (a b : Int) : (upto a b).length = (b - a).toNat := by
  unfold upto
  rw [List.length_map, List.length_range]
def nRg (Q : VK) : Int → Int → Hp → Prop := fun a b H1 => RgOk a b ∧ ∀ q, H1 q = none → Q (.ref q) (upd H1 q (.lst (rgV a b)))
theorem x_lstRg {σ : L2.St} {H : Hp} {Q : VK} {te : L2.St → Hp → (Int → Int → Hp → Prop) → Prop} (q : te σ H (nRg Q)) : tLstRg te σ H Q := q
theorem x_rg1 {σ : L2.St} {H : Hp} {ta : TE} {R : Int → Int → Hp → Prop} (q : ta σ H fun x H1 => ∃ n, x = .int n ∧ R 0 n H1) : tRg1 ta σ H R := q
theorem x_nRg {H : Hp} {Q : VK} {a b : Int} (h : 0 ≤ a ∧ a ≤ 100000 ∧ 0 ≤ b ∧ b ≤ 100000) (k : ∀ p H2, Fr p H → Same H H2 → H2 p = some (.lst ((upto a b).map V.int)) → Q (.ref p) H2) : nRg Q a b H :=
  ⟨RgOk.of_le (by omega) (by omega) (by omega) (by omega), fun p hp => k p _ ⟨hp⟩ (same_new hp) (by rw [upd_same, rgV_ints])⟩
theorem upto_at {a b : Int} {j : Nat} (h : (j : Int) < b - a) : (upto a b)[j]? = some (a + j) := by
  unfold upto
  rw [List.getElem?_map, List.getElem?_range (by omega)]
  rfl

/-! ### lists of lists of ints -/
/-- at a stands a list of lists of ints: L their places and what they hold -/
def LL (H : Hp) (a : Addr) (L : List (Addr × List Int)) : Prop := H a = some (.lst (L.map fun e => V.ref e.1)) ∧ ∀ e ∈ L, H e.1 = some (.lst (e.2.map V.int))
theorem ll_same {H H' : Hp} {a : Addr} {L : List (Addr × List Int)} (e : Same H H') (h : LL H a L) : LL H' a L := ⟨e _ _ h.1, fun p hp => e _ _ (h.2 p hp)⟩
theorem ll_nil {H : Hp} {a : Addr} (h : H a = some (.lst [])) : LL H a [] := ⟨h, fun _ z => absurd z List.not_mem_nil⟩
theorem ll_snoc {H H' : Hp} {a p : Addr} {ns : List Int} {L : List (Addr × List Int)} (h : LL H a L) (h1 : H' a = some (.lst ((L.map fun e => V.ref e.1) ++ [V.ref p]))) (h2 : H' p = some (.lst (ns.map V.int))) (k : ∀ e ∈ L, H' e.1 = H e.1) : LL H' a (L ++ [(p, ns)]) := by
  refine ⟨?_, fun e he => ?_⟩
  · rw [h1, List.map_append]
    rfl
  · rcases List.mem_append.mp he with he | he
    · rw [k e he]
      exact h.2 e he
    · rw [List.mem_singleton.mp he]
      exact h2

/-! ### data -/
def dInts (ns : List Int) : List PyData := ns.map PyData.int
theorem dp_ints {K : PySem.W.Frag} {H : Hp} : ∀ ns : List Int, DpAll K H (ns.map V.int) (dInts ns)
  | [] => .nil
  | n :: r => .cons (.int n) (dp_ints r)
theorem canLay_ints : ∀ ns : List Int, PyData.canLayAll0 (dInts ns) = true
  | [] => by simp [dInts, PyData.canLayAll0]
  | n :: r => by
    have h := canLay_ints r
    unfold dInts at h ⊢
    rw [List.map_cons]
    simp only [PyData.canLayAll0, PyData.canLay0, h, Bool.and_self]
theorem eqv_ints : ∀ ns ms : List Int, PyData.eqvAll (dInts ns) (dInts ms) = decide (ns = ms)
  | [], [] => by simp [dInts, PyData.eqvAll]
  | [], m :: r => by simp [dInts, PyData.eqvAll]
  | n :: r, [] => by simp [dInts, PyData.eqvAll]
  | n :: r, m :: q => by
    have h := eqv_ints r q
    unfold dInts at h ⊢
    rw [List.map_cons, List.map_cons, PyData.eqvAll, h, PyData.eqv]
    by_cases h1 : n = m <;> by_cases h2 : r = q <;> simp [h1, h2]
theorem canLayAll_map {α : Type} {f : α → PyData} : ∀ (xs : List α), (∀ x ∈ xs, (f x).canLay0 = true) → PyData.canLayAll0 (xs.map f) = true
  | [], _ => by simp [PyData.canLayAll0]
  | x :: r, h => by
    have h1 := h x List.mem_cons_self
    have h2 := canLayAll_map r fun y hy => h y (List.mem_cons_of_mem _ hy)
    rw [List.map_cons]
    simp only [PyData.canLayAll0, h1, h2, Bool.and_self]
theorem depthAll_map {α : Type} {f : α → PyData} {n : Nat} : ∀ (xs : List α), (∀ x ∈ xs, (f x).depth ≤ n) → PyData.depthAll (xs.map f) ≤ n
  | [], _ => by simp [PyData.depthAll]
  | x :: r, h => by
    have h1 := h x List.mem_cons_self
    have h2 := depthAll_map r fun y hy => h y (List.mem_cons_of_mem _ hy)
    rw [List.map_cons, PyData.depthAll]
    omega
theorem depth_ints : ∀ ns : List Int, PyData.depthAll (dInts ns) = 0
  | [] => by simp [dInts, PyData.depthAll]
  | n :: r => by
    have h := depth_ints r
    unfold dInts at h ⊢
    rw [List.map_cons, PyData.depthAll, h, PyData.depth]
    rfl
theorem shaped_lints (ns : List Int) : SeqAt.shaped (.list (dInts ns)) = true := by
  unfold SeqAt.shaped
  rw [PyData.canLay0, canLay_ints, PyData.depth, depth_ints]
  rfl
theorem shaped_tints (ns : List Int) : SeqAt.shaped (.tuple (dInts ns)) = true := by
  unfold SeqAt.shaped
  rw [PyData.canLay0, canLay_ints, PyData.depth, depth_ints]
  rfl
theorem eqv_lints (ns ms : List Int) : PyData.eqv (.list (dInts ns)) (.list (dInts ms)) = decide (ns = ms) := by
  rw [PyData.eqv]
  exact eqv_ints ns ms
theorem eqv_tints (ns ms : List Int) : PyData.eqv (.tuple (dInts ns)) (.tuple (dInts ms)) = decide (ns = ms) := by
  rw [PyData.eqv]
  exact eqv_ints ns ms
theorem shaped_of {d : PyData} (h1 : d.canLay0 = true) (h2 : d.depth ≤ 64) : SeqAt.shaped d = true := by
  unfold SeqAt.shaped
  rw [h1, decide_eq_true h2]
  rfl
theorem canLay_lints (ns : List Int) : PyData.canLay0 (.list (dInts ns)) = true := by
  rw [PyData.canLay0, canLay_ints]
theorem depth_lints (ns : List Int) : PyData.depth (.list (dInts ns)) = 1 := by
  rw [PyData.depth, depth_ints]
/-- lists of lists of ints as data -/
def dLists (ps : List (List Int)) : List PyData := ps.map fun p => .list (dInts p)
theorem canLay_lists (ps : List (List Int)) : PyData.canLayAll0 (dLists ps) = true := canLayAll_map ps fun p _ => canLay_lints p
theorem depth_lists (ps : List (List Int)) : PyData.depthAll (dLists ps) ≤ 1 := depthAll_map ps fun p _ => Nat.le_of_eq (depth_lints p)
theorem dp_list {K : PySem.W.Frag} {H : Hp} : ∀ (L : List (Addr × List Int)), (∀ e ∈ L, H e.1 = some (.lst (e.2.map V.int))) → DpAll K H (L.map fun e => V.ref e.1) (dLists (L.map (·.2)))
  | [], _ => .nil
  | e :: r, h => .cons (.lst (sq_of (h e List.mem_cons_self)) (dp_ints _)) (dp_list r fun x hx => h x (List.mem_cons_of_mem _ hx))
theorem dp_LL {K : PySem.W.Frag} {H : Hp} {a : Addr} {L : List (Addr × List Int)} (h : LL H a L) : Dp K H (.ref a) (.list (dLists (L.map (·.2)))) := .lst (sq_of h.1) (dp_list L h.2)
mutual
theorem dp_same {K : PySem.W.Frag} {H H' : Hp} (e : Same H H') : ∀ (d : PyData) (v : V), Dp K H v d → Dp K H' v d
  | .none, _, h => by cases h; exact .non
  | .bool b, _, h => by cases h; exact .bl b
  | .int i, _, h => by cases h; exact .int i
  | .str x, _, h => by cases h; exact .str x
  | .list ds, _, h => by
    cases h with
    | lst hs ha => exact .lst (sq_same hs e) (dpAll_same e ds _ ha)
  | .tuple ds, _, h => by
    cases h with
    | tup hs ha => exact .tup (st_same hs e) (dpAll_same e ds _ ha)
  | .dict _, _, h => by cases h
theorem dpAll_same {K : PySem.W.Frag} {H H' : Hp} (e : Same H H') : ∀ (ds : List PyData) (vs : List V), DpAll K H vs ds → DpAll K H' vs ds
  | [], _, h => by cases h; exact .nil
  | d :: ds, _, h => by
    cases h with
    | cons h1 h2 => exact .cons (dp_same e d _ h1) (dpAll_same e ds _ h2)
end
/-- equal data -/
theorem x_neSame {K : PySem.W.Frag} {H : Hp} {Q : VK} {x y : V} {d : PyData} (h : Dp K H x d) (h' : Dp K H y d) (c : d.canLay0 = true) (n : d.depth ≤ 64) (q : Q (.bl false) H) : rNeD K x y H Q :=
  ⟨d, d, h, h', shaped_of c n, shaped_of c n, by rw [SeqAt.eqv_refl d c]; exact q⟩
theorem x_eqSame {K : PySem.W.Frag} {H : Hp} {Q : VK} {x y : V} {d : PyData} (h : Dp K H x d) (h' : Dp K H y d) (c : d.canLay0 = true) (n : d.depth ≤ 64) (q : Q (.bl true) H) : rEqD K x y H Q :=
  ⟨d, d, h, h', shaped_of c n, shaped_of c n, by rw [SeqAt.eqv_refl d c]; exact q⟩
section
variable {K : PySem.W.Frag} {H : Hp} {Q : VK} {a c : Addr} {ns ms : List Int}
theorem x_neInts (h : SqL K H a (ns.map V.int)) (h' : SqL K H c (ms.map V.int)) (q : Q (.bl (!decide (ns = ms))) H) : rNeD K (.ref a) (.ref c) H Q :=
  ⟨.list (dInts ns), .list (dInts ms), .lst h (dp_ints ns), .lst h' (dp_ints ms), shaped_lints ns, shaped_lints ms, by rw [eqv_lints]; exact q⟩
theorem x_eqInts (h : SqL K H a (ns.map V.int)) (h' : SqL K H c (ms.map V.int)) (q : Q (.bl (decide (ns = ms))) H) : rEqD K (.ref a) (.ref c) H Q :=
  ⟨.list (dInts ns), .list (dInts ms), .lst h (dp_ints ns), .lst h' (dp_ints ms), shaped_lints ns, shaped_lints ms, by rw [eqv_lints]; exact q⟩
theorem x_neTInts (h : SqT K H a (ns.map V.int)) (h' : SqT K H c (ms.map V.int)) (q : Q (.bl (!decide (ns = ms))) H) : rNeD K (.ref a) (.ref c) H Q :=
  ⟨.tuple (dInts ns), .tuple (dInts ms), .tup h (dp_ints ns), .tup h' (dp_ints ms), shaped_tints ns, shaped_tints ms, by rw [eqv_tints]; exact q⟩
theorem x_eqTInts (h : SqT K H a (ns.map V.int)) (h' : SqT K H c (ms.map V.int)) (q : Q (.bl (decide (ns = ms))) H) : rEqD K (.ref a) (.ref c) H Q :=
  ⟨.tuple (dInts ns), .tuple (dInts ms), .tup h (dp_ints ns), .tup h' (dp_ints ms), shaped_tints ns, shaped_tints ms, by rw [eqv_tints]; exact q⟩
end
end Xk
/-! ## slices stored and deleted, properties, own objects -/
namespace Xk
open PySem PySem.Spec PyProof.Rows L2
section
variable {X : Cx} {o : Expr} {lo hi : Option Expr} {to : TE} {tl th : TO} {pos p2 tpos : Pos}
/-- o[lo:hi] = another list -/
def gSubSl (to : TE) (tl th : TO) : TG := fun v σ H R => to σ H fun x H1 => tl σ H1 fun l H2 => th σ H2 fun u H3 => ∃ (a b : Addr) (xs ys : List V) (i j : Int), x = .ref a ∧ v = .ref b ∧ l = some i ∧ u = some j ∧
  H3 a = some (.lst xs) ∧ H3 b = some (.lst ys) ∧ a ≠ b ∧ 0 ≤ i ∧ i ≤ j ∧ j ≤ xs.length ∧ xs.length + ys.length ≤ sizeLine ∧ R σ (upd H3 a (.lst (xs.take i.toNat ++ ys ++ xs.drop j.toNat)))
theorem pg_subSl (ho : PE X o to) (hl : PO X lo tl) (hu : PO X hi th)
    (ha : ∀ v, assign (.Subscript o (.Slice lo hi none p2) pos) X.env v = (do
      let ov ← holding [v] (eval o X.env)
      let iv ← holding [v, ov] (eval (.Slice lo hi none p2) X.env)
      standAt pos
      holding [v, ov, iv] (setItem ov iv v)
      release [iv, v, ov] []) := by intro _; rfl) : PG X (.Subscript o (.Slice lo hi none p2) pos) (gSubSl to tl th) := by
  refine ⟨fun pins s σ H v u Q I r h => ?_⟩
  rw [ha]
  refine wpAny_bind (wpAny_holding (thn (ho.run pins s σ H _ I h) fun ov s1 ⟨x, H1, I1, r1, q1⟩ => ?_))
  refine wpAny_bind (wpAny_holding ?_)
  refine wpAny_Slice (thn (hl.run pins s1 σ H1 _ I1 q1) fun vl s2 ⟨l, H2, I2, pl, q2⟩ => thn (hu.run pins s2 σ H2 _ I2 q2) fun vu s3 ⟨w, H3, I3, pu, q3⟩ => ?_)
  rw [evalPart_none]
  refine wpAny_pure ?_
  have I4 : Inv X pins σ H3 { s3 with heap := s3.heap.push { cls := .type "slice", data := .fields #[vl, vu, .none] } } := I3.kept (t' := s3.toks) fun b ob q => Heap.get?_push_of_some _ q
  obtain ⟨a, b, xs, ys, i, j, rfl, rfl, rfl, rfl, hA, hB, hne, h0, hij, hj, hz, q⟩ := q3
  cases r1
  cases r
  cases pl with
  | int _ ti =>
  cases pu with
  | int _ tj =>
  refine wpAny_bind (wpAny_standAt (wpAny_bind (wpAny_holding ?_)))
  exact set_slice I4 hA hB hne (Heap.IsSliceOf.new ..) ⟨_, rfl⟩ ⟨_, rfl⟩ h0 hij hj hz fun s' I5 => wpAny_release ⟨σ, _, I5, q⟩

theorem sel_take (f : Nat → Bool) (i n : Nat) (h : ∀ k : Nat, f k = (decide ((i : Int) ≤ (k : Int)) && decide ((k : Int) < (n : Int)) && (((k : Int) - (i : Int)) % 1 == 0))) :
    ∀ (xs : List Value) (m : Nat), m + xs.length ≤ n → (xs.zipIdx m).filterMap (fun (x, k) => if f k then none else some x) = xs.take (i - m)
  | [], m, hm => by simp
  | x :: r, m, hm => by
    rw [List.length_cons] at hm
    have ih := sel_take f i n h r (m + 1) (by omega)
    rw [List.zipIdx_cons, List.filterMap_cons]
    have hf : f m = decide (i ≤ m) := by
      rw [h m]
      by_cases h1 : i ≤ m
      · have h2 : (i : Int) ≤ (m : Int) := by omega
        have h3 : (m : Int) < (n : Int) := by omega
        have h4 : ((m : Int) - (i : Int)) % 1 = 0 := by omega
        rw [h4, decide_eq_true h1, decide_eq_true h2, decide_eq_true h3]
        rfl
      · have h2 : ¬ (i : Int) ≤ (m : Int) := by omega
        rw [decide_eq_false h1, decide_eq_false h2]
        rfl
    by_cases h1 : i ≤ m
    · have e : f m = true := by rw [hf, decide_eq_true h1]
      simp only [e, if_true]
      rw [ih, show i - (m + 1) = 0 by omega, show i - m = 0 by omega]
      rfl
    · have e : f m = false := by rw [hf, decide_eq_false h1]
      simp only [e]
      show x :: _ = _
      rw [ih, show i - m = (i - (m + 1)) + 1 by omega]
      rfl
theorem bounds_from {i n : Nat} (hi : i ≤ n) : sliceBounds (some (i : Int)) none none n = ((i : Int), (n : Int), 1) := by
  simp only [sliceBounds, Option.getD_none]
  have h1 : ¬ ((i : Int) < 0) := by omega
  simp only [h1, if_false, show (1 : Int) > 0 by decide, if_true]
  congr 1
  omega
section
variable {prog : Program} {w : World} {A : Around} {E : Value → Shared → Prop} {s : Shared}
open PySem.P PySem.F in
theorem delItem_tail {l sl : Addr} {items : Array Value} {n : Nat} {vl : Value} {i : Nat} {Q : Unit → Shared → Prop}
    (e : s.heap.get? l = some { cls := .type "list", data := .seq items n }) (hs : s.heap.IsSliceOf sl vl .none .none) (pl : IsPart vl (some (i : Int))) (hi : i ≤ items.size) (hsz : items.size ≤ sizeLine)
    (h : ∀ f : Array Value → Array Value, f items = (items.toList.take i).toArray → Q () { s with heap := s.heap.update l (Obj.mapSeq f) }) :
    wpAny (model prog w) A (delItem (.ref l) (.ref sl)) Q E s := by
  have hl : s.heap.IsList l items := PySem.IsL.isList e
  obtain ⟨os, hos, hcs, hds⟩ := id hs
  have hTs : s.TypeIs (.ref sl) "slice" := ⟨os, hos, hcs⟩
  have hstep : ¬ ((rawPart none == rawInt 0) = true) := Bool.false_ne_true
  unfold delItem
  refine wpAny_holding ?_
  refine wpAny_bind (wpAny_sequenceKey hl.typeIs (by decide) ?_)
  refine wpAny_bind (wpAny_callSpecial?_slot (name := Str.ofString "__delitem__") hl.typeIs PySem.F.slot_list_delitem
    (wpAny_call_entry PySem.F.slot_list_delitem hl.typeIs PySem.F.entry_list_delitem ?_ (PySem.F.args_list_delitem_2 _ _)))
  show wpAny _ _ (Builtin.List.listSubscript? (.ref sl) >>= _) _ _ s
  refine wpAny_bind ?_
  unfold Builtin.List.listSubscript?
  refine wpAny_bind (wpAny_specialOf hTs slice_no_index ?_)
  simp only [Option.isNone_none, if_true]
  refine wpAny_pure ?_
  show wpAny _ _ (typeOf (.ref sl) >>= _) _ _ s
  refine wpAny_bind (wpAny_typeOf hTs ?_)
  first
    | rw [if_neg (by decide)]
    | refine PySem.W.KFB.if_not (by decide) ?_
  rw [listSliceParts_eq]
  refine wpAny_bind (wpAny_bind (wpAny_field hos hds (x := .none) rfl (wpAny_bind (wpAny_listPart .none ?_))))
  rw [if_neg hstep]
  refine wpAny_bind (wpAny_field hos hds (x := vl) rfl (wpAny_bind (wpAny_listPart pl ?_)))
  refine wpAny_bind (wpAny_field hos hds (x := .none) rfl (wpAny_bind (wpAny_listPart .none (wpAny_pure ?_))))
  refine wpAny_bind (m := Builtin.List.listItems (.ref l)) ?_
  unfold Builtin.List.listItems
  refine wpAny_bind (wpAny_seqItems e rfl (wpAny_pure ?_))
  refine wpAny_bind (wpAny_of_eq ((sliceIndices_raw (some (i : Int)) none none items.size (by simp)).trans (congrArg (pure : Int × Int × Int → Sem (Int × Int × Int)) (bounds_from hi))) ?_)
  refine wpAny_bind (wpAny_rule ?_)
  show wpAny _ _ (updateSeq l _ >>= _) _ _ s
  have hf := sel_take _ i items.size (fun k => rfl) items.toList 0 (by simp)
  refine wpAny_bind (wpAny_updateSeq (hz := hsz) (_hz' := ?_) e rfl ?_)
  refine wpAny_bind (wpAny_letGo ?_)
  · exact wpAny_pure ⟨.none, rfl, wpAny_pure (h _ (congrArg List.toArray hf))⟩
  · refine Nat.le_trans (Nat.le_of_eq (congrArg Array.size (congrArg List.toArray hf))) ?_
    rw [List.size_toArray, List.length_take, Array.length_toList]
    omega
end
variable {pins : List (Addr × Obj)}
theorem del_tail {s : Shared} {σ : L2.St} {H : Hp} {l sl : Addr} {xs : List V} {i : Nat} {vl : Value} {Q : Unit → Shared → Prop} (I : Inv X pins σ H s) (hH : H l = some (.lst xs))
    (hs : s.heap.IsSliceOf sl vl .none .none) (pl : IsPart vl (some (i : Int))) (hi : i ≤ xs.length) (h : ∀ s', Inv X pins σ (upd H l (.lst (xs.take i))) s' → Q () s') :
    wpAny (model X.prog X.w) X.A (delItem (.ref l) (.ref sl)) Q X.xe s := by
  obtain ⟨z, its, n, r, hl, e⟩ := I.lstM hH
  refine delItem_tail e hs pl (by rw [List.size_toArray]; omega) (by rw [List.size_toArray]; omega) fun f hf => h _ ?_
  refine I.lset (its' := its.take i) (t' := s.toks) hH e ?_ (r.take i) ?_
  · rw [hf]
  · rw [List.length_take]
    omega
/-- del o[i:] -/
def tDelT (to : TE) (tl : TO) : TS := fun D σ H => to σ H fun x H1 => tl σ H1 fun u H2 => ∃ (l : Addr) (xs : List V) (i : Nat), x = .ref l ∧ u = some (i : Int) ∧ H2 l = some (.lst xs) ∧ i ≤ xs.length ∧ D.nx σ (upd H2 l (.lst (xs.take i)))
theorem ps_delT (ho : PE X o to) (hl : PO X lo tl) : PS X (.Delete [.Subscript o (.Slice lo none none p2) tpos] pos) (tDelT to tl) := by
  refine ⟨fun pins s σ H D I h => ?_⟩
  refine wpAny_Delete (wpAny_deleteEach_cons (wpAny_delete_Subscript (thn (ho.run pins s σ H _ I h) fun u s1 ⟨x, H1, I1, rx, q1⟩ => ?_)))
  refine wpAny_Slice (thn (hl.run pins s1 σ H1 _ I1 q1) fun vl s2 ⟨w, H2, I2, pl, q2⟩ => ?_)
  rw [evalPart_none]
  refine wpAny_pure (wpAny_pure ?_)
  have I4 : Inv X pins σ H2 { s2 with heap := s2.heap.push { cls := .type "slice", data := .fields #[vl, .none, .none] } } := I2.kept (t' := s2.toks) fun b ob q => Heap.get?_push_of_some _ q
  obtain ⟨l, xs, i, rfl, rfl, hA, hi, q⟩ := q2
  cases rx
  exact del_tail I4 hA (Heap.IsSliceOf.new ..) pl hi fun s3 I3 => wpAny_deleteEach_nil ⟨σ, _, I3, q⟩
end
section
variable {K : PySem.W.Frag} {σ σ2 : L2.St} {H H1 H2 : Hp} {Q : VK} {ta tv te te1 : TE} {D : Ends} {tz : TS} {g g1 : TG} {t tt1 : TT} {x v : V}
theorem k_pil {X : Cx} {tg l : Expr} {tl : TE} (e : X.K = K) (h : PE X l tl) : PI X tg l (iList K tl) := e ▸ pi_list h
/-- the inner for of a comprehension -/
def RIn (J : It) (g1 : TG) (tt1 : TT) (te : TE) (vs1 : List Nat) (σ2 : L2.St) (Dl : Addr) (N : Hp → Prop) : Hp → Prop := fun H4 => ∃ W1 : Nat → Nat → Hp → Prop, (∃ m, W1 0 m H4) ∧ ∀ j k H, W1 j k H →
  (J.stop j H ∧ N H) ∨ (J.go j H ∧ ∃ Nx1 : Hp → Prop, (∀ H', Nx1 H' → ∃ k', k' < k ∧ W1 (j + 1) k' H') ∧ ∀ x H', J.yld j H x H' → g1 x (wipe σ2 vs1) H' fun σ3 H5 => wipe σ3 vs1 = wipe σ2 vs1 ∧ tt1 σ3 H5 fun b H6 =>
    if b = true then te σ3 H6 fun y H7 => ∃ acc, H7 Dl = some (.lst acc) ∧ acc.length < sizeLine ∧ Nx1 (upd H7 Dl (.lst (acc ++ [y]))) else Nx1 H6)
def rInL (K : PySem.W.Frag) (g1 : TG) (tt1 : TT) (te : TE) (vs1 : List Nat) (σ2 : L2.St) (Dl : Addr) (N : Hp → Prop) : VK := fun x H4 => ∃ a, x = .ref a ∧ (∃ xs, SqL K H4 a xs) ∧ RIn (Itl K a) g1 tt1 te vs1 σ2 Dl N H4
theorem x_infL {a Dl : Addr} {xs : List V} {vs1 : List Nat} {N : Hp → Prop} (Pv : Nat → Hp → Prop) (hx : SqL K H a xs) (p0 : Pv 0 H) (hl : ∀ i H', Pv i H' → SqL K H' a xs)
    (hs : ∀ i x H', xs[i]? = some x → Pv i H' → g1 x (wipe σ2 vs1) H' fun σ3 H5 => wipe σ3 vs1 = wipe σ2 vs1 ∧ tt1 σ3 H5 fun b H6 => if b = true then te σ3 H6 (fun y H7 => ∃ acc, H7 Dl = some (.lst acc) ∧ acc.length < sizeLine ∧ Pv (i + 1) (upd H7 Dl (.lst (acc ++ [y])))) else Pv (i + 1) H6)
    (hd : ∀ H', Pv xs.length H' → N H') : rInL K g1 tt1 te vs1 σ2 Dl N (.ref a) H := by
  refine ⟨a, rfl, ⟨xs, hx⟩, fun i m H => m = xs.length - i ∧ i ≤ xs.length ∧ Pv i H, ⟨xs.length, by simp, Nat.zero_le _, p0⟩, ?_⟩
  rintro i m H' ⟨rfl, hi, p⟩
  have q := hl i H' p
  by_cases hlt : i < xs.length
  · refine .inr ⟨⟨xs, xs[i], q, by simp [hlt]⟩, Pv (i + 1), fun H' p' => ⟨xs.length - (i + 1), by omega, rfl, hlt, p'⟩, fun x H2 y => ?_⟩
    obtain ⟨e, y⟩ := y
    subst e
    exact hs i x _ (y xs q) p
  · have e : i = xs.length := by omega
    subst e
    exact .inl ⟨⟨xs, q, Nat.le_refl _⟩, hd H' p⟩
/-- the outer for -/
def rLc2L (K : PySem.W.Frag) (g : TG) (te1 : TE) (g1 : TG) (tt1 : TT) (te : TE) (vs vs1 : List Nat) (σ : L2.St) (Q : VK) : VK := fun x H1 => ∃ a, x = .ref a ∧ (∃ xs, SqL K H1 a xs) ∧ ∀ D, H1 D = none → ∃ W : Nat → Nat → Hp → Prop, (∃ m, W 0 m (upd H1 D (.lst []))) ∧ ∀ i m H, W i m H →
  ((Itl K a).stop i H ∧ Q (.ref D) H) ∨ ((Itl K a).go i H ∧ ∃ Nx : Hp → Prop, (∀ H', Nx H' → ∃ m', m' < m ∧ W (i + 1) m' H') ∧ ∀ x H', (Itl K a).yld i H x H' → g x (wipe σ vs) H' fun σ2 H2 => wipe σ2 vs = wipe σ vs ∧
    te1 σ2 H2 (rInL K g1 tt1 te vs1 σ2 D Nx))
theorem x_lc2 {tx : TE} {vs vs1 : List Nat} (q : tx σ H (rLc2L K g te1 g1 tt1 te vs vs1 σ Q)) : tLc2 (iList K tx) g tYes (iList K te1) g1 tt1 te vs vs1 σ H Q := q
theorem x_lc2L {a : Addr} {xs : List V} {vs vs1 : List Nat} (Pv : Addr → Nat → Hp → Prop) (hx : SqL K H a xs) (h0 : ∀ Dl, Fr Dl H → Pv Dl 0 (upd H Dl (.lst []))) (hl : ∀ Dl i H', Fr Dl H → Pv Dl i H' → SqL K H' a xs)
    (hs : ∀ Dl, Fr Dl H → ∀ i x H', xs[i]? = some x → Pv Dl i H' → g x (wipe σ vs) H' fun σ2 H2 => wipe σ2 vs = wipe σ vs ∧ te1 σ2 H2 (rInL K g1 tt1 te vs1 σ2 Dl (Pv Dl (i + 1))))
    (hd : ∀ Dl H', Fr Dl H → Pv Dl xs.length H' → Q (.ref Dl) H') : rLc2L K g te1 g1 tt1 te vs vs1 σ Q (.ref a) H := by
  refine ⟨a, rfl, ⟨xs, hx⟩, fun Dl hD => ⟨fun i m H => m = xs.length - i ∧ i ≤ xs.length ∧ Pv Dl i H, ⟨xs.length, by simp, Nat.zero_le _, h0 Dl ⟨hD⟩⟩, ?_⟩⟩
  rintro i m H' ⟨rfl, hi, p⟩
  have q := hl Dl i H' ⟨hD⟩ p
  by_cases hlt : i < xs.length
  · refine .inr ⟨⟨xs, xs[i], q, by simp [hlt]⟩, Pv Dl (i + 1), fun H' p' => ⟨xs.length - (i + 1), by omega, rfl, hlt, p'⟩, fun x H2 y => ?_⟩
    obtain ⟨e, y⟩ := y
    subst e
    exact hs Dl ⟨hD⟩ i x _ (y xs q) p
  · have e : i = xs.length := by omega
    subst e
    exact .inl ⟨⟨xs, q, Nat.le_refl _⟩, hd Dl H' ⟨hD⟩ p⟩
/-- attributes -/
theorem x_fld {a C dx : Addr} {fs : List (Str × V)} {f : Str} (h : H a = some (.ins C dx fs)) (c : Cls K C) (n : NoAttr K C f) (l : fs.lookup f = some v) (q : Q v H) : (∃ a' C dx fs v, V.ref a = .ref a' ∧ H a' = some (.ins C dx fs) ∧ Cls K C ∧ NoAttr K C f ∧ fs.lookup f = some v ∧ Q v H) :=
  ⟨a, C, dx, fs, v, rfl, h, c, n, l, q⟩
/-- what is read from an instance -/
def rFld (K : PySem.W.Frag) (f : Str) (Q : VK) : VK := fun x H1 => ∃ a C dx fs v, x = .ref a ∧ H1 a = some (.ins C dx fs) ∧ Cls K C ∧ NoAttr K C f ∧ fs.lookup f = some v ∧ Q v H1
theorem x_fld1 {f : Str} (q : ta σ H (rFld K f Q)) : tFld K ta f σ H Q := q
theorem x_rFld {a C dx : Addr} {fs : List (Str × V)} {f : Str} (h : H a = some (.ins C dx fs)) (c : Cls K C) (n : NoAttr K C f) (l : fs.lookup f = some v) (q : Q v H) : rFld K f Q (.ref a) H := ⟨a, C, dx, fs, v, rfl, h, c, n, l, q⟩
def rSetF (K : PySem.W.Frag) (f : Str) (y : V) (R : Hp → Prop) : VK := fun x H2 => ∃ a C dx fs, x = .ref a ∧ H2 a = some (.ins C dx fs) ∧ Cls K C ∧ NoAttr K C f ∧ fs.length < 1000 ∧ R (upd H2 a (.ins C dx (putF f y fs)))
theorem x_sfld {f : Str} (q : tv σ H fun y H1 => ta σ H1 (rSetF K f y (D.nx σ))) : sFld K ta tv f D σ H := q
theorem x_ssfld {f : Str} (q : tv σ H fun y H1 => ta σ H1 (rSetF K f y fun H2 => tz D σ H2)) : tSeq (sFld K ta tv f) tz D σ H := q
theorem x_rSetF {a C dx : Addr} {fs : List (Str × V)} {f : Str} {R : Hp → Prop} (h : H a = some (.ins C dx fs)) (c : Cls K C) (n : NoAttr K C f) (l : fs.length < 1000) (q : R (upd H a (.ins C dx (putF f x fs)))) : rSetF K f x R (.ref a) H := ⟨a, C, dx, fs, rfl, h, c, n, l, q⟩
def rProp (C : Addr) (sp : Sp) (dvs : List V) (E : XK) (Q : VK) : VK := fun x H1 => ∃ a dx fs, x = .ref a ∧ H1 a = some (.ins C dx fs) ∧ sp (.ref a :: dvs) H1 Q E
theorem x_prop {C : Addr} {sp : Sp} {dvs : List V} {E : XK} (q : ta σ H (rProp C sp dvs E Q)) : tProp C sp dvs E ta σ H Q := q
theorem x_rProp {a C dx : Addr} {fs : List (Str × V)} {sp : Sp} {dvs : List V} {E : XK} (h : H a = some (.ins C dx fs)) (q : sp (.ref a :: dvs) H Q E) : rProp C sp dvs E Q (.ref a) H := ⟨a, dx, fs, rfl, h, q⟩
def rMeth (C : Addr) (m : Str) (tr : TA) (sp : Sp) (dvs : List V) (E : XK) (σ : L2.St) (Q : VK) : VK := fun x H1 => ∃ a dx fs, x = .ref a ∧ H1 a = some (.ins C dx fs) ∧ fs.lookup m = none ∧ tr σ H1 fun vs H2 => sp (x :: (vs ++ dvs)) H2 Q E
theorem x_meth {C : Addr} {m : Str} {tr : TA} {sp : Sp} {dvs : List V} {E : XK} (q : ta σ H (rMeth C m tr sp dvs E σ Q)) : tMeth C m sp dvs E ta tr σ H Q := q
theorem x_rMeth {a C dx : Addr} {fs : List (Str × V)} {m : Str} {tr : TA} {sp : Sp} {dvs : List V} {E : XK} (h : H a = some (.ins C dx fs)) (l : fs.lookup m = none) (q : tr σ H fun vs H2 => sp (.ref a :: (vs ++ dvs)) H2 Q E) : rMeth C m tr sp dvs E σ Q (.ref a) H := ⟨a, dx, fs, rfl, h, l, q⟩
def rMake (C : Addr) (sp : Sp) (dvs : List V) (E : XK) (Q : VK) : List V → Hp → Prop := fun vs H1 => ∀ x dx, H1 x = none → H1 dx = none → dx ≠ x → sp (.ref x :: (vs ++ dvs)) (upd (upd H1 dx (.own x)) x (.ins C dx [])) (fun v H2 => v = .non ∧ Q (.ref x) H2) E
theorem x_make {C : Addr} {tr : TA} {sp : Sp} {dvs : List V} {E : XK} (q : tr σ H (rMake C sp dvs E Q)) : tMake C sp dvs E tr σ H Q := q
theorem x_rMake {C : Addr} {sp : Sp} {dvs vs : List V} {E : XK} (k : ∀ x dx H2, Fr x H → Fr dx H → dx ≠ x → Same H H2 → H2 dx = some (.own x) → H2 x = some (.ins C dx []) → sp (.ref x :: (vs ++ dvs)) H2 (fun v H3 => v = .non ∧ Q (.ref x) H3) E) : rMake C sp dvs E Q vs H :=
  fun x dx hx hd hn => k x dx _ ⟨hx⟩ ⟨hd⟩ hn (same_mut (same_fr ⟨hd⟩) ⟨hx⟩) ((upd_ne hn).trans upd_same) upd_same
/-- slices stored and deleted -/
def rDelT (R : Hp → Prop) (l : Addr) (xs : List V) (i : Nat) (u : Option Int) (H2 : Hp) : Prop := u = some (i : Int) ∧ H2 l = some (.lst xs) ∧ i ≤ xs.length ∧ R (upd H2 l (.lst (xs.take i)))
theorem x_delT {to : TE} {tl : TO} (q : to σ H fun x H1 => tl σ H1 fun u H2 => ∃ l xs i, x = .ref l ∧ rDelT (D.nx σ) l xs i u H2) : tDelT to tl D σ H := q
theorem x_sdelT {to : TE} {tl : TO} (q : to σ H fun x H1 => tl σ H1 fun u H2 => ∃ l xs i, x = .ref l ∧ rDelT (fun H3 => tz D σ H3) l xs i u H2) : tSeq (tDelT to tl) tz D σ H := q
theorem x_rDelT {l : Addr} {xs : List V} {i : Nat} {k : Int} {R : Hp → Prop} (e : k = (i : Int)) (h : H l = some (.lst xs)) (hi : i ≤ xs.length) (q : R (upd H l (.lst (xs.take i)))) : ∃ l' xs i', V.ref l = .ref l' ∧ rDelT R l' xs i' (some k) H := ⟨l, xs, i, rfl, by rw [e], h, hi, q⟩
end
end Xk
/-! ## pairs in order, defs with defaults -/
namespace Xk
open PySem PySem.Spec PyProof.Rows L2
/-- the pair (p, q) stands below (r, s) -/
def Bf (p q r s : Int) : Prop := p < r ∨ (p = r ∧ q < s)
instance {p q r s : Int} : Decidable (Bf p q r s) := by unfold Bf; infer_instance
section
variable {X : Cx} {K : PySem.W.Frag} {H : Hp} {Q : VK} {a b : Addr} {p q r s : Int}
theorem pair_in {pins : List (Addr × Obj)} {σ : L2.St} {z : Shared} (I : Inv X pins σ H z) (h : SqT X.K H a [.int p, .int q]) : ∃ t u, z.heap.IsTuple a #[.int p t, .int q u] := by
  obtain ⟨vs, rv, it, _⟩ := I.tuple h
  cases rv with
  | cons x y =>
    cases y with
    | cons y w =>
      cases w
      obtain ⟨t, rfl⟩ := x
      obtain ⟨u, rfl⟩ := y
      exact ⟨t, u, it⟩
theorem eq_ints {A : Around} {z : Shared} (i j : Int) (t u : Tok) : SeqAt.EqAt A z (.int i t) (.int j u) (decide (i = j)) := by
  have h : (i == j) = decide (i = j) := by
    by_cases e : i = j
    · subst e
      simp
    · simp [e]
  rw [← h]
  exact SeqAt.EqAt.int_int _ _ _ _
def rGeP (K : PySem.W.Frag) : R2 := fun x y H Q => ∃ a b p q r s, x = .ref a ∧ y = .ref b ∧ SqT K H a [.int p, .int q] ∧ SqT K H b [.int r, .int s] ∧ Q (.bl (!decide (Bf p q r s))) H
def rLtP (K : PySem.W.Frag) : R2 := fun x y H Q => ∃ a b p q r s, x = .ref a ∧ y = .ref b ∧ SqT K H a [.int p, .int q] ∧ SqT K H b [.int r, .int s] ∧ Q (.bl (decide (Bf p q r s))) H
theorem op_geP (hu : X.A.units < cLine) : OpR X (compareOp .GtE) (rGeP X.K) := by
  intro pins σ0 σ H x y v u Q I rx ry h
  obtain ⟨a, b, p, q, r, s, rfl, rfl, ha, hb, k⟩ := h
  cases rx
  cases ry
  obtain ⟨t1, t2, ia⟩ := pair_in I ha
  obtain ⟨t3, t4, ib⟩ := pair_in I hb
  have R := Ob.RcOp.tuples_ge (e := fun j => if j = 0 then decide (p = r) else decide (q = s)) (r := fun j => if j = 0 then decide (r ≤ p) else decide (s ≤ q)) ia ib hu
    (fun j h1 h2 => match j, h1, h2 with | 0, _, _ => eq_ints _ _ _ _ | 1, _, _ => eq_ints _ _ _ _ | j + 2, z, _ => absurd (show j + 2 < 2 from z) (by omega))
    (fun j h1 h2 _ => match j, h1, h2 with | 0, _, _ => Ob.RcOp.ge_int _ _ _ _ | 1, _, _ => Ob.RcOp.ge_int _ _ _ _ | j + 2, z, _ => absurd (show j + 2 < 2 from z) (by omega))
  refine R X.prog X.w X.xe _ ?_
  have e : Ob.lexAt (fun j => if j = 0 then decide (p = r) else decide (q = s)) (fun j => if j = 0 then decide (r ≤ p) else decide (s ≤ q)) (decide (2 ≥ 2)) 0 2 = !decide (Bf p q r s) := by
    simp only [Ob.lexAt_succ, Ob.lexAt_zero, Bf]
    by_cases h1 : p = r
    · by_cases h2 : q = s
      · simp [h1, h2]
      · by_cases h3 : s ≤ q
        · have h4 : ¬ q < s := by omega
          simp [h1, h2, h3, h4]
        · have h4 : q < s := by omega
          simp [h1, h2, h3, h4]
    · by_cases h3 : r ≤ p
      · have h4 : ¬ p < r := by omega
        simp [h1, h3, h4]
      · have h4 : p < r := by omega
        simp [h1, h3, h4]
  exact ⟨.bl _, H, I, rfl, (congrArg (fun z => Q (.bl z) H) e).mpr k⟩
theorem op_ltP (hu : X.A.units < cLine) : OpR X (compareOp .Lt) (rLtP X.K) := by
  intro pins σ0 σ H x y v u Q I rx ry h
  obtain ⟨a, b, p, q, r, s, rfl, rfl, ha, hb, k⟩ := h
  cases rx
  cases ry
  obtain ⟨t1, t2, ia⟩ := pair_in I ha
  obtain ⟨t3, t4, ib⟩ := pair_in I hb
  have R := Ob.RcOp.tuples_lt (e := fun j => if j = 0 then decide (p = r) else decide (q = s)) (r := fun j => if j = 0 then decide (p < r) else decide (q < s)) ia ib hu
    (fun j h1 h2 => match j, h1, h2 with | 0, _, _ => eq_ints _ _ _ _ | 1, _, _ => eq_ints _ _ _ _ | j + 2, z, _ => absurd (show j + 2 < 2 from z) (by omega))
    (fun j h1 h2 _ => match j, h1, h2 with | 0, _, _ => Ob.RcOp.lt_int _ _ _ _ | 1, _, _ => Ob.RcOp.lt_int _ _ _ _ | j + 2, z, _ => absurd (show j + 2 < 2 from z) (by omega))
  refine R X.prog X.w X.xe _ ?_
  have e : Ob.lexAt (fun j => if j = 0 then decide (p = r) else decide (q = s)) (fun j => if j = 0 then decide (p < r) else decide (q < s)) (decide (2 < 2)) 0 2 = decide (Bf p q r s) := by
    simp only [Ob.lexAt_succ, Ob.lexAt_zero, Bf]
    by_cases h1 : p = r
    · by_cases h2 : q = s
      · simp [h1, h2]
      · by_cases h3 : q < s
        · simp [h1, h2, h3]
        · simp [h1, h2, h3]
    · by_cases h3 : p < r
      · simp [h1, h3]
      · simp [h1, h3]
  exact ⟨.bl _, H, I, rfl, (congrArg (fun z => Q (.bl z) H) e).mpr k⟩
theorem k_geP (hu : X.A.units + 64 < cLine) (e : X.K = K) : OpR X (compareOp .GtE) (rGeP K) := e ▸ op_geP (by omega)
theorem k_ltP (hu : X.A.units + 64 < cLine) (e : X.K = K) : OpR X (compareOp .Lt) (rLtP K) := e ▸ op_ltP (by omega)
theorem x_geP (h : SqT K H a [.int p, .int q]) (h' : SqT K H b [.int r, .int s]) (k : Q (.bl (!decide (Bf p q r s))) H) : rGeP K (.ref a) (.ref b) H Q := ⟨a, b, p, q, r, s, rfl, rfl, h, h', k⟩
theorem x_ltP (h : SqT K H a [.int p, .int q]) (h' : SqT K H b [.int r, .int s]) (k : Q (.bl (decide (Bf p q r s))) H) : rLtP K (.ref a) (.ref b) H Q := ⟨a, b, p, q, r, s, rfl, rfl, h, h', k⟩
def nMax2 : List V → Hp → VK → Prop := fun xs H Q => ∃ i j : Int, xs = [.int i, .int j] ∧ Q (.int (max i j)) H
def nMin2 : List V → Hp → VK → Prop := fun xs H Q => ∃ i j : Int, xs = [.int i, .int j] ∧ Q (.int (min i j)) H
theorem call_nMax2 (hc : X.calm = true) : CallR X (.builtin "max") nMax2 := by
  intro pins s σ H xs us Q I r h
  obtain ⟨i, j, e, q⟩ := h
  refine call_max2 hc pins s σ H xs us Q I r ⟨i, j, e, ?_⟩
  have z : (if j > i then j else i) = max i j := by
    by_cases h : i < j
    · rw [if_pos h]
      omega
    · rw [if_neg h]
      omega
  rw [z]
  exact q
theorem call_nMin2 (hc : X.calm = true) : CallR X (.builtin "min") nMin2 := by
  intro pins s σ H xs us Q I r h
  obtain ⟨i, j, e, q⟩ := h
  refine call_min2 hc pins s σ H xs us Q I r ⟨i, j, e, ?_⟩
  have z : (if j < i then j else i) = min i j := by
    by_cases h : j < i
    · rw [if_pos h]
      omega
    · rw [if_neg h]
      omega
  rw [z]
  exact q
theorem x_nMax2 {i j : Int} (k : Q (.int (max i j)) H) : nMax2 [.int i, .int j] H Q := ⟨i, j, rfl, k⟩
theorem x_nMin2 {i j : Int} (k : Q (.int (min i j)) H) : nMin2 [.int i, .int j] H Q := ⟨i, j, rfl, k⟩
/-- lists and tuples stay, though an own object changes -/
structure Sk (K : PySem.W.Frag) (H H' : Hp) : Prop where
  l : ∀ a xs, SqL K H a xs → SqL K H' a xs
  t : ∀ a xs, SqT K H a xs → SqT K H' a xs
theorem sk_same {H' : Hp} (e : Same H H') : Sk K H H' := ⟨fun _ _ h => sq_same h e, fun _ _ h => st_same h e⟩
theorem Sk.refl (H : Hp) : Sk K H H := ⟨fun _ _ h => h, fun _ _ h => h⟩
theorem Sk.trans {H' H'' : Hp} (e : Sk K H H') (e' : Sk K H' H'') : Sk K H H'' := ⟨fun a xs h => e'.l a xs (e.l a xs h), fun a xs h => e'.t a xs (e.t a xs h)⟩
theorem sk_but {H' : Hp} {C dx : Addr} {fs : List (Str × V)} (hi : H a = some (.ins C dx fs)) (e : But a H H') : Sk K H H' := by
  have key : ∀ b o, H b = some o → (∀ C dx fs, o ≠ .ins C dx fs) → H' b = some o := fun b o hb hn => e b o (fun z => by
    subst z
    exact hn _ _ _ (Option.some.inj (hb.symm.trans hi))) hb
  constructor
  · intro b xs h
    rcases h with (h | ⟨o, h⟩) | h
    · exact .inl (.inl (key _ _ h fun _ _ _ z => by cases z))
    · exact .inl (.inr ⟨o, key _ _ h fun _ _ _ z => by cases z⟩)
    · exact .inr h
  · intro b xs h
    rcases h with (h | ⟨o, h⟩) | h
    · exact .inl (.inl (key _ _ h fun _ _ _ z => by cases z))
    · exact .inl (.inr ⟨o, key _ _ h fun _ _ _ z => by cases z⟩)
    · exact .inr h
mutual
theorem dp_sk {H' : Hp} (e : Sk K H H') : ∀ (d : PyData) (v : V), Dp K H v d → Dp K H' v d
  | .none, _, h => by cases h; exact .non
  | .bool b, _, h => by cases h; exact .bl b
  | .int i, _, h => by cases h; exact .int i
  | .str x, _, h => by cases h; exact .str x
  | .list ds, _, h => by
    cases h with
    | lst hs ha => exact .lst (e.l _ _ hs) (dps_sk e ds _ ha)
  | .tuple ds, _, h => by
    cases h with
    | tup hs ha => exact .tup (e.t _ _ hs) (dps_sk e ds _ ha)
  | .dict _, _, h => by cases h
theorem dps_sk {H' : Hp} (e : Sk K H H') : ∀ (ds : List PyData) (vs : List V), DpAll K H vs ds → DpAll K H' vs ds
  | [], _, h => by cases h; exact .nil
  | d :: ds, _, h => by
    cases h with
    | cons h1 h2 => exact .cons (dp_sk e d _ h1) (dps_sk e ds _ h2)
end
/-- tuples stay -/
structure St (K : PySem.W.Frag) (H H' : Hp) : Prop where
  t : ∀ a xs, SqT K H a xs → SqT K H' a xs
theorem Sk.st {H' : Hp} (e : Sk K H H') : St K H H' := ⟨e.t⟩
theorem St.refl (H : Hp) : St K H H := ⟨fun _ _ h => h⟩
theorem St.trans {H' H'' : Hp} (e : St K H H') (e' : St K H' H'') : St K H H'' := ⟨fun a xs h => e'.t a xs (e.t a xs h)⟩
theorem tt_same {H' : Hp} (e : Same H H') : St K H H' := ⟨fun _ _ h => st_same h e⟩
theorem tt_but {H' : Hp} {o : HO} (hi : H a = some o) (h1 : ∀ xs, o ≠ .tup xs) (h2 : ∀ u xs, o ≠ .frz u (.tup xs)) (e : But a H H') : St K H H' := by
  refine ⟨fun b xs h => ?_⟩
  rcases h with (h | ⟨u, h⟩) | h
  · exact .inl (.inl (e b _ (fun z => by subst z; exact h1 xs (Option.some.inj (hi.symm.trans h))) h))
  · exact .inl (.inr ⟨u, e b _ (fun z => by subst z; exact h2 u xs (Option.some.inj (hi.symm.trans h))) h⟩)
  · exact .inr h
theorem tt_butL {H' : Hp} {ys : List V} (hi : H a = some (.lst ys)) (e : But a H H') : St K H H' := tt_but hi (fun _ z => by cases z) (fun _ _ z => by cases z) e
theorem tt_butO {H' : Hp} {C dx : Addr} {fs : List (Str × V)} (hi : H a = some (.ins C dx fs)) (e : But a H H') : St K H H' := tt_but hi (fun _ z => by cases z) (fun _ _ z => by cases z) e
theorem tt_mutL {o : HO} {ys : List V} (hi : H a = some (.lst ys)) : St K H (upd H a o) := tt_butL hi (but_mut (But.refl _ _))
mutual
/-- none, ints, truth values, texts, and tuples of such -/
def tupD : PyData → Bool
  | .none | .bool _ | .int _ => true
  | .str x => PyData.canLay0 (.str x)
  | .tuple xs => tupDs xs
  | .list _ | .dict _ => false
def tupDs : List PyData → Bool
  | [] => true
  | x :: xs => tupD x && tupDs xs
end
mutual
theorem tupD_lay : ∀ (d : PyData), tupD d = true → d.canLay0 = true
  | .none, _ => rfl
  | .bool _, _ => rfl
  | .int _, _ => rfl
  | .str x, h => h
  | .tuple xs, h => tupDs_lay xs h
  | .list _, h => by cases h
  | .dict _, h => by cases h
theorem tupDs_lay : ∀ (ds : List PyData), tupDs ds = true → PyData.canLayAll0 ds = true
  | [], _ => rfl
  | x :: xs, h => by
    have h2 : (tupD x && tupDs xs) = true := h
    rw [Bool.and_eq_true] at h2
    show (x.canLay0 && PyData.canLayAll0 xs) = true
    rw [tupD_lay x h2.1, tupDs_lay xs h2.2]
    rfl
end
mutual
theorem dp_st {H' : Hp} (e : St K H H') : ∀ (d : PyData) (v : V), tupD d = true → Dp K H v d → Dp K H' v d
  | .none, _, _, h => by cases h; exact .non
  | .bool b, _, _, h => by cases h; exact .bl b
  | .int i, _, _, h => by cases h; exact .int i
  | .str x, _, _, h => by cases h; exact .str x
  | .list ds, _, c, _ => by cases c
  | .tuple ds, _, c, h => by
    cases h with
    | tup hs ha => exact .tup (e.t _ _ hs) (dps_st e ds _ c ha)
  | .dict _, _, _, h => by cases h
theorem dps_st {H' : Hp} (e : St K H H') : ∀ (ds : List PyData) (vs : List V), tupDs ds = true → DpAll K H vs ds → DpAll K H' vs ds
  | [], _, _, h => by cases h; exact .nil
  | d :: ds, _, c, h => by
    have h2 : (tupD d && tupDs ds) = true := c
    rw [Bool.and_eq_true] at h2
    cases h with
    | cons h3 h4 => exact .cons (dp_st e d _ h2.1 h3) (dps_st e ds _ h2.2 h4)
end
/-- packable data at v, not deep -/
def Pk (K : PySem.W.Frag) (H : Hp) (n : Nat) (v : V) (d : PyData) : Prop := Dp K H v d ∧ tupD d = true ∧ d.depth ≤ n
theorem Pk.st {H' : Hp} {n : Nat} {v : V} {d : PyData} (h : Pk K H n v d) (e : St K H H') : Pk K H' n v d := ⟨dp_st e d v h.2.1 h.1, h.2⟩
theorem Pk.sk {H' : Hp} {n : Nat} {v : V} {d : PyData} (h : Pk K H n v d) (e : Sk K H H') : Pk K H' n v d := h.st e.st
theorem Pk.same {H' : Hp} {n : Nat} {v : V} {d : PyData} (h : Pk K H n v d) (e : Same H H') : Pk K H' n v d := h.st (tt_same e)
theorem Pk.mono {n m : Nat} {v : V} {d : PyData} (h : Pk K H n v d) (l : n ≤ m) : Pk K H m v d := ⟨h.1, h.2.1, Nat.le_trans h.2.2 l⟩
theorem Pk.lay {n : Nat} {v : V} {d : PyData} (h : Pk K H n v d) : d.canLay0 = true := tupD_lay d h.2.1
theorem pk_non {n : Nat} : Pk K H n .non .none := ⟨.non, rfl, Nat.zero_le _⟩
theorem pk_int {n : Nat} {i : Int} : Pk K H n (.int i) (.int i) := ⟨.int i, rfl, Nat.zero_le _⟩
theorem pk_str {n : Nat} {x : Str} (h : PyData.canLay0 (.str x) = true := by decide +kernel) : Pk K H n (.str x) (.str x) := ⟨.str x, h, Nat.zero_le _⟩
/-- packable data, one behind another -/
def PkAll (K : PySem.W.Frag) (H : Hp) (n : Nat) (vs : List V) (ds : List PyData) : Prop := DpAll K H vs ds ∧ tupDs ds = true ∧ PyData.depthAll ds ≤ n
theorem PkAll.st {H' : Hp} {n : Nat} {vs : List V} {ds : List PyData} (h : PkAll K H n vs ds) (e : St K H H') : PkAll K H' n vs ds := ⟨dps_st e ds vs h.2.1 h.1, h.2⟩
theorem PkAll.same {H' : Hp} {n : Nat} {vs : List V} {ds : List PyData} (h : PkAll K H n vs ds) (e : Same H H') : PkAll K H' n vs ds := h.st (tt_same e)
theorem PkAll.mono {n m : Nat} {vs : List V} {ds : List PyData} (h : PkAll K H n vs ds) (l : n ≤ m) : PkAll K H m vs ds := ⟨h.1, h.2.1, Nat.le_trans h.2.2 l⟩
theorem PkAll.lay {n : Nat} {vs : List V} {ds : List PyData} (h : PkAll K H n vs ds) : PyData.canLayAll0 ds = true := tupDs_lay ds h.2.1
theorem pk_nil {n : Nat} : PkAll K H n [] [] := ⟨.nil, rfl, Nat.zero_le _⟩
theorem pk_cons {n : Nat} {v : V} {vs : List V} {d : PyData} {ds : List PyData} (h : Pk K H n v d) (h' : PkAll K H n vs ds) : PkAll K H n (v :: vs) (d :: ds) :=
  ⟨.cons h.1 h'.1, by show (tupD d && tupDs ds) = true; rw [h.2.1, h'.2.1]; rfl, by show max _ _ ≤ n; have := h.2.2; have := h'.2.2; omega⟩
theorem PkAll.uncons {n : Nat} {v : V} {vs : List V} {ds : List PyData} (h : PkAll K H n (v :: vs) ds) : ∃ d es, ds = d :: es ∧ Pk K H n v d ∧ PkAll K H n vs es := by
  obtain ⟨h1, h2, h3⟩ := h
  cases h1 with
  | cons a b =>
    rename_i d es
    have h4 : (tupD d && tupDs es) = true := h2
    rw [Bool.and_eq_true] at h4
    have h5 : max d.depth (PyData.depthAll es) ≤ n := h3
    exact ⟨d, es, rfl, ⟨a, h4.1, by omega⟩, ⟨b, h4.2, by omega⟩⟩
theorem pk_snoc {n : Nat} : ∀ {vs : List V} {ds : List PyData} {v : V} {d : PyData}, PkAll K H n vs ds → Pk K H n v d → PkAll K H n (vs ++ [v]) (ds ++ [d])
  | [], ds, v, d, h, h' => by
    obtain ⟨h1, _, _⟩ := h
    cases h1
    exact pk_cons h' pk_nil
  | w :: vs, ds, v, d, h, h' => by
    obtain ⟨e, es, rfl, h1, h2⟩ := h.uncons
    exact pk_cons h1 (pk_snoc h2 h')
theorem PkAll.len {n : Nat} : ∀ {vs : List V} {ds : List PyData}, PkAll K H n vs ds → vs.length = ds.length
  | [], ds, h => by
    obtain ⟨h1, _, _⟩ := h
    cases h1
    rfl
  | w :: vs, ds, h => by
    obtain ⟨e, es, rfl, h1, h2⟩ := h.uncons
    show vs.length + 1 = es.length + 1
    rw [h2.len]
theorem PkAll.take {n : Nat} : ∀ {vs : List V} {ds : List PyData} (k : Nat), PkAll K H n vs ds → PkAll K H n (vs.take k) (ds.take k)
  | vs, ds, 0, h => pk_nil
  | [], ds, k + 1, h => by
    obtain ⟨h1, _, _⟩ := h
    cases h1
    exact pk_nil
  | w :: vs, ds, k + 1, h => by
    obtain ⟨e, es, rfl, h1, h2⟩ := h.uncons
    exact pk_cons h1 (h2.take k)
theorem PkAll.at {n : Nat} : ∀ {vs : List V} {ds : List PyData} {i : Nat} {v : V}, PkAll K H n vs ds → vs[i]? = some v → ∃ d, ds[i]? = some d ∧ Pk K H n v d
  | [], ds, i, v, h, e => by simp at e
  | w :: vs, ds, 0, v, h, e => by
    obtain ⟨d, es, rfl, h1, h2⟩ := h.uncons
    cases (show w = v from Option.some.inj e)
    exact ⟨d, rfl, h1⟩
  | w :: vs, ds, i + 1, v, h, e => by
    obtain ⟨d, es, rfl, h1, h2⟩ := h.uncons
    exact h2.at e
theorem pk_tup {n : Nat} {a : Addr} {vs : List V} {ds : List PyData} (h : SqT K H a vs) (h1 : PkAll K H n vs ds) : Pk K H (n + 1) (.ref a) (.tuple ds) :=
  ⟨.tup h h1.1, h1.2.1, Nat.add_le_add_right h1.2.2 1⟩
theorem pk_tup1 {n : Nat} {a : Addr} {v : V} {d : PyData} (h : SqT K H a [v]) (h1 : Pk K H n v d) : Pk K H (n + 1) (.ref a) (.tuple [d]) := pk_tup h (pk_cons h1 pk_nil)
theorem pk_tup2 {n : Nat} {a : Addr} {v w : V} {d e : PyData} (h : SqT K H a [v, w]) (h1 : Pk K H n v d) (h2 : Pk K H n w e) : Pk K H (n + 1) (.ref a) (.tuple [d, e]) := pk_tup h (pk_cons h1 (pk_cons h2 pk_nil))
theorem pk_tup3 {n : Nat} {a : Addr} {u v w : V} {c d e : PyData} (h : SqT K H a [u, v, w]) (h0 : Pk K H n u c) (h1 : Pk K H n v d) (h2 : Pk K H n w e) : Pk K H (n + 1) (.ref a) (.tuple [c, d, e]) := pk_tup h (pk_cons h0 (pk_cons h1 (pk_cons h2 pk_nil)))
/-- equal data, one way or the other -/
theorem x_nePk {n m : Nat} {x y : V} {d : PyData} (h : Pk K H n x d) (h' : Pk K H m y d) (q : Q (.bl false) H) (l : n ≤ 64 := by decide) : rNeD K x y H Q := x_neSame h.1 h'.1 h.lay (Nat.le_trans h.2.2 l) q
theorem x_eqPk {n m : Nat} {x y : V} {d : PyData} (h : Pk K H n x d) (h' : Pk K H m y d) (q : Q (.bl true) H) (l : n ≤ 64 := by decide) : rEqD K x y H Q := x_eqSame h.1 h'.1 h.lay (Nat.le_trans h.2.2 l) q
theorem lay_list {ds : List PyData} (h : PyData.canLayAll0 ds = true) : PyData.canLay0 (.list ds) = true := h
theorem x_nePkL {n m : Nat} {p q' : Addr} {xs ys : List V} {ds : List PyData} (hp : SqL K H p xs) (hq : SqL K H q' ys) (h : PkAll K H n xs ds) (h' : PkAll K H m ys ds) (q : Q (.bl false) H) (l : n ≤ 63 := by decide) : rNeD K (.ref p) (.ref q') H Q :=
  x_neSame (.lst hp h.1) (.lst hq h'.1) (lay_list h.lay) (Nat.add_le_add_right (Nat.le_trans h.2.2 l) 1) q
theorem x_eqPkL {n m : Nat} {p q' : Addr} {xs ys : List V} {ds : List PyData} (hp : SqL K H p xs) (hq : SqL K H q' ys) (h : PkAll K H n xs ds) (h' : PkAll K H m ys ds) (q : Q (.bl true) H) (l : n ≤ 63 := by decide) : rEqD K (.ref p) (.ref q') H Q :=
  x_eqSame (.lst hp h.1) (.lst hq h'.1) (lay_list h.lay) (Nat.add_le_add_right (Nat.le_trans h.2.2 l) 1) q
theorem u65 {k : Nat} {A : Around} (r : Room k A) : A.units + 65 < cLine := by
  have := r.un
  omega
theorem k_inD (hu : X.A.units + 65 < cLine) (e : X.K = K) : OpR X (compareOp .In) (rInD K) := e ▸ op_inD hu
theorem k_ninD (hu : X.A.units + 65 < cLine) (e : X.K = K) : OpR X (compareOp .NotIn) (rNotInD K) := e ▸ op_notInD hu
/-- whether d is among ds -/
def inD (d : PyData) (ds : List PyData) : Bool := ds.any fun z => PyData.eqv z d
theorem x_inPk {n m : Nat} {x : V} {d : PyData} {xs : List V} {ds : List PyData} (h : Pk K H n x d) (hp : SqL K H a xs) (h' : PkAll K H m xs ds) (k : Q (.bl (inD d ds)) H) (l : n ≤ 64 := by decide) (l' : m ≤ 63 := by decide) : rInD K x (.ref a) H Q :=
  ⟨d, ds, h.1, .lst hp h'.1, shaped_of h.lay (Nat.le_trans h.2.2 l), shaped_of (lay_list h'.lay) (Nat.add_le_add_right (Nat.le_trans h'.2.2 l') 1), k⟩
theorem x_ninPk {n m : Nat} {x : V} {d : PyData} {xs : List V} {ds : List PyData} (h : Pk K H n x d) (hp : SqL K H a xs) (h' : PkAll K H m xs ds) (k : Q (.bl (!inD d ds)) H) (l : n ≤ 64 := by decide) (l' : m ≤ 63 := by decide) : rNotInD K x (.ref a) H Q :=
  ⟨d, ds, h.1, .lst hp h'.1, shaped_of h.lay (Nat.le_trans h.2.2 l), shaped_of (lay_list h'.lay) (Nat.add_le_add_right (Nat.le_trans h'.2.2 l') 1), k⟩
theorem x_inD {x : V} {d : PyData} {ds : List PyData} (h : Dp K H x d) (h' : Dp K H (.ref a) (.list ds)) (c : d.canLay0 = true) (n : d.depth ≤ 64) (c' : PyData.canLay0 (.list ds) = true) (n' : PyData.depth (.list ds) ≤ 64) (k : Q (.bl (inD d ds)) H) : rInD K x (.ref a) H Q :=
  ⟨d, ds, h, h', shaped_of c n, shaped_of c' n', k⟩
theorem x_ninD {x : V} {d : PyData} {ds : List PyData} (h : Dp K H x d) (h' : Dp K H (.ref a) (.list ds)) (c : d.canLay0 = true) (n : d.depth ≤ 64) (c' : PyData.canLay0 (.list ds) = true) (n' : PyData.depth (.list ds) ≤ 64) (k : Q (.bl (!inD d ds)) H) : rNotInD K x (.ref a) H Q :=
  ⟨d, ds, h, h', shaped_of c n, shaped_of c' n', k⟩
/-- a sign some times over -/
def repS (x : Str) (n : Int) : Str := if n < 1 then Str.empty else if (n == 1 || x.length == 0) = true then x else ⟨(List.replicate n.toNat x.cps).foldl (· ++ ·) #[]⟩
def nRepS : R2 := fun x y H Q => ∃ (z : Str) (n : Int), x = .str z ∧ y = .int n ∧ 0 ≤ n ∧ n ≤ 1000 ∧ z.length ≤ 100 ∧ Q (.str (repS z n)) H
theorem op_nRepS : OpR X (binaryOp .Mult) nRepS := by
  intro pins s σ H x y v u Q I rx ry h
  obtain ⟨z, n, rfl, rfl, h0, h1, h2, q⟩ := h
  obtain ⟨t, rfl⟩ := rx
  obtain ⟨t', rfl⟩ := ry
  have hlen : z.length * n.toNat ≤ 100000 := by
    have h3 : n.toNat ≤ 1000 := by omega
    calc z.length * n.toNat ≤ 100 * n.toNat := Nat.mul_le_mul_right _ h2
      _ ≤ 100000 := by omega
  refine PySem.P.mul_str ?_ ?_ ?_ ?_
  · rw [decide_eq_false (by omega), decide_eq_false (by omega)]
    rfl
  · intro h3 _ h4
    have h5 : (1000 : Int) ≤ (2 ^ 63 - 1) / n := by
      rw [Int.le_ediv_iff_mul_le (by omega)]
      omega
    omega
  · intro _ _
    exact decide_eq_false (by unfold sizeLine; omega)
  · unfold repS at q
    by_cases h3 : n < 1
    · rw [if_pos h3] at q ⊢
      exact ⟨by decide, .str Str.empty, H, I.tok _, ⟨_, rfl⟩, q⟩
    · rw [if_neg h3] at q ⊢
      by_cases h4 : (n == 1 || z.length == 0) = true
      · rw [if_pos h4] at q ⊢
        exact ⟨.str z, H, I, ⟨_, rfl⟩, q⟩
      · rw [if_neg h4] at q ⊢
        exact ⟨PySem.fits_reps (decide_eq_false (by unfold sizeLine; omega)), .str _, H, I.tok _, ⟨_, rfl⟩, q⟩
theorem x_nRepS {z : Str} {n : Int} (h : 0 ≤ n ∧ n ≤ 1000) (hz : z.length ≤ 100) (k : Q (.str (repS z n)) H) : nRepS (.str z) (.int n) H Q := ⟨z, n, rfl, rfl, h.1, h.2, hz, k⟩
/-- a range from its end -/
def rRevR (i : Nat) (tu : TS) (D : Ends) (σ : L2.St) : Int → Int → Hp → Prop := fun lo hi H => -(2 ^ 62) ≤ lo ∧ lo < 2 ^ 62 ∧ -(2 ^ 62) ≤ hi ∧ hi < 2 ^ 62 ∧ ∃ W : Nat → Nat → L2.St → Hp → Prop, (∃ m, W 0 m σ H) ∧ ∀ j m σ H, W j m σ H →
  ((Itc (lo + (((hi - lo).toNat : Nat) : Int) - 1) (-1) (hi - lo).toNat).stop j H ∧ D.nx σ H) ∨ ((Itc (lo + (((hi - lo).toNat : Nat) : Int) - 1) (-1) (hi - lo).toNat).go j H ∧ ∃ N : L2.St → Hp → Prop, (∀ σ' H', N σ' H' → ∃ m', m' < m ∧ W (j + 1) m' σ' H') ∧
    ∀ x H', (Itc (lo + (((hi - lo).toNat : Nat) : Int) - 1) (-1) (hi - lo).toNat).yld j H x H' → gName i x σ H' fun σ2 H2 => tu { D with nx := N, ct := N, bk := D.nx } σ2 H2)
theorem x_forRev1 {i : Nat} {tu : TS} {D : Ends} {σ : L2.St} {tr : L2.St → Hp → (Int → Int → Hp → Prop) → Prop} (q : tr σ H (rRevR i tu D σ)) : tFor (iRevR tr) (gName i) tu D σ H := q
theorem x_forRev {i : Nat} {tu : TS} {D : Ends} {σ : L2.St} {m : Int} (Pv : Nat → L2.St → Hp → Prop) (hm : 0 ≤ m ∧ m ≤ 100000) (p0 : Pv 0 σ H)
    (ps : ∀ (j : Nat) σ' H', (j : Int) < m → Pv j σ' H' → tu { D with nx := Pv (j + 1), ct := Pv (j + 1), bk := D.nx } (σ'.set i (some (.int (m - 1 - j)))) H') (pd : ∀ σ' H', Pv m.toNat σ' H' → D.nx σ' H') : rRevR i tu D σ 0 m H := by
  have e : (m - 0).toNat = m.toNat := by omega
  refine ⟨by omega, by omega, by omega, by omega, ?_⟩
  rw [e]
  refine for_rangeC (n := m.toNat) Pv p0 (fun j σ' H' hj p => ?_) pd
  have e0 : (0 : Int) + ((m.toNat : Nat) : Int) - 1 + (j : Nat) * (-1) = m - 1 - j := by omega
  show tu { D with nx := Pv (j + 1), ct := Pv (j + 1), bk := D.nx } (σ'.set i (some (.int ((0 : Int) + ((m.toNat : Nat) : Int) - 1 + (j : Nat) * (-1))))) H'
  rw [e0]
  exact ps j σ' H' (by omega) p
theorem cut_take {xs : List V} {k : Int} {n : Nat} (e : k = (n : Int)) : cutV xs none (some k) = xs.take n := by
  subst e
  unfold cutV
  rw [HT.sIx_nat, HT.sIx_none, List.drop_zero, Nat.sub_zero]
  by_cases h : n ≤ xs.length
  · rw [show min n xs.length = n by omega]
  · rw [show min n xs.length = xs.length by omega, List.take_length, List.take_of_length_le (by omega)]
theorem cut_drop {xs : List V} {k : Int} {n : Nat} (e : k = (n : Int)) : cutV xs (some k) none = xs.drop n := by
  subst e
  unfold cutV
  rw [HT.sIx_nat, HT.sIx_none]
  by_cases h : n ≤ xs.length
  · rw [show min n xs.length = n by omega, List.take_of_length_le (by rw [List.length_drop]; omega)]
  · rw [show min n xs.length = xs.length by omega, List.drop_length, List.drop_of_length_le (by omega)]
    simp
/-- range(lo, hi) -/
def rRange2 (n : Nat) (tu : TS) (D : Ends) (σ : L2.St) : List V → Hp → Prop := fun vs H => ∃ i j : Int, vs = [.int i, .int j] ∧ (-(2 ^ 62) ≤ i ∧ i < 2 ^ 62 ∧ -(2 ^ 62) ≤ j ∧ j < 2 ^ 62) ∧ ∃ W : Nat → Nat → L2.St → Hp → Prop, (∃ m, W 0 m σ H) ∧ ∀ k m σ H, W k m σ H →
  ((Itr i (j - i).toNat).stop k H ∧ D.nx σ H) ∨ ((Itr i (j - i).toNat).go k H ∧ ∃ N : L2.St → Hp → Prop, (∀ σ' H', N σ' H' → ∃ m', m' < m ∧ W (k + 1) m' σ' H') ∧ ∀ x H', (Itr i (j - i).toNat).yld k H x H' → gName n x σ H' fun σ2 H2 => tu { D with nx := N, ct := N, bk := D.nx } σ2 H2)
theorem x_forR2 {n : Nat} {tu : TS} {D : Ends} {σ : L2.St} {tr : TA} (q : tr σ H (rRange2 n tu D σ)) : tFor (iRng2 tr) (gName n) tu D σ H := q
theorem x_range2 {n : Nat} {tu : TS} {D : Ends} {σ : L2.St} {lo hi : Int} (Pv : Nat → L2.St → Hp → Prop) (hm : -1000000 ≤ lo ∧ lo ≤ 1000000 ∧ -1000000 ≤ hi ∧ hi ≤ 1000000) (p0 : Pv 0 σ H)
    (ps : ∀ (k : Nat) σ' H', lo + (k : Int) < hi → Pv k σ' H' → tu { D with nx := Pv (k + 1), ct := Pv (k + 1), bk := D.nx } (σ'.set n (some (.int (lo + (k : Int))))) H') (pd : ∀ σ' H', Pv (hi - lo).toNat σ' H' → D.nx σ' H') : rRange2 n tu D σ [.int lo, .int hi] H :=
  ⟨lo, hi, rfl, ⟨by omega, by omega, by omega, by omega⟩, for_range (lo := lo) (n := (hi - lo).toNat) Pv p0 (fun k σ' H' hk p => ps k σ' H' (by omega) p) pd⟩
theorem pk_ints {n : Nat} : ∀ ns : List Int, PkAll K H n (ns.map V.int) (ns.map PyData.int)
  | [] => pk_nil
  | m :: r => pk_cons pk_int (pk_ints r)
/-! dicts whose keys are texts -/
def rDG (x : V) (Q : VK) : VK := fun y H2 => ∃ (a : Addr) (v : V), x = .ref a ∧ DGet H2 a y (some v) ∧ Q v H2
theorem x_dget {td ty : TE} {σ : L2.St} (q : td σ H fun x H1 => ty σ H1 (rDG x Q)) : tDGet td ty σ H Q := q
theorem x_rDG {kvs : List (Key × V)} {k : Str} {v : V} (h : H a = some (.dK kvs)) (e : valV kvs (Sum.inr k) = some v) (q : Q v H) : rDG (.ref a) Q (.str k) H := ⟨a, v, rfl, by rw [← e]; exact (DGet.k (k := Sum.inr k) h : DGet H a (kV (Sum.inr k)) (valV kvs (Sum.inr k))), q⟩
def rDP (x v : V) (R : Hp → Prop) : VK := fun y H3 => ∃ (a : Addr) (H4 : Hp), x = .ref a ∧ DPut H3 a y v H4 ∧ R H4
theorem x_sdput {td ty tv : TE} {D : Ends} {σ : L2.St} {tz : TS} (q : tv σ H fun v H1 => td σ H1 fun x H2 => ty σ H2 (rDP x v fun H4 => tz D σ H4)) : tSeq (sDPut td ty tv) tz D σ H := q
theorem x_dput {td ty tv : TE} {D : Ends} {σ : L2.St} (q : tv σ H fun v H1 => td σ H1 fun x H2 => ty σ H2 (rDP x v fun H4 => D.nx σ H4)) : sDPut td ty tv D σ H := q
theorem x_rDP {kvs kvs' : List (Key × V)} {k : Str} {v : V} {R : Hp → Prop} (h : H a = some (.dK kvs)) (hl : kvs.length < 1000) (e : putK kvs (Sum.inr k) v = kvs') (q : R (upd H a (.dK kvs'))) : rDP (.ref a) v R (.str k) H :=
  ⟨a, upd H a (.dK (putK kvs (Sum.inr k) v)), rfl, (DPut.k (k := Sum.inr k) h (small1000 (Nat.le_of_lt hl)) : DPut H a (kV (Sum.inr k)) v _), by rw [e]; exact q⟩
theorem x_disp {trs : List (TE × TE)} {σ : L2.St} (q : ∀ p, Fr p H → tPairs trs σ (upd H p (.dK [])) fun ps H2 => H2 p = some (.dK []) ∧ ∃ kvs : List (Key × V), ps = kvs.map (fun kv => (kV kv.1, kv.2)) ∧ kvs.length ≤ 15 ∧ Q (.ref p) (upd H2 p (.dK (mergeK [] kvs)))) : tDisp trs σ H Q := fun p hp => q p ⟨hp⟩
theorem x_pcons {tk tv : TE} {r : List (TE × TE)} {σ : L2.St} {R : List (V × V) → Hp → Prop} (q : tk σ H fun x H1 => tv σ H1 fun y H2 => tPairs r σ H2 fun ps H3 => R ((x, y) :: ps) H3) : tPairs ((tk, tv) :: r) σ H R := q
theorem x_pnil {σ : L2.St} {R : List (V × V) → Hp → Prop} (q : R [] H) : tPairs [] σ H R := q
/-! lists of ints sorted where they stand -/
theorem x_rSortI {ns : List Int} (h : H a = some (.lst (ns.map V.int))) (k : ∀ ns' : List Int, ns'.Perm ns → ns'.Pairwise (· ≤ ·) → Q .non (upd H a (.lst (ns'.map V.int)))) : rSortI (.ref a) [] H Q := ⟨a, ns, rfl, rfl, h, k⟩
theorem srt_eq {xs ys : List Int} (p : xs.Perm ys) (h1 : xs.Pairwise (· ≤ ·)) (h2 : ys.Pairwise (· ≤ ·)) : xs = ys := p.eq_of_pairwise (fun x y _ _ h h' => Int.le_antisymm h h') h1 h2
/-! texts -/
def nInS : R2 := fun x y H Q => ∃ (c : Nat) (z : Str), x = .str ⟨#[c]⟩ ∧ y = .str z ∧ Q (.bl (decide (c ∈ z.cps.toList))) H
def nNotInS : R2 := fun x y H Q => ∃ (c : Nat) (z : Str), x = .str ⟨#[c]⟩ ∧ y = .str z ∧ Q (.bl (!decide (c ∈ z.cps.toList))) H
theorem op_nInS : OpR X (compareOp .In) nInS := op_in_sign
theorem op_nNotInS : OpR X (compareOp .NotIn) nNotInS := op_notIn_sign
theorem x_inS {c : Nat} {z : Str} (q : Q (.bl (decide (c ∈ z.cps.toList))) H) : nInS (.str ⟨#[c]⟩) (.str z) H Q := ⟨c, z, rfl, rfl, q⟩
theorem x_notInS {c : Nat} {z : Str} (q : Q (.bl (!decide (c ∈ z.cps.toList))) H) : nNotInS (.str ⟨#[c]⟩) (.str z) H Q := ⟨c, z, rfl, rfl, q⟩
def nAddS : R2 := fun x y H Q => ∃ i j : Str, x = .str i ∧ y = .str j ∧ i.length + j.length ≤ sizeLine ∧ Q (.str (i ++ j)) H
theorem op_nAddS : OpR X (binaryOp .Add) nAddS := op_add_str
theorem x_nAddS {i j : Str} (h : i.length + j.length ≤ 100000) (q : Q (.str (i ++ j)) H) : nAddS (.str i) (.str j) H Q := ⟨i, j, rfl, rfl, size_ok h, q⟩
def nLenS : List V → Hp → VK → Prop := fun xs H Q => ∃ z : Str, xs = [.str z] ∧ z.length ≤ sizeLine ∧ Q (.int z.length) H
theorem call_nLenS : CallR X (.builtin "len") nLenS := call_len_str
theorem x_nLenS {z : Str} (h : z.length ≤ 100000) (q : Q (.int z.length) H) : nLenS [.str z] H Q := ⟨z, rfl, size_ok h, q⟩
theorem x_slS {z : Str} {lo hi : Option Int} (h : z.length ≤ 100000) (q : Q (.str (cutS z lo hi)) H) : rSlS (.str z) lo hi H Q := ⟨z, rfl, size_ok h, q⟩
def rLcS (g : TG) (tt : TT) (te : TE) (vs : List Nat) (σ : L2.St) (Q : VK) : VK := fun x H1 => ∃ z, x = .str z ∧ RLc (Its z) g tt te vs σ Q H1
theorem x_lcS1 {g : TG} {t : TT} {te tx : TE} {vs : List Nat} {σ : L2.St} (q : tx σ H (rLcS g t te vs σ Q)) : tLc (iStr tx) g t te vs σ H Q := q
theorem x_lcS {g : TG} {t : TT} {te : TE} {vs : List Nat} {σ : L2.St} {z : Str} (Pv : Addr → Nat → Hp → Prop) (h0 : ∀ Dl, Fr Dl H → Pv Dl 0 (upd H Dl (.lst [])))
    (hs : ∀ Dl, Fr Dl H → ∀ i c H', z.cps.toList[i]? = some c → Pv Dl i H' → g (.str ⟨#[c]⟩) (wipe σ vs) H' fun σ2 H2 => wipe σ2 vs = wipe σ vs ∧ t σ2 H2 fun b H3 =>
      if b = true then te σ2 H3 fun y H4 => ∃ acc, H4 Dl = some (.lst acc) ∧ acc.length < sizeLine ∧ Pv Dl (i + 1) (upd H4 Dl (.lst (acc ++ [y]))) else Pv Dl (i + 1) H3)
    (hd : ∀ Dl H', Fr Dl H → Pv Dl z.length H' → Q (.ref Dl) H') : rLcS g t te vs σ Q (.str z) H := ⟨z, rfl, fun Dl hD =>
  lc_it walk_str (Pv Dl) (h0 Dl ⟨hD⟩) (fun _ _ _ _ => trivial) (fun i x H1 H' _ p y => by
    obtain ⟨rfl, c, hc, rfl⟩ := y
    exact hs Dl ⟨hD⟩ i c _ (by rw [← hc]; simp) p) (fun H' p => hd Dl H' ⟨hD⟩ p)⟩
/-! ### texts gone through, keys of a dict -/
def rForS (g : TG) (tu : TS) (D : Ends) (σ : L2.St) : VK := fun x H => ∃ z, x = .str z ∧ ∃ W : Nat → Nat → L2.St → Hp → Prop, (∃ m, W 0 m σ H) ∧ ∀ i m σ H, W i m σ H →
  ((Its z).stop i H ∧ D.nx σ H) ∨ ((Its z).go i H ∧ ∃ N : L2.St → Hp → Prop, (∀ σ' H', N σ' H' → ∃ m', m' < m ∧ W (i + 1) m' σ' H') ∧ ∀ x H', (Its z).yld i H x H' → g x σ H' fun σ2 H2 => tu { D with nx := N, ct := N, bk := D.nx } σ2 H2)
theorem x_forS1 {g : TG} {tu : TS} {D : Ends} {σ : L2.St} {te : TE} (q : te σ H (rForS g tu D σ)) : tFor (iStr te) g tu D σ H := q
theorem x_forS {g : TG} {tu : TS} {D : Ends} {σ : L2.St} {z : Str} (Pv : Nat → L2.St → Hp → Prop) (p0 : Pv 0 σ H)
    (ps : ∀ i c σ' H', z.cps.toList[i]? = some c → Pv i σ' H' → g (.str ⟨#[c]⟩) σ' H' fun σ2 H2 => tu { D with nx := Pv (i + 1), ct := Pv (i + 1), bk := D.nx } σ2 H2) (pd : ∀ σ' H', Pv z.length σ' H' → D.nx σ' H') : rForS g tu D σ (.str z) H :=
  ⟨z, rfl, for_it walk_str Pv p0 (fun _ _ _ _ _ => trivial) (fun i x σ H H' _ p y => by
    obtain ⟨rfl, c, hc, rfl⟩ := y
    exact ps i c _ _ (by rw [← hc]; simp) p) pd⟩
def nOrd : List V → Hp → VK → Prop := fun xs H Q => ∃ x : Str, xs = [.str x] ∧ x.length = 1 ∧ Q (.int (x.cps.getD 0 0 : Nat)) H
theorem k_ord {X : Cx} : CallR X (.builtin "ord") nOrd := call_ord
theorem x_ord {c : Nat} (q : Q (.int (c : Nat)) H) : nOrd [.str ⟨#[c]⟩] H Q := ⟨_, rfl, rfl, q⟩
/-- a list comprehension over a dict's keys -/
theorem x_lcK {g : TG} {t : TT} {te : TE} {vs : List Nat} {σ : L2.St} {a : Nat} {r : Addr} {kvs : List (Key × V)} (ea : σ[a]? = some (some (.ref r))) (hr : H r = some (.dK kvs))
    (q : ∀ od H0, H0 = upd H r (.frz od (.dK kvs)) → ∃ Pv : Addr → Nat → Hp → Prop, (∀ Dl, Fr Dl H0 → Pv Dl 0 (upd H0 Dl (.lst []))) ∧ (∀ Dl i H', Fr Dl H0 → Pv Dl i H' → H' r = some (.frz od (.dK kvs))) ∧
      (∀ Dl, Fr Dl H0 → ∀ i k v H', kvs[i]? = some (k, v) → Pv Dl i H' → g (kV k) (wipe σ vs) H' fun σ2 H2 => wipe σ2 vs = wipe σ vs ∧ t σ2 H2 fun b H3 =>
        if b = true then te σ2 H3 fun y H4 => ∃ acc, H4 Dl = some (.lst acc) ∧ acc.length < sizeLine ∧ Pv Dl (i + 1) (upd H4 Dl (.lst (acc ++ [y]))) else Pv Dl (i + 1) H3) ∧
      ∀ Dl H', Fr Dl H0 → Pv Dl kvs.length H' → Q (.ref Dl) (upd H' r (.dK kvs))) : tLockE (tLc (iKeys (tVar a)) g t te vs) σ H Q := by
  refine ⟨r, _, hr, trivial, fun od => ?_⟩
  obtain ⟨Pv, h0, h1, h2, h3⟩ := q od _ rfl
  refine ⟨.ref r, ea, r, od, rfl, .inl ⟨kvs, upd_same, fun Dl hD => ?_⟩⟩
  refine lc_it (walk_keys (o := od)) (Pv Dl) (h0 Dl ⟨hD⟩) (fun i H' _ p => h1 Dl i H' ⟨hD⟩ p) (fun i x H1 H' _ p y => ?_) fun H' p => ⟨h1 Dl _ H' ⟨hD⟩ p, h3 Dl H' ⟨hD⟩ p⟩
  obtain ⟨rfl, k, v, e, rfl⟩ := y
  exact h2 Dl ⟨hD⟩ i k v _ e p
/-- all signs of a text are so -/
def AllC (p : Nat → Bool) (s : Str) : Bool := s.cps.toList.all p
theorem toList_add (i j : Str) : (i ++ j).cps.toList = i.cps.toList ++ j.cps.toList := by
  show (i.cps ++ j.cps).toList = _
  simp
theorem len_add (i j : Str) : (i ++ j).length = i.length + j.length := by
  show (i.cps ++ j.cps).size = i.cps.size + j.cps.size
  simp
theorem allC_add {p : Nat → Bool} {i j : Str} (h : AllC p i = true) (h' : AllC p j = true) : AllC p (i ++ j) = true := by
  unfold AllC at *
  rw [toList_add, List.all_append, h, h']
  rfl
theorem allC_add_inv {p : Nat → Bool} {i j : Str} (h : AllC p (i ++ j) = true) : AllC p i = true ∧ AllC p j = true := by
  unfold AllC at *
  rw [toList_add, List.all_append, Bool.and_eq_true] at h
  exact h
theorem allC_cut {p : Nat → Bool} {z : Str} {lo hi : Option Int} (h : AllC p z = true) : AllC p (cutS z lo hi) = true := by
  unfold AllC at *
  rw [List.all_eq_true] at h ⊢
  intro c hc
  refine h c ?_
  unfold cutS at hc
  simp only at hc
  exact List.mem_of_mem_drop (List.mem_of_mem_take hc)
theorem len_cut (z : Str) (lo hi : Option Int) : (cutS z lo hi).length ≤ z.length := by
  show (cutS z lo hi).cps.size ≤ z.cps.size
  unfold cutS
  simp only [List.size_toArray, List.length_take, List.length_drop, Array.length_toList]
  have : z.length = z.cps.size := rfl
  omega
theorem allC_at {p : Nat → Bool} {z : Str} {i : Nat} {c : Nat} (h : AllC p z = true) (e : z.cps.toList[i]? = some c) : AllC p ⟨#[c]⟩ = true := by
  unfold AllC at *
  rw [List.all_eq_true] at h
  have := h c (List.mem_of_getElem? e)
  simp [this]
theorem allC_mono {p q : Nat → Bool} {s : Str} (h : AllC p s = true) (f : ∀ c, p c = true → q c = true) : AllC q s = true := by
  unfold AllC at *
  rw [List.all_eq_true] at h ⊢
  exact fun c hc => f c (h c hc)
def okC : Nat → Bool := fun c => decide (c < 0x110000)
theorem lay_str {s : Str} (h : AllC okC s = true) : PyData.canLay0 (.str s) = true := by
  have h2 : s.cps.all (fun c => decide (c < 0x110000)) = true := by
    rw [← Array.all_toList]
    exact h
  simpa only [PyData.canLay0, PyData.strOk] using h2
/-! tuples some times over -/
theorem tup_times1 (l : Addr) (items : Array Value) (n : Nat) (dd : Option Addr) (sl : Array (Option Value)) (u : Tok) :
    Meets (Builtin.«tuple.__mul__» ⟨[.ref l, .int 1 u], []⟩) (fun _ R s => s.heap.get? l = some { cls := .type "tuple", dict := dd, data := .seq items n, slots := sl } ∧ R (.ok (.ret (.ref l))) s) :=
  .of_wp fun prog w A R s h => by
    obtain ⟨hp, g, d, tk, os⟩ := s
    obtain ⟨hl, h⟩ := h
    have f1 := AutoSeq1.idx_int
    wp_walk using wpAny_loadPart' hl
    exact ⟨_, rfl, h⟩
def nRepT (K : PySem.W.Frag) : R2 := fun x y H Q => ∃ (l : Addr) (k : Int) (xs : List V), x = .ref l ∧ y = .int k ∧ SqT K H l xs ∧ xs ≠ [] ∧ xs.length ≤ 1000 ∧ ((k = 1 ∧ Q (.ref l) H) ∨ (2 ≤ k ∧ k ≤ 1000 ∧ ∀ p, H p = none → Q (.ref p) (upd H p (.tup (List.replicate k.toNat xs).flatten))))
theorem op_nRepT : OpR X (binaryOp .Mult) (nRepT X.K) := by
  intro pins s σ H x y v u Q I rx ry h
  obtain ⟨l, k, xs, rfl, rfl, hT, hne, hz, q⟩ := h
  rcases q with ⟨rfl, q⟩ | ⟨h1, h2, q⟩
  · cases rx
    obtain ⟨t, rfl⟩ := ry
    obtain ⟨its, r, ⟨⟨cls, dd, data, sl⟩, ho, hc, n, hd⟩, hs⟩ := I.tuple hT
    simp only at hc hd
    subst hc hd
    exact wpAny_binaryOp_repeat_ref (T := "tuple") (U := "int") (by decide) ⟨_, ho, rfl⟩ (fun s' => typeIs_int s' 1 t) noFill_tuple_mul PySem.F.fills_int_mul PySem.F.slot_int_rmul repeat_tuple PySem.F.slot_int_index.lookup
      (call_meets PySem.F.slot_int_rmul (typeIs_int s 1 t) PySem.F.entry_int_rmul (PySem.F.args_int_rmul_2 _ _) (int_rmul_tuple 1 t l its.toArray n dd sl)
        ⟨ho, rfl, ⟨_, ho, rfl⟩, call_meets PySem.F.slot_tuple_mul ⟨_, ho, rfl⟩ PySem.F.entry_tuple_mul (PySem.F.args_tuple_mul_2 _ _) (tup_times1 l its.toArray n dd sl t) ⟨ho, ⟨.ref l, H, I, rfl, q⟩⟩⟩)
  · exact op_repT pins s σ H _ _ v u Q I rx ry ⟨l, k, xs, rfl, rfl, hT, hne, h1, h2, hz, q⟩
theorem k_repT (e : X.K = K) : OpR X (binaryOp .Mult) (nRepT K) := e ▸ op_nRepT
/-! more of dicts -/
def rGet1 (R : VK) (a : Addr) : VK := fun y H2 => ∃ o, DGet H2 a y o ∧ R (o.getD .non) H2
def rGetD (x : V) (ty : TE) (σ : L2.St) (Q : VK) : Hp → Prop := fun H1 => ∃ a, x = .ref a ∧ IsD H1 a ∧ ty σ H1 (rGet1 Q a)
theorem x_dget1 {td ty : TE} {σ : L2.St} (q : td σ H fun x H1 => rGetD x ty σ Q H1) : tDGet1 td ty σ H Q := q
theorem x_rGetD {ty : TE} {σ : L2.St} {kvs : List (Key × V)} (h : H a = some (.dK kvs)) (q : ty σ H (rGet1 Q a)) : rGetD (.ref a) ty σ Q H := ⟨a, rfl, .inl ⟨kvs, .inl h⟩, q⟩
theorem x_rGet1 {kvs : List (Key × V)} {k : Str} (h : H a = some (.dK kvs)) (q : Q ((valV kvs (Sum.inr k)).getD .non) H) : rGet1 Q a (.str k) H := ⟨_, (DGet.k (k := Sum.inr k) h : DGet H a (kV (Sum.inr k)) (valV kvs (Sum.inr k))), q⟩
def rGet2 (R : VK) (a : Addr) (y z : V) : Hp → Prop := fun H3 => ∃ o, DGet H3 a y o ∧ R (o.getD z) H3
def rGetE (x : V) (ty tx : TE) (σ : L2.St) (Q : VK) : Hp → Prop := fun H1 => ∃ a, x = .ref a ∧ IsD H1 a ∧ ty σ H1 fun y H2 => tx σ H2 fun z H3 => rGet2 Q a y z H3
theorem x_dget2 {td ty tx : TE} {σ : L2.St} (q : td σ H fun x H1 => rGetE x ty tx σ Q H1) : tDGet2 td ty tx σ H Q := q
theorem x_rGetE {ty tx : TE} {σ : L2.St} {kvs : List (Key × V)} (h : H a = some (.dK kvs)) (q : ty σ H fun y H2 => tx σ H2 fun z H3 => rGet2 Q a y z H3) : rGetE (.ref a) ty tx σ Q H := ⟨a, rfl, .inl ⟨kvs, .inl h⟩, q⟩
theorem x_rGet2 {kvs : List (Key × V)} {k : Str} {z : V} (h : H a = some (.dK kvs)) (q : Q ((valV kvs (Sum.inr k)).getD z) H) : rGet2 Q a (.str k) z H := ⟨_, (DGet.k (k := Sum.inr k) h : DGet H a (kV (Sum.inr k)) (valV kvs (Sum.inr k))), q⟩
def rPop1 (R : VK) (a : Addr) : VK := fun y H2 => ∃ (kvs : List (Key × V)) (k : Key) (v : V), H2 a = some (.dK kvs) ∧ y = kV k ∧ valV kvs k = some v ∧ R v (upd H2 a (.dK (dropK kvs k)))
def rPopD (x : V) (ty : TE) (σ : L2.St) (Q : VK) : Hp → Prop := fun H1 => ∃ a, x = .ref a ∧ IsD H1 a ∧ ty σ H1 (rPop1 Q a)
theorem x_dpop1 {td ty : TE} {σ : L2.St} (q : td σ H fun x H1 => rPopD x ty σ Q H1) : tDPop1 td ty σ H Q := q
theorem x_rPopD {ty : TE} {σ : L2.St} {kvs : List (Key × V)} (h : H a = some (.dK kvs)) (q : ty σ H (rPop1 Q a)) : rPopD (.ref a) ty σ Q H := ⟨a, rfl, .inl ⟨kvs, .inl h⟩, q⟩
theorem x_rPop1 {kvs : List (Key × V)} {k : Str} {v : V} (h : H a = some (.dK kvs)) (e : valV kvs (Sum.inr k) = some v) (q : Q v (upd H a (.dK (dropK kvs (Sum.inr k))))) : rPop1 Q a (.str k) H := ⟨kvs, Sum.inr k, v, h, rfl, e, q⟩
def rPop2 (R : VK) (a : Addr) (y z : V) : Hp → Prop := fun H3 => ∃ (kvs : List (Key × V)) (k : Key), H3 a = some (.dK kvs) ∧ y = kV k ∧ (∀ v, valV kvs k = some v → R v (upd H3 a (.dK (dropK kvs k)))) ∧ (valV kvs k = none → R z H3)
def rPopE (x : V) (ty tx : TE) (σ : L2.St) (Q : VK) : Hp → Prop := fun H1 => ∃ a, x = .ref a ∧ IsD H1 a ∧ ty σ H1 fun y H2 => tx σ H2 fun z H3 => rPop2 Q a y z H3
theorem x_dpop2 {td ty tx : TE} {σ : L2.St} (q : td σ H fun x H1 => rPopE x ty tx σ Q H1) : tDPop2 td ty tx σ H Q := q
theorem x_rPopE {ty tx : TE} {σ : L2.St} {kvs : List (Key × V)} (h : H a = some (.dK kvs)) (q : ty σ H fun y H2 => tx σ H2 fun z H3 => rPop2 Q a y z H3) : rPopE (.ref a) ty tx σ Q H := ⟨a, rfl, .inl ⟨kvs, .inl h⟩, q⟩
theorem x_rPop2 {kvs : List (Key × V)} {k : Str} {z : V} (h : H a = some (.dK kvs)) (q1 : ∀ v, valV kvs (Sum.inr k) = some v → Q v (upd H a (.dK (dropK kvs (Sum.inr k))))) (q2 : valV kvs (Sum.inr k) = none → Q z H) : rPop2 Q a (.str k) z H := ⟨kvs, Sum.inr k, h, rfl, q1, q2⟩
def rDInK (y : V) (Q : VK) : VK := fun x H2 => ∃ a o, x = .ref a ∧ DGet H2 a y o ∧ Q (.bl o.isSome) H2
theorem x_din {ty td : TE} {σ : L2.St} (q : ty σ H fun y H1 => td σ H1 (rDInK y Q)) : tDIn ty td σ H Q := q
theorem x_rDInK {kvs : List (Key × V)} {k : Str} (h : H a = some (.dK kvs)) (q : Q (.bl (valV kvs (Sum.inr k)).isSome) H) : rDInK (.str k) Q (.ref a) H := ⟨a, _, rfl, (DGet.k (k := Sum.inr k) h : DGet H a (kV (Sum.inr k)) (valV kvs (Sum.inr k))), q⟩
theorem x_dnew {σ : L2.St} (k : ∀ p H2, Fr p H → Same H H2 → H2 p = some (.dK []) → Q (.ref p) H2) : tDNewK σ H Q := fun p hp => k p _ ⟨hp⟩ (same_new hp) upd_same
theorem x_notBl {b c : Bool} (q : Q (.bl (!decide (b = c))) H) : rNotB (.bl b) (.bl c) H Q := ⟨b, c, rfl, rfl, q⟩
theorem x_isBl {b c : Bool} (q : Q (.bl (decide (b = c))) H) : rIsB (.bl b) (.bl c) H Q := ⟨b, c, rfl, rfl, q⟩
theorem cut_whole {xs : List V} {lo hi : Option Int} (h : HT.sIx xs.length 0 lo = 0 ∧ HT.sIx xs.length xs.length hi = xs.length) : cutV xs lo hi = xs := by
  unfold cutV
  rw [h.1, h.2]
  simp
theorem x_slA {xs : List V} {lo hi : Option Int} (h : H a = some (.tup xs)) (k : ∀ p H', Same H H' → H' p = some (.tup (cutV xs lo hi)) → Q (.ref p) H') : rSlA K (.ref a) lo hi H Q :=
  ⟨a, xs, rfl, st_of h, fun e => k a H (Same.refl _) (by rw [cut_whole e]; exact h), fun _ p hp => k p _ (same_new hp) upd_same⟩
theorem x_catB {xs ys : List V} (h : H a = some (.tup xs)) (h' : H b = some (.tup ys)) (hz : xs.length + ys.length ≤ 100000) (k : ∀ p H', Same H H' → H' p = some (.tup (xs ++ ys)) → Q (.ref p) H') : rCatA K (.ref a) (.ref b) H Q :=
  ⟨a, b, xs, ys, rfl, rfl, st_of h, st_of h', size_ok hz, fun e => k b H (Same.refl _) (by rw [e]; exact h'), fun _ e => k a H (Same.refl _) (by rw [e, List.append_nil]; exact h), fun _ _ p hp => k p _ (same_new hp) upd_same⟩
theorem x_repB {xs : List V} {n : Int} (h : H a = some (.tup xs)) (hne : xs ≠ []) (hz : xs.length ≤ 1000) (hn : 1 ≤ n ∧ n ≤ 1000) (k : ∀ p H', Same H H' → H' p = some (.tup (List.replicate n.toNat xs).flatten) → Q (.ref p) H') : nRepT K (.ref a) (.int n) H Q := by
  refine ⟨a, n, xs, rfl, rfl, st_of h, hne, hz, ?_⟩
  by_cases e : n = 1
  · subst e
    refine .inl ⟨rfl, k a H (Same.refl _) ?_⟩
    rw [h]
    simp
  · exact .inr ⟨by omega, hn.2, fun p hp => k p _ (same_new hp) upd_same⟩
theorem repS_len {z : Str} {n : Int} (h : 2 ≤ n) (hz : 1 ≤ z.length) : (repS z n).length = n.toNat * z.length := by
  unfold repS
  rw [if_neg (by omega), if_neg]
  · show ((List.replicate n.toNat z.cps).foldl (· ++ ·) #[]).size = _
    rw [PySem.size_reps]
    show 0 + n.toNat * z.cps.size = n.toNat * z.length
    rw [Nat.zero_add]
    rfl
  · rw [Bool.or_eq_true, beq_iff_eq, beq_iff_eq]
    omega
end
/-- a def with defaults that lets nothing out -/
theorem okD {P : Program} {w : World} {K : PySem.W.Frag} {mg : Str → Option Value} {base : Heap} {x qual : Str} {pr : Arguments} {body : List Stmt} {sc : Scope} {dvs : List V} {kws : List (Str × V)} {f : Addr} {fd : FuncData} {N ps : List Str} {k : Nat} {sp : Sp}
    (F : FunD K x qual pr body sc dvs kws f fd) (S : FnScope N ps sc) (len : ∀ vs H Q E, sp vs H Q E → vs.length = ps.length)
    (hb : ∀ (cdv : Value) (A : Around) (outer : List Env) (s : Shared) (H : Hp) (vs : List V) (Q : VK) (E : XK), Room k (A.deeper (envOfC qual sc s.heap.objs.size f cdv)) → sp vs H Q E →
      ∃ t, PSs (cxOf CX0 P w K mg base N qual sc f cdv A outer s H E).nox body t ∧ t { nx := fun _ H' => Q .non H', rt := Q } (start N vs) H) : FnOk P w K mg base CX0 (k + 1) f fd ps sp :=
  F.ok S len fun cdv A outer s H vs Q E hr h => by
    obtain ⟨t, h1, q⟩ := hb cdv A outer s H vs Q E hr h
    exact ⟨t, h1.nox, q⟩
theorem funD_mk {K : PySem.W.Frag} {x qual : Str} {st : Stmt} {f dT : Addr} {oc : Value} {od an : Option Addr} {osl : Array (Option Value)} {kV doc pm cdv ct : Value} {dvs : List V} {o : Obj} {its : List Value} {n : Nat}
    (l : K.lookup f = some ⟨oc, od, .func (PySem.W.fnOf x qual (defArgs st) (defBody st) (defScope st) (.ref dT) kV doc pm an cdv ct), osl⟩) (c : PySem.W.codeIn K cdv qual = true) (k : PySem.W.keepIn K (.ref f) = true)
    (hd : dvs ≠ []) (lT : K.lookup dT = some o) (oT : o.data = .seq its.toArray n) (r : Vals dvs its) :
    FunD K x qual (defArgs st) (defBody st) (defScope st) dvs [] f (PySem.W.fnOf x qual (defArgs st) (defBody st) (defScope st) (.ref dT) kV doc pm an cdv ct) :=
  ⟨⟨oc, od, .ref dT, kV, doc, pm, an, cdv, ct, osl, rfl, l, c, .inr ⟨hd, dT, o, its, n, rfl, lT, oT, r⟩, .inl rfl⟩, k⟩
/-- dict(d) -/
def rDictD (xs : List V) (H : Hp) (Q : VK) : Prop := ∃ (a : Addr) (kvs : List (Key × V)), xs = [.ref a] ∧ Rd H a (.dK kvs) ∧ ∀ p, H p = none → Q (.ref p) (upd H p (.dK kvs))
theorem k_dictD {X : Cx} : CallR X (.type "dict") rDictD := call_dictD
theorem x_rDictD {a : Addr} {H : Hp} {Q : VK} {kvs : List (Key × V)} (h : H a = some (.dK kvs)) (k : ∀ p H2, Fr p H → Same H H2 → H2 p = some (.dK kvs) → Q (.ref p) H2) : rDictD [.ref a] H Q := ⟨a, kvs, rfl, .inl h, x_new1 k⟩
end Xk
/-! zip of a tuple and a list -/
namespace Xk
open PySem PySem.Spec PyProof.Rows L2
/-- a tuple at p and a list at q, side by side -/
def ItTL (K : PySem.W.Frag) (p q : Addr) : It where
  go := fun n H => ∃ (us vs : List V) (u v : V), SqT K H p us ∧ SqL K H q vs ∧ us[n]? = some u ∧ vs[n]? = some v
  yld := fun n H r H' => ∃ T u v, r = .ref T ∧ H T = none ∧ H' = upd H T (.tup [u, v]) ∧ (∀ us, SqT K H p us → us[n]? = some u) ∧ ∀ vs, SqL K H q vs → vs[n]? = some v
  stop := fun n H => ∃ us vs : List V, SqT K H p us ∧ SqL K H q vs ∧ n ≤ us.length ∧ n ≤ vs.length ∧ (n = us.length ∨ n = vs.length)
/-- what stands behind such an iterator -/
def AtTL (z t o i j p q : Addr) (n : Nat) (h : Heap) : Prop :=
  IsZip h z t o .none ∧ IsPair h t (.ref i) (.ref j) ∧ (∃ u v, IsPair h o u v) ∧ h.IsTupleIter i p n ∧ h.IsListIter j q n
theorem sepTL {z t o i j p q : Addr} (D : ZipApart z t o i j p q) : ZipSep2 z t o i j [i, p] [j, q] where
  TIz := D.TIz
  TOz := D.TOz
  TITO := D.TITO
  TIi1 := D.TIi1
  mem1 := List.mem_cons_self
  zf1 := by simp [D.i1z.symm, D.l1z.symm]
  Tf1 := by simp [D.TOi1, D.l1TO.symm]
  TIi2 := D.TIi2
  mem2 := List.mem_cons_self
  zf2 := by simp [D.i2z.symm, D.l2z.symm]
  Tf2 := by simp [D.TOi2, D.l2TO.symm]
  sep1_2 := by simp [D.i12, D.l2i1.symm]
  sep2_1 := by simp [D.i12.symm, D.l1i2.symm]
theorem five {c z t o i j : Addr} {P : Addr → Prop} (h : c ∈ [z, t, o, i, j]) (h1 : P z) (h2 : P t) (h3 : P o) (h4 : P i) (h5 : P j) : P c := by
  simp only [List.mem_cons, List.not_mem_nil, or_false] at h
  rcases h with rfl | rfl | rfl | rfl | rfl <;> assumption
theorem turnTL {P : Program} {w : World} {K : PySem.W.Frag} {es : List Expr} {k : Nat} {pos : Pos} {z t o i j p q : Addr} (D : ZipApart z t o i j p q) :
    Turn P w K (.Tuple es k pos) (ItTL K p q) [z, t, o, i, j] z (AtTL z t o i j p q) where
  mem := List.mem_cons_self
  obj := fun n h st c hc => by
    obtain ⟨g1, g2, ⟨u, v, g3⟩, ⟨o1, e1, _, d1⟩, ⟨o2, e2, _, d2⟩⟩ := st
    refine five (P := fun c => ∃ ob, h.get? c = some ob ∧ ∀ v, ob.data ≠ .cell v) hc ⟨_, g1, fun _ e => nomatch e⟩ ⟨_, g2, fun _ e => nomatch e⟩ ⟨_, g3, fun _ e => nomatch e⟩ ⟨o1, e1, fun x e => ?_⟩ ⟨o2, e2, fun x e => ?_⟩
    · rw [d1] at e
      cases e
    · rw [d2] at e
      cases e
  keep := fun n h h' st g => by
    obtain ⟨g1, g2, ⟨u, v, g3⟩, g4, g5⟩ := st
    exact ⟨g z (by simp) _ g1, g t (by simp) _ g2, ⟨u, v, g o (by simp) _ g3⟩, g4.at fun ob e => g i (by simp) ob e, g5.at fun ob e => g j (by simp) ob e⟩
  item := by
    intro X hP hw hK hc n pins s σ H E I hf st hg
    subst hP hw hK
    obtain ⟨g1, g2, ⟨u0, v0, g3⟩, g4, g5⟩ := st
    obtain ⟨us, vs, u, v, hus, hvs, hu, hv⟩ := hg
    obtain ⟨its, r1, p1, _⟩ := I.tuple hus
    obtain ⟨its2, r2, p2, _⟩ := I.list hvs
    obtain ⟨x, hx, rx⟩ := r1.get hu
    obtain ⟨y, hy, ry⟩ := r2.get hv
    have lt1 : n < its.toArray.size := by
      obtain ⟨b, _⟩ := List.getElem?_eq_some_iff.mp hx
      simpa using b
    have lt2 : n < its2.toArray.size := by
      obtain ⟨b, _⟩ := List.getElem?_eq_some_iff.mp hy
      simpa using b
    have hzl : z < s.heap.objs.size := Heap.lt_size g1
    have hh : X.A.in1.handled = none := I.ok.hd hc
    refine wpAny_pyNext_zipD2_item (sepTL D) (Draws.tuple hh i p D.l1i1 its.toArray) (Draws.list hh j q D.l2i2 its2.toArray) g1 g2 g3 ⟨g4, p1⟩ ⟨g5, p2.isList⟩ lt1 lt2 fun x1 y1 h' tk q1 q2 z' o' st1 st2 hT hsz hk => ?_
    have ex : x1 = x := by
      have e2 : its[n]? = some x1 := by simpa using q1
      exact Option.some.inj (e2.symm.trans hx)
    have ey : y1 = y := by
      have e2 : its2[n]? = some y1 := by simpa using q2
      exact Option.some.inj (e2.symm.trans hy)
    subst ex ey
    refine ⟨_, rfl, wpAny_letOwnedTupleGo_zip (s := { s with heap := h', toks := tk }) z' fun h2 z2 sb => ?_⟩
    have hT2 : h2.get? s.heap.objs.size = some { cls := .type "tuple", data := .seq #[x1, y1] } := (sb.2 _ (Nat.ne_of_gt hzl)).trans hT
    have new : ObjOk X.prog X.w (upd H s.heap.objs.size (.tup [u, v])) h2 s.heap.objs.size (.tup [u, v]) :=
      ⟨by show 2 ≤ sizeLine; decide, [x1, y1], .cons rx (.cons ry .nil), ⟨_, hT2, rfl, _, rfl⟩⟩
    have kept : ∀ c ob, c ∉ [z, t, o, i, j] → s.heap.get? c = some ob → h2.get? c = some ob := fun c ob nc e => by
      simp only [List.mem_cons, List.not_mem_nil, or_false, not_or] at nc
      exact (sb.2 c nc.1).trans (hk c ob nc.1 nc.2.2.1 nc.2.2.2.1 nc.2.2.2.2 e)
    have I1 : Inv X pins σ (upd H s.heap.objs.size (.tup [u, v])) { s with heap := h2, toks := tk } :=
      I.turnedNew (t' := tk) (ch := [z, t, o, i, j]) kept hf (Nat.le_refl _) new
    refine ⟨.ref s.heap.objs.size, _, I1, rfl, ⟨_, u, v, rfl, I.hok.fresh (Nat.le_refl _), rfl, fun l hl => ?_, fun l hl => ?_⟩, ⟨z2, ?_, ⟨x1, y1, ?_⟩, ?_, ?_⟩, fun c hcm => ?_⟩
    · rw [I.tuple_inj hl hus]
      exact hu
    · rw [I.list_inj hl hvs]
      exact hv
    · exact (sb.2 _ D.TIz).trans (hk t _ D.TIz D.TITO D.TIi1 D.TIi2 g2)
    · exact (sb.2 _ D.TOz).trans o'
    · exact st1.1.at fun ob e => (sb.2 _ D.i1z).trans e
    · exact st2.1.at fun ob e => (sb.2 _ D.i2z).trans e
    · have lt : c < s.heap.objs.size := by
        refine five (P := fun c => c < s.heap.objs.size) hcm hzl (Heap.lt_size g2) (Heap.lt_size g3) ?_ ?_
        · obtain ⟨_, e1, _⟩ := g4
          exact Heap.lt_size e1
        · obtain ⟨_, e1, _⟩ := g5
          exact Heap.lt_size e1
      rw [upd_ne (Nat.ne_of_lt lt)]
      exact (hf c hcm).1
  done := by
    intro X hP hw hK hc n pins s σ H E I hf st hg
    subst hP hw hK
    obtain ⟨g1, g2, ⟨u0, v0, g3⟩, g4, g5⟩ := st
    obtain ⟨us, vs, hus, hvs, le1, le2, hend⟩ := hg
    obtain ⟨its, r1, p1, _⟩ := I.tuple hus
    obtain ⟨its2, r2, p2, _⟩ := I.list hvs
    have l1 : its.toArray.size = us.length := by rw [List.size_toArray, r1.length]
    have l2 : its2.toArray.size = vs.length := by rw [List.size_toArray, r2.length]
    have hh : X.A.in1.handled = none := I.ok.hd hc
    exact wpAny_pyNext_zipD2_end (sepTL D) (Draws.tuple hh i p D.l1i1 its.toArray) (Draws.list hh j q D.l2i2 its2.toArray) g1 g2 g3 ⟨g4, p1⟩ ⟨g5, p2.isList⟩ (by omega) (by omega) (by omega) fun h' tk hk =>
      ⟨rfl, I.turnedL (t' := tk) (ch := [z, t, o, i, j]) (fun c ob nc e => by
        simp only [List.mem_cons, List.not_mem_nil, or_false, not_or] at nc
        exact hk c ob nc.1 nc.2.2.1 nc.2.2.2.1 nc.2.2.2.2 e) hf⟩
  self := fun A n s Q E st h => wpAny_pyIter_zip st.1 h
/-- zip(e, e2), e a tuple and e2 a list -/
def iTL (K : PySem.W.Frag) (ta : TA) : TI := fun σ H R => ta σ H fun vs H1 => ∃ p q us ws, vs = [.ref p, .ref q] ∧ SqT K H1 p us ∧ SqL K H1 q ws ∧ R (ItTL K p q) H1
theorem pi_TL {X : Cx} {e e2 : Expr} {ta : TA} {p1 pos tpos : Pos} {es : List Expr} {k : Nat} (hg : Gl X "zip") (hm : X.mg "zip" = none) (ha : PA X [e, e2] ta)
    (hs : starEach [e, e2] X.env = (false, eval e X.env) :: starEach [e2] X.env := by rfl) (hpl : (backTo pos (starEach [e2] X.env)).any (·.1) = false := by rfl) :
    PI X (.Tuple es k tpos) (.Call (.Name "zip" p1) [e, e2] [] pos) (iTL X.K ta) := by
  refine ⟨fun pins s σ H R I h => Call_ (ld_blt I hg hm PyProof.Rows.boot_zip (PyProof.Rows.callWith_type1 (thn (ha.run pos pins s σ H _ I h) fun us s1 ⟨vs, H1, I1, r1, q1⟩ => ?_) hs hpl))⟩
  obtain ⟨p, q, xs, ys, rfl, hx, hy, g⟩ := q1
  have e3 : us = [.ref p, .ref q] := by
    cases r1 with
    | cons a b =>
      cases b with
      | cons c d =>
        cases d
        cases a
        cases c
        rfl
  subst e3
  obtain ⟨its, rx, px, _⟩ := I1.tuple hx
  obtain ⟨its2, ry, py, _⟩ := I1.list hy
  have lp : p < s1.heap.objs.size := by
    obtain ⟨_, e1, _⟩ := id px
    exact Heap.lt_size e1
  refine zip_begins2 (begins_tuple p its.toArray) (begins_list q its2.toArray) px py.isList fun h' hz hTI hTO h1 h2 hsz hk => wpAny_pyIter_zip hz ?_
  have I2 : Inv X pins σ H1 { s1 with heap := h' } := I1.kept (t' := s1.toks) hk
  refine ⟨s1.heap.objs.size + 4, [s1.heap.objs.size + 4, s1.heap.objs.size + 2, s1.heap.objs.size + 3, s1.heap.objs.size, s1.heap.objs.size + 1], _, _, H1, rfl, I2,
    turnTL (PySem.W.ktu_apart s1.heap.objs.size p q lp py.lt), ⟨hz, hTI, ⟨_, _, hTO⟩, ⟨_, h1, rfl, rfl⟩, ⟨_, h2, rfl, rfl⟩⟩, fun c hcm => ?_, g⟩
  have le : s1.heap.objs.size ≤ c := five (P := fun c => s1.heap.objs.size ≤ c) hcm (Nat.le_add_right _ _) (Nat.le_add_right _ _) (Nat.le_add_right _ _) (Nat.le_refl _) (Nat.le_add_right _ _)
  exact I1.fpOk le (I1.hok.fresh le)
/-- a comprehension over it -/
theorem walkTL {K : PySem.W.Frag} {p q : Addr} {us vs : List V} (e : us.length = vs.length) : Walk (ItTL K p q) us.length (fun H => SqT K H p us ∧ SqL K H q vs) (YPair (fun n => us[n]?) (fun n => vs[n]?)) := by
  refine ⟨fun n _ hn g => ?_, fun _ g => ⟨us, vs, g.1, g.2, Nat.le_refl _, by omega, .inl rfl⟩, fun n H v H' _ g y => ?_⟩
  · have h2 : n < vs.length := by omega
    exact ⟨us, vs, us[n], vs[n], g.1, g.2, List.getElem?_eq_getElem hn, List.getElem?_eq_getElem h2⟩
  · obtain ⟨T, x, z, h1, h2, h3, h4, h5⟩ := y
    exact ⟨T, x, z, h1, h2, h3, h4 us g.1, h5 vs g.2⟩
end Xk
section
open PySem PySem.Spec PyProof.Rows L2
namespace Xk
variable {K : PySem.W.Frag} {σ : L2.St} {H : Hp} {Q : VK} {te : TE} {g : TG} {t : TT} {X : Cx}
theorem k_TL {e e2 : Expr} {ta : TA} {p1 pos tpos : Pos} {es : List Expr} {k : Nat} (hk : X.K = K) (hg : Gl X "zip") (hm : X.mg "zip" = none) (ha : PA X [e, e2] ta)
    (hs : starEach [e, e2] X.env = (false, eval e X.env) :: starEach [e2] X.env := by rfl) (hpl : (backTo pos (starEach [e2] X.env)).any (·.1) = false := by rfl) :
    PI X (.Tuple es k tpos) (.Call (.Name "zip" p1) [e, e2] [] pos) (iTL K ta) := hk ▸ pi_TL hg hm ha hs hpl
def rLcZ (K : PySem.W.Frag) (g : TG) (tt : TT) (te : TE) (vs : List Nat) (σ : L2.St) (Q : VK) : List V → Hp → Prop := fun zs H1 => ∃ p q us ws, zs = [.ref p, .ref q] ∧ SqT K H1 p us ∧ SqL K H1 q ws ∧ RLc (ItTL K p q) g tt te vs σ Q H1
theorem x_lcZ1 {tr : TA} {vs : List Nat} (q : tr σ H (rLcZ K g t te vs σ Q)) : tLc (iTL K tr) g t te vs σ H Q := q
theorem x_lcZ {a b : Addr} {us ws : List V} {vs : List Nat} (Pv : Addr → Nat → Hp → Prop) (e : us.length = ws.length) (hx : SqT K H a us) (hy : SqL K H b ws) (h0 : ∀ Dl, Fr Dl H → Pv Dl 0 (upd H Dl (.lst [])))
    (hl : ∀ Dl i H', Fr Dl H → Pv Dl i H' → SqT K H' a us ∧ SqL K H' b ws)
    (hs : ∀ Dl, Fr Dl H → ∀ i x y H1 T H', us[i]? = some x → ws[i]? = some y → Pv Dl i H1 → Fr T H1 → Same H1 H' → H' T = some (.tup [x, y]) → g (.ref T) (wipe σ vs) H' fun σ2 H2 => wipe σ2 vs = wipe σ vs ∧ t σ2 H2 fun c H3 =>
      if c = true then te σ2 H3 fun y H4 => ∃ acc, H4 Dl = some (.lst acc) ∧ acc.length < sizeLine ∧ Pv Dl (i + 1) (upd H4 Dl (.lst (acc ++ [y]))) else Pv Dl (i + 1) H3)
    (hd : ∀ Dl H', Fr Dl H → Pv Dl us.length H' → Q (.ref Dl) H') : rLcZ K g t te vs σ Q [.ref a, .ref b] H := ⟨a, b, us, ws, rfl, hx, hy, fun Dl hD =>
  lc_it (walkTL e) (Pv Dl) (h0 Dl ⟨hD⟩) (fun i H' _ p => hl Dl i H' ⟨hD⟩ p) (fun i x H1 H' hi p y => by
    obtain ⟨T, u, v, rfl, hT, rfl, e1, e2⟩ := y
    exact hs Dl ⟨hD⟩ i u v H1 T _ e1 e2 p ⟨hT⟩ (same_new hT) upd_same) (fun H' p => hd Dl H' ⟨hD⟩ p)⟩
/-- texts in order -/
def nLtS : R2 := fun x y H Q => ∃ i j, x = .str i ∧ y = .str j ∧ Q (.bl (decide (i.cps.toList < j.cps.toList))) H
def nLeS : R2 := fun x y H Q => ∃ i j, x = .str i ∧ y = .str j ∧ Q (.bl (!decide (j.cps.toList < i.cps.toList))) H
theorem op_nLtS : OpR X (compareOp .Lt) nLtS := op_lt_str
theorem op_nLeS : OpR X (compareOp .LtE) nLeS := op_le_str
def rPar (i j : Nat) (σ : L2.St) (R : L2.St → Hp → Prop) : List V → Hp → Prop := fun vs H1 => ∃ v w, vs = [v, w] ∧ R ((σ.set i (some v)).set j (some w)) H1
theorem x_spar {i j : Nat} {ta : TA} {tz : TS} {D : Ends} (q : ta σ H (rPar i j σ (tz D))) : tSeq (tPar i j ta) tz D σ H := q
theorem x_par {i j : Nat} {ta : TA} {D : Ends} (q : ta σ H (rPar i j σ D.nx)) : tPar i j ta D σ H := q
theorem x_rPar {i j : Nat} {R : L2.St → Hp → Prop} {v u : V} (q : R ((σ.set i (some v)).set j (some u)) H) : rPar i j σ R [v, u] H := ⟨v, u, rfl, q⟩
def nGeS : R2 := fun x y H Q => ∃ i j, x = .str i ∧ y = .str j ∧ Q (.bl (!decide (i.cps.toList < j.cps.toList))) H
theorem op_nGeS : OpR X (compareOp .GtE) nGeS := op_ge_str
theorem x_nGeS {i j : Str} (q : Q (.bl (!decide (i.cps.toList < j.cps.toList))) H) : nGeS (.str i) (.str j) H Q := ⟨i, j, rfl, rfl, q⟩
theorem x_nLtS {i j : Str} (q : Q (.bl (decide (i.cps.toList < j.cps.toList))) H) : nLtS (.str i) (.str j) H Q := ⟨i, j, rfl, rfl, q⟩
theorem x_nLeS {i j : Str} (q : Q (.bl (!decide (j.cps.toList < i.cps.toList))) H) : nLeS (.str i) (.str j) H Q := ⟨i, j, rfl, rfl, q⟩
theorem x_ext {l b : Addr} {xs zs : List V} (h : H l = some (.lst xs)) (h' : H b = some (.lst zs)) (hz : xs.length + zs.length ≤ 100000) (q : Q .non (upd H l (.lst (xs ++ zs)))) : rExtend (.ref l) [.ref b] H Q := ⟨l, b, xs, zs, rfl, rfl, h, h', size_ok hz, q⟩
theorem x_sortS {a : Addr} {xs : List Str} (h : SqL K H a (xs.map V.str)) (hl : xs.length < 64) (k : ∀ p H2 (ys : List Str), ys.Perm xs → sortedS ys = true → Fr p H → Same H H2 → H2 p = some (.lst (ys.map V.str)) → Q (.ref p) H2) : rSortedS K [.ref a] H Q :=
  ⟨a, xs, rfl, h, hl, fun ys p h1 h2 hp => k p _ ys h1 h2 ⟨hp⟩ (same_new hp) upd_same⟩
end Xk
end
namespace Xk
open PySem PySem.Spec PyProof.Rows L2
theorem k_fld {X : Cx} {K : PySem.W.Frag} {e : Expr} {f : Str} {pos : Pos} {ta : TE} (hk : X.K = K) (he : PE X e ta) (hb : attributeBase e f X.env (eval e X.env) = eval e X.env) : PE X (.Attribute e f pos) (tFld K ta f) := hk ▸ pe_fld he hb
end Xk
namespace Xk
open PySem PySem.Spec PyProof.Rows L2
def rSubSl (x v : V) (l u : Option Int) (σ : L2.St) (R : L2.St → Hp → Prop) : Hp → Prop := fun H3 => ∃ (a b : Addr) (xs ys : List V) (i j : Int), x = .ref a ∧ v = .ref b ∧ l = some i ∧ u = some j ∧
  H3 a = some (.lst xs) ∧ H3 b = some (.lst ys) ∧ a ≠ b ∧ 0 ≤ i ∧ i ≤ j ∧ j ≤ xs.length ∧ xs.length + ys.length ≤ sizeLine ∧ R σ (upd H3 a (.lst (xs.take i.toNat ++ ys ++ xs.drop j.toNat)))
theorem x_gSubSl {to : TE} {tl th : TO} {v : V} {σ : L2.St} {H : Hp} {R : L2.St → Hp → Prop} (q : to σ H fun x H1 => tl σ H1 fun l H2 => th σ H2 fun u H3 => rSubSl x v l u σ R H3) : gSubSl to tl th v σ H R := q
theorem x_rSubSl {a b : Addr} {xs ys : List V} {i j : Int} {n m : Nat} {σ : L2.St} {H : Hp} {R : L2.St → Hp → Prop} (h : H a = some (.lst xs)) (h' : H b = some (.lst ys)) (ne : a ≠ b) (hi : i = (n : Int)) (hj : j = (m : Int)) (nm : n ≤ m) (hm : m ≤ xs.length) (hz : xs.length + ys.length ≤ 100000)
    (q : R σ (upd H a (.lst (xs.take n ++ ys ++ xs.drop m)))) : rSubSl (.ref a) (.ref b) (some i) (some j) σ R H := by
  refine ⟨a, b, xs, ys, i, j, rfl, rfl, rfl, rfl, h, h', ne, by omega, by omega, by omega, size_ok hz, ?_⟩
  rw [hi, hj, Int.toNat_natCast, Int.toNat_natCast]
  exact q
end Xk
/-! enumerate of a tuple -/
namespace Xk
open PySem PySem.Spec PyProof.Rows L2
theorem wp_ite {M : Model} {A : Around} {E : Value → Shared → Prop} {s : Shared} {α : Type} {c : Prop} [Decidable c] {a b : Sem α} {Q : α → Shared → Prop} (h1 : wpAny M A a Q E s) (h2 : wpAny M A b Q E s) : wpAny M A (if c then a else b) Q E s := by
  by_cases h : c
  · exact wpAny_ite_true (decide_eq_true h) h1
  · exact wpAny_ite_false (decide_eq_false h) h2
theorem enumT0 {prog : Program} {w : World} {A : Around} {E : Value → Shared → Prop} {R : Fin → Shared → Prop} {s : Shared} {v : Value} {o : Obj} {H : Heap → Prop} (b : Begins v o H) (h1 : H s.heap)
  (h2 : R (Fin.done (Flow.ret (Value.ref (s.heap.push o).objs.size)))
        { heap := (s.heap.push o).push { cls := Value.type "enumerate", data := Data.fields #[Value.none, Value.bool false, Value.ref s.heap.objs.size, rawInt 0, Value.none, Value.none] },
          gens := s.gens, drawn := s.drawn, toks := s.toks, os := s.os }) :
  wpAny (model prog w) A (do
      let it ← pyIter v
      let r ← Builtin.SmallTypes.newRecord (Value.type "enumerate") (Builtin.SmallTypes.ownedTupleFields ++ [it, rawInt 0, Value.none, Value.none])
      ret r) R E s := by
  refine wpAny_bind (b.iter prog w A _ s _ h1 ?_)
  refine wpAny_bind ?_
  refine wpAny_bind (wpAny_alloc' ?_)
  refine wpAny_pure ?_
  exact wpAny_pure h2
theorem enumT1 {v : Value} {o : Obj} {H : Heap → Prop} (b : Begins v o H) : Meets (Builtin.«enumerate.__new__» { pos := [.type "enumerate", v] }) fun A R s => H s.heap ∧
   R (Except.ok (Flow.ret (Value.ref (s.heap.push o).objs.size)))
        { heap := (s.heap.push o).push { cls := Value.type "enumerate", data := Data.fields #[Value.none, Value.bool false, Value.ref s.heap.objs.size, rawInt 0, Value.none, Value.none] },
          gens := s.gens, drawn := s.drawn, toks := s.toks, os := s.os } := by
  intro prog w A R s hs
  obtain ⟨h1, h2⟩ := hs
  refine wpAny_bind ?_
  refine wpAny_bind ?_
  refine wpAny_of_eq (a := true) rfl ?_
  refine wpAny_ite_false rfl ?_
  refine wpAny_bind ?_
  refine wpAny_of_eq sub_enumerate ?_
  refine wpAny_ite_false rfl ?_
  refine wpAny_pure ?_
  refine wpAny_ite_true (by decide) ?_
  refine wpAny_bind ?_
  refine wpAny_bind (wpAny_stack_any fun st => wpAny_pure ?_)
  refine wp_ite ?_ ?_
  · refine wpAny_bind ?_
    refine wpAny_of_eq (a := (v, none)) rfl ?_
    exact enumT0 b h1 h2
  · refine wpAny_bind ?_
    refine wpAny_of_eq (a := (v, none)) rfl ?_
    exact enumT0 b h1 h2
theorem enum_one {prog : Program} {w : World} {A : Around} {E : Value → Shared → Prop} {s : Shared} {v : Value} {o : Obj} {H : Heap → Prop} {Q : Value → Shared → Prop} (b : Begins v o H) (h1 : H s.heap)
  (q : ∀ h' : Heap, IsEnum h' (s.heap.objs.size + 1) s.heap.objs.size 0 Value.none → h'.get? s.heap.objs.size = some o → h'.objs.size = s.heap.objs.size + 2 → (∀ (b : Addr) (o : Obj), s.heap.get? b = some o → h'.get? b = some o) →
     Q (Value.ref (s.heap.objs.size + 1)) { heap := h', gens := s.gens, drawn := s.drawn, toks := s.toks, os := s.os }) :
  wpAny (model prog w) A (call (Value.type "enumerate") [v]) Q E s := by
  refine callType_new F.called_enumerate (by decide) (F.typeCall_enumerate_1 v) (F.newCall_enumerate_1 v) (fun obj => F.args_object_init_2 obj v) F.entry_enumerate_new (enumT1 b) ⟨h1, ?_⟩
  have e1 : (s.heap.push o).objs.size = s.heap.objs.size + 1 := by rw [Heap.size_push]
  have g : ((s.heap.push o).push { cls := Value.type "enumerate", data := Data.fields #[Value.none, Value.bool false, Value.ref s.heap.objs.size, rawInt 0, Value.none, Value.none] }).get? (s.heap.push o).objs.size = some { cls := Value.type "enumerate", data := Data.fields #[Value.none, Value.bool false, Value.ref s.heap.objs.size, rawInt 0, Value.none, Value.none] } := Heap.get?_push_size _ rfl
  refine ⟨?_, ?_⟩
  · rw [e1] at g ⊢
    exact ⟨_, g, rfl⟩
  · rw [e1] at g ⊢
    refine q _ g ?_ (by rw [Heap.size_push, Heap.size_push]) fun b' o' e => Heap.get?_push_of_some _ (Heap.get?_push_of_some _ e)
    exact Heap.get?_push_of_some _ (Heap.get?_push_size _ b.free)
/-- a tuple at a, each item with its number -/
def ItET (K : PySem.W.Frag) (a : Addr) : It where
  go := fun i H => ∃ (xs : List V) (x : V), SqT K H a xs ∧ xs[i]? = some x
  yld := fun i H v H' => ∃ T x, v = .ref T ∧ H T = none ∧ H' = upd H T (.tup [.int (i : Nat), x]) ∧ ∀ xs : List V, SqT K H a xs → xs[i]? = some x
  stop := fun i H => ∃ xs : List V, SqT K H a xs ∧ i = xs.length
theorem turnET {P : Program} {w : World} {K : PySem.W.Frag} {es : List Expr} {k : Nat} {pos : Pos} {a e it : Addr} (d1 : e ≠ it) (d2 : a ≠ it) (d3 : e ≠ a) :
    Turn P w K (.Tuple es k pos) (ItET K a) [e, it] e (fun i h => (∃ old, IsEnum h e it (i : Nat) old) ∧ h.IsTupleIter it a i) where
  mem := List.mem_cons_self
  obj := fun n h st c hc => by
    obtain ⟨⟨old, g1⟩, ⟨o1, e1, _, dd1⟩⟩ := st
    simp only [List.mem_cons, List.not_mem_nil, or_false] at hc
    rcases hc with rfl | rfl
    · exact ⟨_, g1, fun _ e => nomatch e⟩
    · refine ⟨o1, e1, fun x e => ?_⟩
      rw [dd1] at e
      cases e
  keep := fun n h h' st g => by
    obtain ⟨⟨old, g1⟩, g2⟩ := st
    exact ⟨⟨old, g e (by simp) _ g1⟩, g2.at fun ob e => g it (by simp) ob e⟩
  item := by
    intro X hP hw hK hc n pins s σ H E I hf st hg
    subst hP hw hK
    obtain ⟨⟨old, g1⟩, g2⟩ := st
    obtain ⟨us, u, hus, hu⟩ := hg
    obtain ⟨its, r1, p1, _⟩ := I.tuple hus
    obtain ⟨x, hx, rx⟩ := r1.get hu
    have lt1 : n < its.toArray.size := by
      obtain ⟨b, _⟩ := List.getElem?_eq_some_iff.mp hx
      simpa using b
    have hzl : e < s.heap.objs.size := Heap.lt_size g1
    have hil : it < s.heap.objs.size := by
      obtain ⟨_, e1, _⟩ := id g2
      exact Heap.lt_size e1
    have hh : X.A.in1.handled = none := I.ok.hd hc
    refine wpAny_pyNext_enum_itemD (Draws.tuple hh it a d2 its.toArray) g1 ⟨g2, p1⟩ lt1 d1 (by simp [d1, d3]) fun x1 h' tk q1 eo st1 hT hsz hk => ?_
    have ex : x1 = x := by
      have e2 : its[n]? = some x1 := by simpa using q1
      exact Option.some.inj (e2.symm.trans hx)
    subst ex
    refine ⟨_, rfl, wpAny_letOwnedTupleGo_enum (s := { s with heap := h', toks := tk + 1 }) eo fun h2 z2 sb => ?_⟩
    have hT2 : h2.get? s.heap.objs.size = some { cls := .type "tuple", data := .seq #[Value.int (n : Nat) tk, x1] } := (sb.2 _ (Nat.ne_of_gt hzl)).trans hT
    have new : ObjOk X.prog X.w (upd H s.heap.objs.size (.tup [.int (n : Nat), u])) h2 s.heap.objs.size (.tup [.int (n : Nat), u]) :=
      ⟨by show 2 ≤ sizeLine; decide, [Value.int (n : Nat) tk, x1], .cons (by first | exact ⟨tk, rfl⟩ | exact rfl | constructor) (.cons rx .nil), ⟨_, hT2, rfl, _, rfl⟩⟩
    have kept : ∀ c ob, c ∉ [e, it] → s.heap.get? c = some ob → h2.get? c = some ob := fun c ob nc e => by
      simp only [List.mem_cons, List.not_mem_nil, or_false, not_or] at nc
      exact (sb.2 c nc.1).trans (hk c ob nc.1 nc.2 e)
    have I1 : Inv X pins σ (upd H s.heap.objs.size (.tup [.int (n : Nat), u])) { s with heap := h2, toks := tk + 1 } :=
      I.turnedNew (t' := tk + 1) (ch := [e, it]) kept hf (Nat.le_refl _) new
    refine ⟨.ref s.heap.objs.size, _, I1, rfl, ⟨_, u, rfl, I.hok.fresh (Nat.le_refl _), rfl, fun l hl => ?_⟩, ⟨⟨_, z2⟩, ?_⟩, fun c hcm => ?_⟩
    · rw [I.tuple_inj hl hus]
      exact hu
    · exact st1.1.at fun ob e => (sb.2 _ d1.symm).trans e
    · have lt : c < s.heap.objs.size := by
        simp only [List.mem_cons, List.not_mem_nil, or_false] at hcm
        rcases hcm with rfl | rfl
        · exact hzl
        · exact hil
      rw [upd_ne (Nat.ne_of_lt lt)]
      exact (hf c hcm).1
  done := by
    intro X hP hw hK hc n pins s σ H E I hf st hg
    subst hP hw hK
    obtain ⟨⟨old, g1⟩, g2⟩ := st
    obtain ⟨us, hus, rfl⟩ := hg
    obtain ⟨its, r1, p1, _⟩ := I.tuple hus
    have l1 : its.toArray.size = us.length := by rw [List.size_toArray, r1.length]
    have hh : X.A.in1.handled = none := I.ok.hd hc
    refine wpAny_pyNext_enum_endD (Draws.tuple hh it a d2 its.toArray) g1 (by rw [l1]; exact ⟨g2, p1⟩) fun h' hk => ?_
    exact ⟨rfl, I.turnedL (t' := s.toks) (ch := [e, it]) (fun c ob nc e => by
      simp only [List.mem_cons, List.not_mem_nil, or_false, not_or] at nc
      exact hk c ob nc.2 e) hf⟩
  self := fun A n s Q E st h => wpAny_pyIter_enum st.1.choose_spec h
/-- enumerate(e), e a tuple -/
def iET (K : PySem.W.Frag) (ta : TA) : TI := fun σ H R => ta σ H fun vs H1 => ∃ p us, vs = [.ref p] ∧ SqT K H1 p us ∧ R (ItET K p) H1
theorem pi_ET {X : Cx} {e : Expr} {ta : TA} {p1 pos tpos : Pos} {es : List Expr} {k : Nat} (hg : Gl X "enumerate") (hm : X.mg "enumerate" = none) (ha : PA X [e] ta)
    (hs : starEach [e] X.env = [(false, eval e X.env)] := by rfl) (hpl : (backTo pos (starEach [] X.env)).any (·.1) = false := by rfl) :
    PI X (.Tuple es k tpos) (.Call (.Name "enumerate" p1) [e] [] pos) (iET X.K ta) := by
  refine ⟨fun pins s σ H R I h => Call_ (ld_blt I hg hm PyProof.Rows.boot_enumerate (PyProof.Rows.callWith_type1 (thn (ha.run pos pins s σ H _ I h) fun us s1 ⟨vs, H1, I1, r1, q1⟩ => ?_) hs hpl))⟩
  obtain ⟨p, xs, rfl, hx, g⟩ := q1
  have e3 : us = [.ref p] := by
    cases r1 with
    | cons a b =>
      cases b
      cases a
      rfl
  subst e3
  obtain ⟨its, rx, px, _⟩ := I1.tuple hx
  have lp : p < s1.heap.objs.size := by
    obtain ⟨_, e1, _⟩ := id px
    exact Heap.lt_size e1
  refine enum_one (begins_tuple p its.toArray) px fun h' hz h1 hsz hk => wpAny_pyIter_enum hz ?_
  have I2 : Inv X pins σ H1 { s1 with heap := h' } := I1.kept (t' := s1.toks) hk
  refine ⟨s1.heap.objs.size + 1, [s1.heap.objs.size + 1, s1.heap.objs.size], _, _, H1, rfl, I2,
    turnET (Nat.succ_ne_self _) (Nat.ne_of_lt lp) (Nat.ne_of_gt (Nat.lt_succ_of_lt lp)), ⟨⟨_, hz⟩, ⟨_, h1, rfl, rfl⟩⟩, fun c hcm => ?_, g⟩
  have le : s1.heap.objs.size ≤ c := by
    simp only [List.mem_cons, List.not_mem_nil, or_false] at hcm
    rcases hcm with rfl | rfl
    · exact Nat.le_add_right _ _
    · exact Nat.le_refl _
  exact I1.fpOk le (I1.hok.fresh le)
/-- a comprehension over it -/
theorem walkET {K : PySem.W.Frag} {p : Addr} {us : List V} : Walk (ItET K p) us.length (fun H => SqT K H p us) (YPair (fun n => some (.int (n : Nat))) (fun n => us[n]?)) := by
  refine ⟨fun n _ hn g => ?_, fun _ g => ⟨us, g, rfl⟩, fun n H v H' _ g y => ?_⟩
  · exact ⟨us, us[n], g, List.getElem?_eq_getElem hn⟩
  · obtain ⟨T, x, h1, h2, h3, h4⟩ := y
    exact ⟨T, _, x, h1, h2, h3, rfl, h4 us g⟩
end Xk
section
open PySem PySem.Spec PyProof.Rows L2
namespace Xk
variable {K : PySem.W.Frag} {σ : L2.St} {H : Hp} {Q : VK} {te : TE} {g : TG} {t : TT} {X : Cx}
theorem k_ET {e : Expr} {ta : TA} {p1 pos tpos : Pos} {es : List Expr} {k : Nat} (hk : X.K = K) (hg : Gl X "enumerate") (hm : X.mg "enumerate" = none) (ha : PA X [e] ta)
    (hs : starEach [e] X.env = [(false, eval e X.env)] := by rfl) (hpl : (backTo pos (starEach [] X.env)).any (·.1) = false := by rfl) :
    PI X (.Tuple es k tpos) (.Call (.Name "enumerate" p1) [e] [] pos) (iET K ta) := hk ▸ pi_ET hg hm ha hs hpl
def rLcET (K : PySem.W.Frag) (g : TG) (tt : TT) (te : TE) (vs : List Nat) (σ : L2.St) (Q : VK) : List V → Hp → Prop := fun zs H1 => ∃ p us, zs = [.ref p] ∧ SqT K H1 p us ∧ RLc (ItET K p) g tt te vs σ Q H1
theorem x_lcET1 {tr : TA} {vs : List Nat} (q : tr σ H (rLcET K g t te vs σ Q)) : tLc (iET K tr) g t te vs σ H Q := q
theorem x_lcET {a : Addr} {us : List V} {vs : List Nat} (Pv : Addr → Nat → Hp → Prop) (hx : SqT K H a us) (h0 : ∀ Dl, Fr Dl H → Pv Dl 0 (upd H Dl (.lst [])))
    (hl : ∀ Dl i H', Fr Dl H → Pv Dl i H' → SqT K H' a us)
    (hs : ∀ Dl, Fr Dl H → ∀ i x H1 T H', us[i]? = some x → Pv Dl i H1 → Fr T H1 → Same H1 H' → H' T = some (.tup [.int (i : Nat), x]) → g (.ref T) (wipe σ vs) H' fun σ2 H2 => wipe σ2 vs = wipe σ vs ∧ t σ2 H2 fun c H3 =>
      if c = true then te σ2 H3 fun y H4 => ∃ acc, H4 Dl = some (.lst acc) ∧ acc.length < sizeLine ∧ Pv Dl (i + 1) (upd H4 Dl (.lst (acc ++ [y]))) else Pv Dl (i + 1) H3)
    (hd : ∀ Dl H', Fr Dl H → Pv Dl us.length H' → Q (.ref Dl) H') : rLcET K g t te vs σ Q [.ref a] H := ⟨a, us, rfl, hx, fun Dl hD =>
  lc_it walkET (Pv Dl) (h0 Dl ⟨hD⟩) (fun i H' _ p => hl Dl i H' ⟨hD⟩ p) (fun i x H1 H' hi p y => by
    obtain ⟨T, u, v, rfl, hT, rfl, e1, e2⟩ := y
    cases Option.some.inj e1
    exact hs Dl ⟨hD⟩ i v H1 T _ e2 p ⟨hT⟩ (same_new hT) upd_same) (fun H' p => hd Dl H' ⟨hD⟩ p)⟩
end Xk
end
/-! dict comprehensions over a tuple -/
section
open PySem PySem.Spec PyProof.Rows L2
namespace Xk
variable {K : PySem.W.Frag} {σ : L2.St} {H : Hp} {Q : VK} {tk tv : TE} {g : TG} {t : TT}
def RDc (J : It) (g : TG) (tt : TT) (tk tv : TE) (vs : List Nat) (σ : L2.St) (Q : VK) : Hp → Prop := fun H1 => ∀ D, H1 D = none → ∃ W : Nat → Nat → Hp → Prop, (∃ m, W 0 m (upd H1 D (.dK []))) ∧ ∀ i m H, W i m H →
  (J.stop i H ∧ Q (.ref D) H) ∨ (J.go i H ∧ ∃ Nx : Hp → Prop, (∀ H', Nx H' → ∃ m', m' < m ∧ W (i + 1) m' H') ∧ ∀ x H', J.yld i H x H' → g x (wipe σ vs) H' fun σ2 H2 => wipe σ2 vs = wipe σ vs ∧ tt σ2 H2 fun b H3 =>
    if b = true then tk σ2 H3 fun y H4 => tv σ2 H4 fun z H5 => ∃ kvs k, y = kV k ∧ H5 D = some (.dK kvs) ∧ kvs.length < sizeLine ∧ Nx (upd H5 D (.dK (putK kvs k z))) else Nx H3)
def rDcT (K : PySem.W.Frag) (g : TG) (tt : TT) (tk tv : TE) (vs : List Nat) (σ : L2.St) (Q : VK) : VK := fun x H1 => ∃ a, x = .ref a ∧ (∃ xs, SqT K H1 a xs) ∧ RDc (Itt K a) g tt tk tv vs σ Q H1
theorem x_dcT1 {tx : TE} {vs : List Nat} (q : tx σ H (rDcT K g t tk tv vs σ Q)) : tDc (iTup K tx) g t tk tv vs σ H Q := q
theorem x_dcT {a : Addr} {xs : List V} {vs : List Nat} (Pv : Addr → Nat → Hp → Prop) (hx : SqT K H a xs) (h0 : ∀ Dl, Fr Dl H → Pv Dl 0 (upd H Dl (.dK []))) (hl : ∀ Dl i H', Fr Dl H → Pv Dl i H' → SqT K H' a xs)
    (hs : ∀ Dl, Fr Dl H → ∀ i x H', xs[i]? = some x → Pv Dl i H' → g x (wipe σ vs) H' fun σ2 H2 => wipe σ2 vs = wipe σ vs ∧ t σ2 H2 fun b H3 =>
      if b = true then tk σ2 H3 fun y H4 => tv σ2 H4 fun z H5 => ∃ kvs k, y = kV k ∧ H5 Dl = some (.dK kvs) ∧ kvs.length < sizeLine ∧ Pv Dl (i + 1) (upd H5 Dl (.dK (putK kvs k z))) else Pv Dl (i + 1) H3)
    (hd : ∀ Dl H', Fr Dl H → Pv Dl xs.length H' → Q (.ref Dl) H') : rDcT K g t tk tv vs σ Q (.ref a) H := ⟨a, rfl, ⟨xs, hx⟩, fun Dl hD =>
  dc_tup (xs := xs) (Pv Dl) (h0 Dl ⟨hD⟩) (fun i H' _ p => hl Dl i H' ⟨hD⟩ p) (fun i x H' hi p => hs Dl ⟨hD⟩ i x H' hi p) (fun H' p => hd Dl H' ⟨hD⟩ p)⟩
end Xk
end
namespace Xk
open PySem PySem.Spec PyProof.Rows L2
section
variable {X : Cx}
/-- sorted(xs) of a list of data of one shape -/
def rSortX (K : PySem.W.Frag) : List V → Hp → VK → Prop := fun vs H Q => ∃ (a : Addr) (bs : List (V × PyData)), vs = [V.ref a] ∧ SqL K H a (bs.map (·.1)) ∧ (∀ b ∈ bs, Dp K H b.1 b.2 ∧ b.2.depth ≤ 9) ∧
  PySem.W.AllAlike (bs.map (·.2)) ∧ PySem.W.Sortable (bs.map (·.2)) ∧ ∀ p, H p = none → Q (.ref p) (upd H p (.lst ((bs.mergeSort (PySem.W.dataLe false (·.2))).map (·.1))))
theorem eachV {R : Value → PyData → Prop} : ∀ {its : List Value} {bs : List (V × PyData)}, Vals (bs.map (·.1)) its → (∀ b ∈ bs, ∀ u, RelV b.1 u → R u b.2) → PySem.W.EachIs (fun u (b : V × PyData) => RelV b.1 u ∧ R u b.2) its bs
  | its, [], h, _ => by cases h; exact .nil
  | its, b :: r, h, hr => by
    cases h with
    | cons h1 h2 => exact .cons ⟨h1, hr b (List.mem_cons_self ..) _ h1⟩ (eachV h2 fun c hc => hr c (List.mem_cons_of_mem _ hc))
theorem eachB {R : Value → PyData → Prop} : ∀ {its : List Value} {bs : List (V × PyData)}, PySem.W.EachIs (fun u (b : V × PyData) => RelV b.1 u ∧ R u b.2) its bs → Vals (bs.map (·.1)) its
  | _, _, .nil => .nil
  | _, _, .cons h t => .cons h.1 (eachB t)
theorem k_sortX0 (hu : X.A.units + 64 < cLine) : CallR X (.builtin "sorted") (rSortX X.K) := by
  intro pins s σ H vs us Q I r h
  obtain ⟨a, bs, rfl, hs, hd, hal, hk, q⟩ := h
  obtain ⟨its, rv, hl, hz⟩ := I.list hs
  rw [Vals.ref1 r]
  have e := eachV (R := fun u d => ∃ as, Reads s.heap u d as) rv fun b hb u ru => Dp.reads I b.2 b.1 u (hd b hb).1 ru
  have hlen : bs.length ≤ sizeLine := by rw [List.length_map] at hz; exact hz
  refine PySem.W.sorted_data (enc := fun b : V × PyData => b.2) hl.isList e (e.mono fun _ _ h => h.2) hal hk hlen (fun b hb => ?_) fun out ho eo => ?_
  · have := (hd b hb).2
    omega
  · obtain ⟨ep, he'⟩ := PyProof.Rows.sortedAll_at s.heap its out.toArray
    have hlen2 : ((bs.mergeSort (PySem.W.dataLe false (·.2))).map (·.1)).length ≤ sizeLine := by rw [List.length_map, List.length_mergeSort]; exact hlen
    exact ⟨.ref _, upd H (s.heap.objs.size + 1) (.lst ((bs.mergeSort (PySem.W.dataLe false (·.2))).map (·.1))), I.laid (t' := s.toks) (fun _ _ => PyProof.Rows.sortedAll_old) (Nat.le_succ _) ⟨hlen2, out, ep, eachB (R := fun u d => ∃ as, Reads s.heap u d as) eo, he'⟩, rfl, q _ (I.hok.fresh (Nat.le_succ _))⟩
/-- data compared -/
def rLtD (K : PySem.W.Frag) : R2 := fun x y H Q => ∃ d e, Dp K H x d ∧ Dp K H y e ∧ PySem.W.alike d e = true ∧ d ≠ .none ∧ d.depth ≤ 60 ∧ Q (.bl (PySem.W.dataLt d e)) H
def rLeD (K : PySem.W.Frag) : R2 := fun x y H Q => ∃ d e, Dp K H x d ∧ Dp K H y e ∧ PySem.W.alike d e = true ∧ d ≠ .none ∧ d.depth ≤ 60 ∧ Q (.bl (!PySem.W.dataLt e d)) H
theorem k_ltD0 (hu : X.A.units + 64 < cLine) : OpR X (compareOp .Lt) (rLtD X.K) := by
  intro pins s σ H x y v u Q I rx ry h
  obtain ⟨d, e, hd, he, ha, hn, hz, q⟩ := h
  obtain ⟨as, r1⟩ := Dp.reads I d x v hd rx
  obtain ⟨bs, r2⟩ := Dp.reads I e y u he ry
  exact PySem.W.rcLt_alike d e X.A s v u as bs r1 r2 ha hn (by have := Nat.min_le_left d.depth e.depth; omega) X.prog X.w X.xe (EP X pins σ Q) ⟨.bl _, H, I, rfl, q⟩
theorem k_leD0 (hu : X.A.units + 64 < cLine) : OpR X (compareOp .LtE) (rLeD X.K) := by
  intro pins s σ H x y v u Q I rx ry h
  obtain ⟨d, e, hd, he, ha, hn, hz, q⟩ := h
  obtain ⟨as, r1⟩ := Dp.reads I d x v hd rx
  obtain ⟨bs, r2⟩ := Dp.reads I e y u he ry
  exact PySem.W.rcLe_alike d e X.A s v u as bs r1 r2 ha hn (by have := Nat.min_le_left d.depth e.depth; omega) X.prog X.w X.xe (EP X pins σ Q) ⟨.bl _, H, I, rfl, q⟩
theorem k_sortX {K : PySem.W.Frag} (hu : X.A.units + 64 < cLine) (e : X.K = K) : CallR X (.builtin "sorted") (rSortX K) := e ▸ k_sortX0 hu
theorem k_ltD {K : PySem.W.Frag} (hu : X.A.units + 64 < cLine) (e : X.K = K) : OpR X (compareOp .Lt) (rLtD K) := e ▸ k_ltD0 hu
theorem k_leD {K : PySem.W.Frag} (hu : X.A.units + 64 < cLine) (e : X.K = K) : OpR X (compareOp .LtE) (rLeD K) := e ▸ k_leD0 hu
end
end Xk

/-! dicts whose keys are tuples: setdefault, sorted -/
namespace Xk
open PySem PySem.Spec PyProof.Rows L2
section
variable {X : Cx} {pins : List (Addr × Obj)} {σ : L2.St} {H : Hp} {s : Shared} {a b : Addr} {r : Value} {d : V} {k : List Key} {A : Around} {E : Value → Shared → Prop}
theorem d_setdT {kvs : List (List Key × V)} {Q : Value → Shared → Prop} (hu : A.units + 1 < cLine) (I : Inv X pins σ H s) (e : H a = some (.dT kvs)) (eb : H b = some (.tup (k.map kV))) (rd : RelV d r) (hl : kvs.length < sizeLine)
    (h1 : ∀ v, valV kvs k = some v → ∀ (w' : Value) (s' : Shared), Inv X pins σ H s' → RelV v w' → Q w' s') (h2 : valV kvs k = none → ∀ (w' : Value) (s' : Shared), Inv X pins σ (upd H a (.dT (putK kvs k d))) s' → RelV d w' → Q w' s') :
    wpAny (model X.prog X.w) A (call (.builtin "dict.setdefault") [.ref a, .ref b, r]) Q E s := by
  obtain ⟨z, hd, xs, rel, dd⟩ := dt_of I.hok e
  have hz : xs.length ≤ sizeLine := by rw [← Paired.length rel]; exact z
  refine call_setdefault_heap (knd := tupleKind (mixKind X.prog X.w)) (hsz := hz) (tupleKind_room_in1 hu) (key_of I.hok eb) hd dd (fun p hp => ?_) fun hn h' dd' hs => ?_
  · have q := rel.val k
    rw [hp] at q
    cases q0 : valV kvs k with
    | none =>
      rw [q0] at q
      exact (show False from q).elim
    | some v0 =>
      rw [q0] at q
      exact h1 v0 q0 _ _ (I.tok _) q
  · have q := rel.val k
    rw [hn] at q
    cases q0 : valV kvs k with
    | some v0 =>
      rw [q0] at q
      exact (show False from q).elim
    | none =>
      have hl2 : (putK kvs k d).length ≤ sizeLine := by
        have := length_putK kvs k d
        omega
      obtain ⟨q, es, ep, hq, g2, g3, g4, _, g5⟩ := dd'
      refine h2 q0 _ _ (d_write I (by rw [e]; exact True.intro) hs ⟨q, hq⟩ ⟨hl2, hd, _, (rel.put k eb rd).keeps fun c ys ec => ?_, q, es, ep, hq, g2, g3, g4, g5⟩) rd
      rw [upd_ne (ne_of ec e (fun z => nomatch z))]
      exact ec
end
/-- d.setdefault(y, z), tuple keys -/
def rDSetT (a : Addr) (y z : V) (Q : VK) (H3 : Hp) : Prop := ∃ (kvs : List (List Key × V)) (k : List Key) (b : Addr), H3 a = some (.dT kvs) ∧ y = .ref b ∧ H3 b = some (.tup (k.map kV)) ∧ kvs.length < sizeLine ∧
  (∀ v, valV kvs k = some v → Q v H3) ∧ (valV kvs k = none → Q z (upd H3 a (.dT (putK kvs k z))))
def tDSetT (td ty tx : TE) : TE := fun σ H Q => td σ H fun x H1 => ∃ a kvs, x = .ref a ∧ H1 a = some (.dT kvs) ∧ ty σ H1 fun y H2 => tx σ H2 fun z H3 => rDSetT a y z Q H3
section
variable {X : Cx} {o e f : Expr} {td ty tx : TE} {apos cpos : Pos}
theorem pe_dsetT (hu : X.A.units + 1 < cLine) (ho : PE X o td) (he : PE X e ty) (hf : PE X f tx) (m : M2 X o "setdefault" apos e f cpos) : PE X (.Call (.Attribute o "setdefault" apos) [e, f] [] cpos) (tDSetT td ty tx) := by
  refine ⟨fun pins s σ H Q I h => ?_⟩
  refine wpAny_Call_method m.base m.few m.line PySem.F.plainAttrs_dict PySem.F.slot_dict_setdefault PySem.F.type_dict_setdefault (thn (ho.run pins s σ H _ I h) fun u s1 ⟨x, H1, I1, rx, a, kvs, ex, d, q1⟩ => ?_)
  subst ex
  obtain rfl : u = Value.ref a := rx
  have hty : s1.TypeIs (.ref a) "dict" := by
    obtain ⟨_, _, xs, _, dd⟩ := dt_of I1.hok d
    exact dd.typeIs
  have hnd : ∀ b, Value.ref a = .ref b → ∃ ob, s1.heap.get? b = some ob ∧ ob.dict = none := fun b q => by
    cases q
    obtain ⟨_, _, xs, _, ob, _, _, h1, h2, _⟩ := dt_of I1.hok d
    exact ⟨ob, h1, h2.2.1⟩
  refine ⟨hty, hnd, ?_⟩
  rw [m.trees]
  refine Calls.callWith_builtin rfl (Calls.evalArgs_plain (Calls.spliced_cons (thn (he.run pins s1 σ H1 _ I1 q1) fun iv s2 ⟨y, H2, I2, ry, q2⟩ =>
    Calls.spliced_cons (thn (hf.run pins s2 σ H2 _ I2 q2) fun fv s3 ⟨z, H3, I3, rz, kvs, k, b, ea, ey, eb, hl, q3, q4⟩ => Calls.spliced_nil ?_))))
  subst ey
  obtain rfl : iv = Value.ref b := ry
  exact d_setdT hu I3 ea eb rz hl (fun v hv w' s4 I4 rw' => ⟨v, _, I4, rw', q3 v hv⟩) fun hn w' s4 I4 rw' => ⟨z, _, I4, rw', q4 hn⟩
end
/-- sorted(d), the keys tuples of ints: the keys' own tuples, ascending -/
def rSortT (xs : List V) (H : Hp) (Q : VK) : Prop := ∃ (d : Addr) (kvs : List (List Key × V)) (ks : List (List Int)), xs = [.ref d] ∧ H d = some (.dT kvs) ∧ kvs.map (·.1) = ks.map (fun k => k.map Sum.inl) ∧ (∀ k ∈ ks, k ≠ []) ∧ ks.length ≤ 1000 ∧
  ∀ (p : Addr) (zs : List (Addr × List Int)), H p = none → (zs.map (·.2)).Perm ks → (zs.map (·.2)).Pairwise (· ≤ ·) → (∀ z ∈ zs, H z.1 = some (.tup (z.2.map V.int))) → Q (.ref p) (upd H p (.lst (zs.map fun z => V.ref z.1)))
theorem kt_list {H : Hp} : ∀ {kvs : List (List Key × V)} {ts : List (List Key × Addr × Value)} {ks : List (List Int)}, KT H kvs ts → kvs.map (·.1) = ks.map (fun k => k.map Sum.inl) →
    ∃ L : List (Addr × List Int), L.map (·.1) = ts.map (fun x => x.2.1) ∧ L.map (·.2) = ks ∧ ∀ e ∈ L, H e.1 = some (.tup (e.2.map V.int))
  | [], _, ks, r, e => by
    cases r
    cases ks with
    | nil => exact ⟨[], rfl, rfl, fun e he => by cases he⟩
    | cons k r => cases e
  | p :: kvs, _, ks, r, e => by
    cases ks with
    | nil => cases e
    | cons k ks =>
      rw [List.map_cons, List.map_cons] at e
      injection e with e1 e2
      cases r with
      | @cons _ q _ qs h t =>
        obtain ⟨L, h1, h2, h3⟩ := kt_list t e2
        refine ⟨(q.2.1, k) :: L, by rw [List.map_cons, List.map_cons, h1], by rw [List.map_cons, h2], fun x hx => ?_⟩
        rcases List.mem_cons.mp hx with rfl | hx
        · have z := h.2.1
          rw [e1, List.map_map] at z
          exact z
        · exact h3 x hx
theorem reads_ints {h : Heap} : ∀ {ns : List Int} {us : List Value}, Vals (ns.map V.int) us → ReadsAll h us (ns.map PyData.int) []
  | [], _, r => by
    cases r
    exact .nil
  | n :: ns, _, r => by
    cases r with
    | cons r1 r2 =>
      obtain ⟨t, rfl⟩ := r1
      exact ReadsAll.cons (Reads.int n t) (reads_ints r2)
theorem tup_dataLe (x : Addr × List Int → List Int) : PySem.W.dataLe false (fun b : Addr × List Int => PyData.tuple ((x b).map .int)) = fun p q => decide (x p ≤ x q) := by
  rw [PySem.W.dataLe_eq]
  funext p q
  show (!PySem.W.dataLt _ _) = _
  rw [PySem.W.dataLt_tuple]
  have h := PySem.W.dataLt_ints (x q) (x p)
  unfold PySem.W.rowLt at h
  rw [h, ← decide_not]
  exact decide_eq_decide.mpr List.not_lt
section
variable {X : Cx}
theorem k_sortT (hcalm : X.calm = true) (hu : X.A.units + 64 < cLine) : CallR X (.builtin "sorted") rSortT := by
  intro pins s σ H xs us Q I r h
  obtain ⟨d, kvs, ks, rfl, hd, hks, hne, hl, q⟩ := h
  obtain ⟨u, rfl, rx⟩ := vals1 r
  cases rx
  obtain ⟨z, hs, ts, pr, o, es, ep, ho, hx, hdt, he, hn⟩ := (show ObjOk X.prog X.w H s.heap d (.dT kvs) from I.hok d _ hd)
  have l1 : es.size = ts.length := size_of_entries he
  have l2 : kvs.length = ts.length := Paired.length pr
  obtain ⟨L, hL1, hL2, hL3⟩ := kt_list pr hks
  have lL : L.length = ts.length := by
    have z := congrArg List.length hL1
    rw [List.length_map, List.length_map] at z
    exact z
  have lk : L.length ≤ 1000 := by
    have z := congrArg List.length hL2
    rw [List.length_map] at z
    omega
  have h16 : es.size ≤ sizeLine := by rw [l1, ← lL, sizeLine_eq]; omega
  refine Calls.call_function_entry PyProof.Rows.kind_sorted PyProof.Rows.plain_sorted PyProof.Rows.entry_sorted (PyProof.Rows.args_sorted1 _) ?_
  unfold Builtin.«sorted»
  refine wpAny_bind (m := checkCount "sorted" 1 1 _) (wpAny_pure ?_)
  refine wpAny_bind (PySem.W.kdu_collect (A := X.A.in1) (kdl_raw hs hx hdt) (I.ok.hd hcalm) ho h16 fun h' tk acc hk hacc => ?_)
  have ea : acc.toList = L.map fun x => Value.ref x.1 := by
    have hl : acc.toList.length = ts.length := by rw [Array.length_toList, hacc.1]; exact l1
    have e2 : (L.map fun x => Value.ref x.1) = ts.map fun x => Value.ref x.2.1 := by
      have z := congrArg (List.map Value.ref) hL1
      rw [List.map_map, List.map_map] at z
      exact z
    rw [e2]
    apply List.ext_getElem?
    intro j
    rw [List.getElem?_map]
    cases hj : acc.toList[j]? with
    | none =>
      have h1 := List.getElem?_eq_none_iff.mp hj
      rw [List.getElem?_eq_none (by omega)]
      all_goals rfl
    | some v =>
      obtain ⟨en, hen, hv⟩ := hacc.2 j v (by rw [← Array.getElem?_toList]; exact hj)
      have qe := entry_at he j
      rw [hen] at qe
      cases hb : ts[j]? with
      | none =>
        rw [hb] at qe
        exact nomatch (show some en = none from qe)
      | some b =>
        rw [hb] at qe
        have e2 : en = entryOfKey (tupleKind (mixKind X.prog X.w)) b := Option.some.inj qe
        rw [hv, e2]
        all_goals rfl
  have I1 : Inv X pins σ H { s with heap := h', toks := tk } := I.kept hk
  have hal : acc.toList.length = L.length := by rw [ea, List.length_map]
  refine wpAny_bind (wpAny_newList ?_ (by rw [hal, sizeLine_eq]; omega))
  have hoL : (h'.push (seqObj "list" acc.toList.toArray 0)).get? h'.objs.size = some (seqObj "list" acc.toList.toArray 0) := Heap.get?_push_size _ rfl
  show wpAny _ _ _ _ _ { s with heap := h'.push (seqObj "list" acc.toList.toArray 0), toks := tk }
  have er : PySem.W.EachIs (fun (v : Value) (b : Addr × List Int) => v = .ref b.1 ∧ ∃ as, Reads (h'.push (seqObj "list" acc.toList.toArray 0)) v (PyData.tuple (b.2.map .int)) as ∧ h'.objs.size ∉ as) acc.toList L := by
    rw [ea]
    have key : ∀ M : List (Addr × List Int), (∀ e ∈ M, H e.1 = some (.tup (e.2.map V.int))) → PySem.W.EachIs (fun (v : Value) (b : Addr × List Int) => v = .ref b.1 ∧ ∃ as, Reads (h'.push (seqObj "list" (L.map fun x => Value.ref x.1).toArray 0)) v (PyData.tuple (b.2.map .int)) as ∧ h'.objs.size ∉ as) (M.map fun x => Value.ref x.1) M := by
      intro M
      induction M with
      | nil => exact fun _ => .nil
      | cons e M ih =>
        intro hM
        refine .cons ⟨rfl, [], ?_, List.not_mem_nil⟩ (ih fun x hx => hM x (List.mem_cons_of_mem _ hx))
        obtain ⟨_, its, r, o, h1, h2, n, h3⟩ := (show ObjOk X.prog X.w H h' e.1 (.tup (e.2.map V.int)) from I1.hok _ _ (hM e (List.mem_cons_self ..)))
        exact Reads.tuple (Heap.get?_push_of_some _ h1) h2 h3 (by simpa using reads_ints r)
    exact key L hL3
  have enc1 : PySem.W.AllAlike (L.map fun b => PyData.tuple (b.2.map .int)) := PySem.W.AllAlike.of fun b b' => by
    show PySem.W.alikeAll _ _ = true
    exact PySem.W.alike_ints _ _
  have enc2 : PySem.W.Sortable (L.map fun b => PyData.tuple (b.2.map .int)) := .inl fun d hd => by
    obtain ⟨b, hb, rfl⟩ := List.mem_map.mp hd
    have hb2 : b.2 ≠ [] := hne _ (by rw [← hL2]; exact List.mem_map_of_mem (f := fun e : Addr × List Int => e.2) hb)
    cases e : b.2 with
    | nil => exact absurd e hb2
    | cons x r => exact ⟨_, _, rfl⟩
  refine wpAny_bind (wpAny_holding (PySem.W.list_sort_data (s := { s with heap := h'.push (seqObj "list" acc.toList.toArray 0), toks := tk }) (R := fun (v : Value) (b : Addr × List Int) => v = .ref b.1) (enc := fun b => PyData.tuple (b.2.map .int)) hoL (er.mono fun _ _ h => h.1) (er.mono fun _ _ h => h.2) enc1 enc2 (by rw [sizeLine_eq]; omega) (fun b _ => ?_) fun out ho2 eo => ?_))
  · have : (PyData.tuple (b.2.map .int)).depth = 1 := by
      rw [PyData.depth, PySem.W.depth_ints]
    have hA : X.A.in1.units ≤ X.A.units + 2 := by
      show _ ≤ _
      first
        | exact Nat.le_refl _
        | exact Nat.le_succ _
        | simp [Around.in1]
        | omega
    omega
  · obtain ⟨e', he'⟩ := PyProof.Rows.sortedHeap_at (vs := acc.toList) (out := out.toArray) hoL
    rw [tup_dataLe] at eo
    have perm : (L.mergeSort fun p q => decide (p.2 ≤ q.2)).Perm L := List.mergeSort_perm ..
    have ev : out = (L.mergeSort fun p q => decide (p.2 ≤ q.2)).map fun x => Value.ref x.1 := by
      have key : ∀ {o : List Value} {M : List (Addr × List Int)}, PySem.W.EachIs (fun (v : Value) (b : Addr × List Int) => v = .ref b.1) o M → o = M.map fun x => Value.ref x.1 := fun e => by
        induction e with
        | nil => rfl
        | cons h t ih => rw [List.map_cons, ← ih, h]
      exact key eo
    have pw : (L.mergeSort fun p q => decide (p.2 ≤ q.2)).Pairwise fun p q => p.2 ≤ q.2 := by
      refine (List.pairwise_mergeSort (fun a b c h1 h2 => ?_) (fun a b => ?_) L).imp fun h => of_decide_eq_true h
      · exact decide_eq_true (List.le_trans (of_decide_eq_true h1) (of_decide_eq_true h2))
      · rw [Bool.or_eq_true]
        rcases List.le_total a.2 b.2 with h | h
        · exact .inl (decide_eq_true h)
        · exact .inr (decide_eq_true h)
    generalize (L.mergeSort fun p q => decide (p.2 ≤ q.2)) = zs at *
    have lz : (zs.map fun z => V.ref z.1).length ≤ sizeLine := by rw [List.length_map, perm.length_eq, sizeLine_eq]; omega
    have vz : Vals (zs.map fun z => V.ref z.1) out := by
      rw [ev]
      have key := vals_refs (zs.map fun z => z.1)
      rw [List.map_map, List.map_map] at key
      exact key
    refine wpAny_pure ⟨_, rfl, .ref h'.objs.size, upd H h'.objs.size (.lst (zs.map fun z => V.ref z.1)), I1.laid (t' := tk) (fun b u e => ?_) (Nat.le_refl _)
      (show ObjOk X.prog X.w _ _ _ (.lst (zs.map fun z => V.ref z.1)) from ⟨lz, out, e', vz, he'⟩), rfl, q _ zs (I1.hok.fresh (Nat.le_refl _)) (by rw [← hL2]; exact perm.map _) (by rw [List.pairwise_map]; exact pw) fun z hz => hL3 z (perm.mem_iff.mp hz)⟩
    have hb : b < h'.objs.size := Heap.lt_size e
    rw [PyProof.Rows.sortedHeap_old (Nat.ne_of_lt hb) (by rw [size_push']; exact Nat.lt_succ_of_lt hb)]
    exact Heap.get?_push_of_some _ e
end
/-! ### set(xs) of a list of ints -/
abbrev nset (w : World) : Obj := { cls := .type "set", dict := none, data := .set #[] 0 (.fresh 0 0 (!w.params.followText "set-order")) }
section
variable {P : Program} {w : World} {A : Around} {E : Value → Shared → Prop} {s : Shared}
theorem madeI {l : Addr} {items : Array Value} {xs : List Int} {Q : Value → Shared → Prop} (hh : A.handled = none) (hl : s.heap.IsList l items) (hi : IntsAre items.toList xs) (room : xs.length + 1 < scanBound)
    (q : ∀ (h' : Heap) (tk c : Nat), SetR w h' s.heap.objs.size (fun j => decide (j ∈ xs)) c → c ≤ xs.length → (∀ b o, s.heap.get? b = some o → h'.get? b = some o) → Q (.ref s.heap.objs.size) { s with heap := h', toks := tk }) :
    wpAny (model P w) A (call (.type "set") [.ref l]) Q E s := by
  have isz : items.size = xs.length := by rw [← IntsAre.length hi, Array.length_toList]
  obtain ⟨c, tl, hmro⟩ := PySem.F.called_set.mro
  have g1 := PySem.F.called_set.made
  have g2 := PySem.F.called_set.sub
  have g3 := PySem.F.called_set.notType
  have g4 := PySem.F.called_set.canCreate
  have g5 := PySem.F.typeCall_set_1 (.ref l)
  refine wpAny_call (codeAny_of_tree ?_)
  show wpAny _ _ (callAny (.type "set") _) _ _ _
  refine wpAny_pure ⟨Code.quiet_builtin _ (by decide +kernel), codeAny_builtin PySem.F.entry_type_call ?_⟩
  rw [Around.under_plain (weight_type_call_type "set" [.ref l] []) rfl]
  repeat (any_goals (first | assumption | wp_step))
  refine codeAny_mono (code_set_led1 (.ref l) (E := E) (Q₁ := fun ob s₁ => ob = .ref s.heap.objs.size ∧ s₁ = { s with heap := s.heap.push (nset w) }) ⟨rfl, rfl⟩) fun r s₁ hr => ?_
  cases r with
  | error e => exact hr
  | ok fl =>
    cases fl with
    | ret ob =>
      obtain ⟨rfl, rfl⟩ := hr
      have hS : (s.heap.push (nset w)).get? s.heap.objs.size = some (nset w) := Heap.get?_push_size _ rfl
      have hT : Shared.TypeIs { s with heap := s.heap.push (nset w) } (.ref s.heap.objs.size) "set" := ⟨_, hS, rfl⟩
      have g6 := PySem.F.called_set.init.lookup
      have g7 := PySem.F.called_set.init.bind (.ref s.heap.objs.size)
      repeat (any_goals (first | assumption | wp_step))
      refine codeAny_mono (codeAny_call_builtin (R := wants (fun r s₂ => r = .none ∧ ∃ h' tk c, s₂ = { s with heap := h', toks := tk } ∧ SetR w h' s.heap.objs.size (fun j => decide (j ∈ xs)) c ∧ c ≤ xs.length ∧ ∀ b o, s.heap.get? b = some o → h'.get? b = some o) E)
        PySem.F.called_set.init.plain PySem.F.entry_set_init (check_set_init_1 hT ?_)) fun r₂ s₂ hr₂ => ?_
      · obtain ⟨⟨ocls, odict, odata, oslots⟩, hol, hcl, nl, hdl⟩ := hl
        simp only at hcl hdl
        subst hcl hdl
        have hol2 : (s.heap.push (nset w)).get? l = some { cls := .type "list", dict := odict, data := .seq items nl, slots := oslots } := Heap.get?_push_of_some _ hol
        have t1 := PySem.F.sub_list_set
        have t2 := PySem.F.sub_list_frozenset
        have t3 : (Value.type "list" == Value.type "dict") = false := by decide
        have hl1 : (s.heap.push (nset w)).IsList l items := ⟨_, hol2, rfl, nl, rfl⟩
        unfold Builtin.«set.__init__» noKeywords Builtin.Frozenset.updateFrom
        generalize hPI : pyIter = PI
        wp_walk
        subst hPI
        refine wpAny_pyIter_list hl1 (wpAny_bind (wpAny_runValue ?_))
        have lS : l < s.heap.objs.size := Heap.lt_size hol
        have h3 : A.in1.in1.in1.handled = none := by simp [hh]
        have z1 : (s.heap.push (nset w)).objs.size = s.heap.objs.size + 1 := Heap.size_push ..
        have nI : l ≠ (s.heap.push (nset w)).objs.size := by
          rw [z1]
          exact Nat.ne_of_lt (Nat.lt_succ_of_lt lS)
        have nS : s.heap.objs.size ∉ [(s.heap.push (nset w)).objs.size, l] := by
          rw [z1]
          simp only [List.mem_cons, List.not_mem_nil, or_false, not_or]
          exact ⟨Nat.ne_of_lt (Nat.lt_succ_self _), Nat.ne_of_gt lS⟩
        have vl : ∀ (i : Nat) (v : Value), items[i]? = some v → ∃ z u, xs[i]? = some z ∧ v = .int z u := fun i v hv => by
          obtain ⟨u, e⟩ := PyProof.Rows.IntsAre.int_at hi i v (by rw [Array.getElem?_toList]; exact hv)
          have lt : i < xs.length := by
            obtain ⟨b, _⟩ := Array.getElem?_eq_some_iff.mp hv
            omega
          exact ⟨xs.getD i 0, u, by rw [List.getD_eq_getElem?_getD, List.getElem?_eq_getElem lt]; rfl, e⟩
        refine set_update_ints ((Walks.list h3 _ l nI items).toS) s.heap.objs.size nS xs isz (by omega) vl (items.size - 0) 0 _ (by omega) (Nat.zero_le _) ⟨⟨_, Heap.get?_push_size _ rfl, rfl, rfl⟩, (hl1.push _)⟩ ?hS0 ?hR
        case hS0 => exact ⟨0, Nat.le_refl 0, setR_new_at (Heap.get?_push_of_some _ hS)⟩
        case hR =>
          rintro ⟨h', g', d', tk', os'⟩ c mv r2 r1
          obtain rfl : g' = s.gens := mv.gens
          obtain rfl : d' = s.drawn := mv.drawn
          obtain rfl : os' = s.os := mv.os
          show wpAny _ _ _ _ _ _
          refine wpAny_pure (wpAny_pure ⟨rfl, h', tk', c, rfl, r1, isz ▸ r2, fun b o e => ?_⟩)
          have lb := Heap.lt_size e
          refine mv.heap b o ?_ (Heap.get?_push_of_some _ (Heap.get?_push_of_some _ e))
          simp only [List.mem_cons, List.not_mem_nil, or_false, not_or]
          exact ⟨Nat.ne_of_lt lb, by rw [z1]; exact Nat.ne_of_lt (Nat.lt_succ_of_lt lb)⟩
      · cases r₂ with
        | error e => exact hr₂
        | ok fl₂ =>
          cases fl₂ with
          | ret r =>
            obtain ⟨rfl, h', tk, c, rfl, r1, r2, r3⟩ := hr₂
            repeat (any_goals (first | assumption | wp_step))
            exact q _ _ _ r1 r2 r3
          | _ => exact hr₂.elim
    | _ => exact hr.elim
end
def rSetOfL (K : PySem.W.Frag) (w : World) : List V → Hp → VK → Prop := fun vs H Q => ∃ (p : Addr) (ns : List Int), vs = [V.ref p] ∧ SqL K H p (ns.map V.int) ∧ ns.length ≤ 1000 ∧ ∀ a n, H a = none → n ≤ ns.length → Q (.ref a) (upd H a (SetO w a (fun j => decide (j ∈ ns)) n))
theorem cr_setOfL {X : Cx} (hc : X.calm = true) : CallR X (.type "set") (rSetOfL X.K X.w) := by
  intro pins s σ H xs us Q I r h
  obtain ⟨p0, ns, rfl, hq, hl, q⟩ := h
  cases r with
  | cons r rr =>
    cases rr
    cases r
    obtain ⟨its, rv, pt, hz⟩ := I.list hq
    have hi : IntsAre its.toArray.toList ns := ints_of_vals rv
    refine madeI (I.ok.hd hc) pt.isList hi (by unfold scanBound; omega) fun h' tk c R1 hcn k => ?_
    exact ⟨.ref _, upd H s.heap.objs.size (SetO X.w s.heap.objs.size (fun j => decide (j ∈ ns)) c), I.laid (t' := tk) k (Nat.le_refl _) (setO_new R1), rfl, q _ _ (I.hok.fresh (Nat.le_refl _)) hcn⟩
theorem k_setOfL {X : Cx} {K : PySem.W.Frag} {w : World} (hc : X.calm = true) (e : X.K = K) (e' : X.w = w) : CallR X (.type "set") (rSetOfL K w) := e ▸ e' ▸ cr_setOfL hc
theorem x_setOfL {K : PySem.W.Frag} {H : Hp} {Q : VK} {w : World} {p : Addr} {ns : List Int} (h : SqL K H p (ns.map V.int)) (hl : ns.length ≤ 1000) (k : ∀ a H2 n, Fr a H → Same H H2 → H2 a = some (SetO w a (fun j => decide (j ∈ ns)) n) → n ≤ ns.length → Q (.ref a) H2) : rSetOfL K w [.ref p] H Q :=
  ⟨p, ns, rfl, h, hl, fun a n h1 h2 => k a _ n ⟨h1⟩ (same_new h1) upd_same h2⟩
/-! ### list(d.values()) -/
def tListVals (td : TE) : TE := fun σ H Q => td σ H fun x H1 => ∃ a kvs, x = V.ref a ∧ H1 a = some (.dK kvs) ∧ ∀ p, H1 p = none → Q (.ref p) (upd H1 p (.lst (kvs.map (·.2))))
theorem vals_kv : ∀ {kvs : List (L2.Key × V)} {vs : List (L2.Key × Value)}, KV kvs vs → Vals (kvs.map (·.2)) (vs.map (·.2))
  | [], _, r => by
    cases r
    exact .nil
  | p :: kvs, _, r => by
    cases r with
    | cons h t => exact .cons h.2 (vals_kv t)
section
variable {X : Cx} {o : Expr} {p pos apos mpos : Pos} {td : TE}
theorem pe_listVals (hc : X.calm = true) (hg : Gl X "list") (hm : X.mg "list" = none) (hd : PE X o td) (hbase : attributeBase o "values" X.env (eval o X.env) = eval o X.env := by rfl) (hline : (apos.endLine == mpos.line) = true := by rfl)
    (hse : starEach [Expr.Call (.Attribute o "values" apos) [] [] mpos] X.env = [(false, eval (Expr.Call (.Attribute o "values" apos) [] [] mpos) X.env)] := by rfl) :
    PE X (.Call (.Name "list" p) [.Call (.Attribute o "values" apos) [] [] mpos] [] pos) (tListVals td) := by
  refine ⟨fun pins s σ H Q I h => ?_⟩
  refine wpAny_Call_Name_kw (ld_blt I hg hm (u := .type "list") (by first | rfl | decide +kernel) ?_ (by first | decide +kernel | decide) (by first | decide +kernel | decide))
  rw [hse]
  refine PySem.callWith_type1 (wpAny_Call_method0_late hbase hline (thn (hd.run pins s σ H _ I h) fun v s1 ⟨x, H1, I1, r1, a, kvs, ex, ha, q⟩ => ?_))
  subst ex
  obtain rfl : v = Value.ref a := r1
  obtain ⟨hz, hsys, vs, rel, dof⟩ := dk_of I1.hok ha
  obtain ⟨ep, dat⟩ := dof.dictAt
  have dat' := dat
  obtain ⟨ob, es, ho, ex, hdat, hko, hpr, hnd⟩ := dat'
  refine ⟨"dict", "dict.values", PySem.F.plainAttrs_dict, PySem.F.slot_dict_values, PySem.F.type_dict_values, ⟨ob, ho, ex.1⟩, fun b e => ?_, Calls.callWith_builtin rfl (PySem.evalArgs_none ?_)⟩
  · cases e
    exact ⟨ob, ho, ex.2.1⟩
  refine call_meetsIn PySem.F.slot_dict_values ⟨ob, ho, ex.1⟩ PySem.F.entry_dict_values (PySem.F.args_dict_values_1 _) (meets_dict_values (mixKind X.prog X.w) a hsys) ⟨⟨vs, dof⟩, ?_⟩
  have k1 : ∀ b u, s1.heap.get? b = some u → (s1.heap.push { cls := .type "dict_values", data := .fields #[.ref a] }).get? b = some u := fun b u e => Heap.get?_push_of_some _ e
  have dat1 : (s1.heap.push { cls := .type "dict_values", data := .fields #[.ref a] }).DictAt (mixKind X.prog X.w) a vs ep := dat.keep k1
  have hlv : vs.length = kvs.length := (KV.length rel).symm
  have hlt : a < s1.heap.objs.size := Heap.lt_size ho
  refine PySem.W.kdl_call (s := { s1 with heap := s1.heap.push { cls := .type "dict_values", data := .fields #[.ref a] } }) (PySem.W.kdl_values (knd := mixKind X.prog X.w) (r := s1.heap.objs.size) (d := a) (kvs := vs) (ep := ep)) (I.ok.hd hc) ⟨⟨_, Heap.get?_push_size _ rfl, rfl, rfl⟩, dat1⟩ (by rw [hlv]; exact hz) fun h' tk acc' c' kp e it => ?_
  have ea : acc'.toList = vs.map (·.2) := by
    have hl : acc'.toList.length = vs.length := by rw [Array.length_toList, it.1]
    apply List.ext_getElem?
    intro j
    rw [List.getElem?_map]
    cases hj : acc'.toList[j]? with
    | none =>
      have h1 := List.getElem?_eq_none_iff.mp hj
      rw [List.getElem?_eq_none (by omega)]
      rfl
    | some v =>
      obtain ⟨k, hk⟩ := it.2 j v (by rw [← Array.getElem?_toList]; exact hj)
      rw [hk]
      rfl
  have hsz : (s1.heap.push { cls := .type "dict_values", data := .fields #[.ref a] }).objs.size = s1.heap.objs.size + 1 := Heap.size_push _ _
  have rv : Vals (kvs.map (·.2)) acc'.toList := by
    rw [ea]
    exact vals_kv rel
  refine ⟨.ref _, upd H1 (s1.heap.push { cls := .type "dict_values", data := .fields #[.ref a] }).objs.size (.lst (kvs.map (·.2))), I1.laid (t' := tk) (fun b u e => kp b u (k1 b u e)) (by rw [hsz]; exact Nat.le_succ _) ⟨by rw [List.length_map]; exact hz, acc'.toList, c', rv, by rw [Array.toArray_toList]; exact e⟩, rfl, q _ (I1.hok.fresh (by rw [hsz]; exact Nat.le_succ _))⟩
end
end Xk

namespace Xk
open PySem PySem.Spec PyProof.Rows L2
section
variable {X : Cx}
/-- max(xs) of a list of data of one shape, not empty: an item whose data is the greatest -/
def rMaxX (K : PySem.W.Frag) : List V → Hp → VK → Prop := fun vs H Q => ∃ (a : Addr) (b : V × PyData) (bs : List (V × PyData)), vs = [V.ref a] ∧ SqL K H a ((b :: bs).map (·.1)) ∧ (∀ c ∈ b :: bs, Dp K H c.1 c.2 ∧ c.2.depth ≤ 9) ∧
  PySem.W.AlikeAll ((b :: bs).map (·.2)) ∧ ∀ c ∈ b :: bs, c.2 = PySem.W.maxD b.2 (bs.map (·.2)) → Q c.1 H
theorem readsAll_of {h : Heap} : ∀ {its : List Value} {bs : List (V × PyData)}, PySem.W.EachIs (fun u (b : V × PyData) => RelV b.1 u ∧ ∃ as, Reads h u b.2 as) its bs → ∃ as, ReadsAll h its (bs.map (·.2)) as
  | _, _, .nil => ⟨_, .nil⟩
  | _, _, .cons h t => by
    obtain ⟨_, _, r⟩ := h
    obtain ⟨_, rs⟩ := readsAll_of t
    exact ⟨_, .cons r rs⟩
theorem each_at {R : Value → V × PyData → Prop} : ∀ {its : List Value} {bs : List (V × PyData)} {i : Nat} {u : Value}, PySem.W.EachIs R its bs → its[i]? = some u → ∃ b ∈ bs, R u b
  | _, _, _, _, .nil, e => by cases e
  | _, _, 0, _, .cons h _, e => ⟨_, List.mem_cons_self .., Option.some.inj (show some _ = some _ from e) ▸ h⟩
  | _, _, i + 1, _, .cons _ t, e => by
    obtain ⟨b, hb, r⟩ := each_at (i := i) t (by simpa using e)
    exact ⟨b, List.mem_cons_of_mem _ hb, r⟩
theorem depth9 : ∀ {bs : List (V × PyData)}, (∀ c ∈ bs, c.2.depth ≤ 9) → PyData.depthAll (bs.map (·.2)) ≤ 9
  | [], _ => Nat.zero_le _
  | b :: r, h => Nat.max_le.mpr ⟨h b (List.mem_cons_self ..), depth9 fun c hc => h c (List.mem_cons_of_mem _ hc)⟩
theorem k_maxX0 (hc : X.calm = true) (hu : X.A.units + 64 < cLine) : CallR X (.builtin "max") (rMaxX X.K) := by
  intro pins s σ H vs us Q I r h
  obtain ⟨a, b, bs, rfl, hs, hd, hal, q⟩ := h
  obtain ⟨its, rv, hl, hz⟩ := I.list hs
  rw [Vals.ref1 r]
  have e := eachV (R := fun u d => ∃ as, Reads s.heap u d as) rv fun c hc u ru => Dp.reads I c.2 c.1 u (hd c hc).1 ru
  obtain ⟨as, ra⟩ := readsAll_of e
  have dp := depth9 fun c hc => (hd c hc).2
  refine PySem.W.max_list_data (I.ok.hd hc) hl.isList (x := b.2) (xs := bs.map fun c : V × PyData => c.2) (as := as) (by simpa using ra) hal (by have dp' : PyData.depthAll (b.2 :: bs.map (·.2)) ≤ 9 := dp; omega) fun i v h' tk bs' hv rd hk => ?_
  obtain ⟨c, hc', r1, as1, r2⟩ := each_at e (by simpa using hv)
  have ed := (PyProof.Rows.reads_det (fun b o e _ => hk b o e) r2 rd).1
  exact ⟨c.1, H, I.kept hk, r1, q c hc' ed.symm⟩
theorem k_maxX {K : PySem.W.Frag} (hc : X.calm = true) (hu : X.A.units + 64 < cLine) (e : X.K = K) : CallR X (.builtin "max") (rMaxX K) := e ▸ k_maxX0 hc hu
theorem setR_le {w : World} {h : Heap} {a : Addr} {S : Int → Bool} {n : Nat} (R : SetR w h a S n) {ms : List Int} (hs : ∀ k, S k = true → k ∈ ms) : n ≤ ms.length := by
  obtain ⟨o, es, ep, t, _, _, _, _, nd, mem, _, _, rfl, _⟩ := R
  have z := nd.length_le_of_subset (l₂ := ms) fun k hk => hs k ((mem k).mpr hk)
  rw [List.length_map, Array.length_toList] at z
  exact z
def rSetOfM (K : PySem.W.Frag) (w : World) : List V → Hp → VK → Prop := fun vs H Q => ∃ (p : Addr) (ns : List Int), vs = [V.ref p] ∧ SqL K H p (ns.map V.int) ∧ ns.length ≤ 1000 ∧ ∀ a n, H a = none → (∀ ms : List Int, (∀ x ∈ ns, x ∈ ms) → n ≤ ms.length) → Q (.ref a) (upd H a (SetO w a (fun j => decide (j ∈ ns)) n))
theorem cr_setOfM (hc : X.calm = true) : CallR X (.type "set") (rSetOfM X.K X.w) := by
  intro pins s σ H xs us Q I r h
  obtain ⟨p0, ns, rfl, hq, hl, q⟩ := h
  cases r with
  | cons r rr =>
    cases rr
    cases r
    obtain ⟨its, rv, pt, hz⟩ := I.list hq
    have hi : IntsAre its.toArray.toList ns := ints_of_vals rv
    refine madeI (I.ok.hd hc) pt.isList hi (by unfold scanBound; omega) fun h' tk c R1 hcn k => ?_
    exact ⟨.ref _, upd H s.heap.objs.size (SetO X.w s.heap.objs.size (fun j => decide (j ∈ ns)) c), I.laid (t' := tk) k (Nat.le_refl _) (setO_new R1), rfl, q _ _ (I.hok.fresh (Nat.le_refl _)) fun ms hm => setR_le R1 fun k hk => hm k (of_decide_eq_true hk)⟩
theorem k_setOfM {K : PySem.W.Frag} {w : World} (hc : X.calm = true) (e : X.K = K) (e' : X.w = w) : CallR X (.type "set") (rSetOfM K w) := e ▸ e' ▸ cr_setOfM hc
theorem x_setOfM {K : PySem.W.Frag} {H : Hp} {Q : VK} {w : World} {p : Addr} {ns : List Int} (h : SqL K H p (ns.map V.int)) (hl : ns.length ≤ 1000) (k : ∀ a H2 n, Fr a H → Same H H2 → H2 a = some (SetO w a (fun j => decide (j ∈ ns)) n) → (∀ ms : List Int, (∀ x ∈ ns, x ∈ ms) → n ≤ ms.length) → Q (.ref a) H2) : rSetOfM K w [.ref p] H Q :=
  ⟨p, ns, rfl, h, hl, fun a n h1 h2 => k a _ n ⟨h1⟩ (same_new h1) upd_same h2⟩
theorem k_slT {K : PySem.W.Frag} (e : X.K = K) : SlR X (rSlA K) := e ▸ sl_tupA
theorem k_catT {K : PySem.W.Frag} (e : X.K = K) : OpR X (binaryOp .Add) (rCatA K) := e ▸ op_catA
end
/-! e.f op= value -/
def rFldA (K : PySem.W.Frag) (tv : TE) (rd : V → V → Hp → VK → Prop) (f : Str) (σ : L2.St) (R : Hp → Prop) : VK := fun x H1 => ∃ a C dx fs v, x = .ref a ∧ H1 a = some (.ins C dx fs) ∧ Cls K C ∧ NoAttr K C f ∧ fs.lookup f = some v ∧
  tv σ H1 fun y H2 => rd v y H2 fun z H3 => ∃ dx' fs', H3 a = some (.ins C dx' fs') ∧ fs'.length < 1000 ∧ R (upd H3 a (.ins C dx' (putF f z fs')))
theorem x_sfldaug {K : PySem.W.Frag} {ta tv : TE} {rd : V → V → Hp → VK → Prop} {f : Str} {D : Ends} {σ : L2.St} {H : Hp} (q : ta σ H (rFldA K tv rd f σ (D.nx σ))) : sFldAug K ta tv rd f D σ H := q
theorem x_ssfldaug {K : PySem.W.Frag} {ta tv : TE} {rd : V → V → Hp → VK → Prop} {f : Str} {D : Ends} {σ : L2.St} {H : Hp} {tz : TS} (q : ta σ H (rFldA K tv rd f σ fun H2 => tz D σ H2)) : tSeq (sFldAug K ta tv rd f) tz D σ H := q
end Xk

/-! dict comprehensions whose keys are tuples -/
namespace Xk
open PySem PySem.Spec PyProof.Rows L2
section
variable {X : Cx} {pp : List (Addr × Obj)} {r0 : L2.St} {G : Hp} {sh : Shared}
/-- the comprehension's store -/
theorem d_storeT {Qd : Unit → Shared → Prop} {Ed : Value → Shared → Prop} {D : Addr} {y z : V} {u t : Value} {G' : Hp} (hu : X.A.units + 1 < cLine) (I : Inv X pp r0 G sh) (g : DPut G D y z G') (ry : RelV y u) (rz : RelV z t)
    (fin : ∀ s2, Inv X pp r0 G' s2 → Qd () s2) : wpAny (model X.prog X.w) X.A (dictSet D u t) Qd Ed sh := by
  rcases g with ⟨m, k, e, ey, l, eH⟩ | ⟨m, k, b, e, ey, eb, l, eH⟩
  · subst ey eH
    exact d_dictSet I e l ry rz fin
  · subst ey eH
    cases (show u = Value.ref b from ry)
    obtain ⟨n, hd, xs, rel, dd⟩ := dt_of I.hok e
    have n2 := length_putK m k z
    refine wpAny_dictSet_heap (hsz := by rw [← Paired.length rel]; exact n) (show X.A.units < cLine from Nat.lt_of_succ_lt hu) (key_of I.hok eb) dd fun h2 d2 sb => fin _ ?_
    obtain ⟨q, es, ep, hq, q1, q2, q3, _, q4⟩ := d2
    have st : KT (upd G D (.dT (putK m k z))) (putK m k z) _ := (rel.put k eb rz).keeps fun c ys ec => by
      rw [upd_ne (ne_of ec e (fun w => nomatch w))]
      exact ec
    exact d_write I (by rw [e]; exact True.intro) sb ⟨q, hq⟩ ⟨by omega, hd, _, st, q, es, ep, hq, q1, q2, q3, q4⟩
/-- what a turn of the comprehension must do -/
def DcTurn (g : TG) (tt : TT) (tk tv : TE) (vs : List Nat) (r0 : L2.St) (D : Addr) (Nx : Hp → Prop) (x : V) : Hp → Prop := fun G1 =>
  g x (wipe r0 vs) G1 fun r2 G2 => wipe r2 vs = wipe r0 vs ∧ tt r2 G2 fun b G3 =>
    if b = true then tk r2 G3 fun y G4 => tv r2 G4 fun z G5 => ∃ G6, DPut G5 D y z G6 ∧ Nx G6 else Nx G3
/-- what an iterator must let it do, from the new dict on -/
def DcRun (J : It) (g : TG) (tt : TT) (tk tv : TE) (vs : List Nat) (r0 : L2.St) (Q : VK) (G1 : Hp) : Prop :=
  ∀ D, G1 D = none → ∃ W : Nat → Nat → Hp → Prop, (∃ m, W 0 m (upd G1 D (.dT []))) ∧ ∀ i m G2, W i m G2 →
    (J.stop i G2 ∧ Q (.ref D) G2) ∨ (J.go i G2 ∧ ∃ Nx : Hp → Prop, (∀ G3, Nx G3 → ∃ m', m' < m ∧ W (i + 1) m' G3) ∧ ∀ x G3, J.yld i G2 x G3 → DcTurn g tt tk tv vs r0 D Nx x G3)
/-- {(k1, k2): v for target in iter if ..} -/
def tDcT (wi : TI) (g : TG) (tt : TT) (tk tv : TE) (vs : List Nat) : TE := fun r0 G Q => wi r0 G fun J G1 => DcRun J g tt tk tv vs r0 Q G1
abbrev Blk (X : Cx) (scope : Scope) (F : Cx → Prop) : Prop :=
  ∀ (s1 : Shared) (G1 : Hp) (C : Addr) (cl : List (Str × Addr)) (fp : List Addr), F (X.blk s1 G1 scope (compEnvC scope cl C X.env) fp)
theorem dcT_core {Q : VK} {kx vx tg itx : Expr} {cs : List Expr} {scope : Scope} {own : List (Str × Nat)} {p1 p2 : Pos} {wi : TI} {g : TG} {tt : TT} {tk tv : TE} {us : Option (Value → Sem Unit)} {Qf : Value → Shared → Prop}
    (hc : X.calm = true) (hu : X.A.units + 1 < cLine) (hN : X.N.Nodup) (I : Inv X pp r0 G sh) (hi : PI X tg itx wi) (ok : BlkOk X.N X.env.scope scope own)
    (hg : Blk X scope fun Y => PG Y tg g) (ht : Blk X scope fun Y => PTs Y cs tt) (hk : Blk X scope fun Y => PE Y kx tk) (he : Blk X scope fun Y => PE Y vx tv)
    (hs : ∀ x, foldedSetIterable itx X.env x = pure x) (h : tDcT wi g tt tk tv (own.map (·.2)) r0 G Q)
    (out : ∀ D C s1 m G1, Inv X pp r0 G1 s1 → Q (.ref D) G1 → s1.heap.Ns C m → FpOk X pp G1 C → compPost (model X.prog X.w) X.A X.xe us Qf (.ref D) C (.ok .next) s1) :
    wpAny (model X.prog X.w) X.A (comprehension (.DictComp kx vx [⟨tg, itx, cs, 0⟩] scope p1) scope X.env p2 newDict false (eval itx X.env) us) Qf X.xe sh := by
  have cells : ∀ nm ∈ scope.names, nm.2 = .free → ∃ c, X.env.cells.lookup nm.1 = some c := fun nm hn e =>
    (ok.free nm hn e).elim (fun k => I.ok.has _ (.inl k)) fun k => I.ok.has _ (.inr k)
  refine wpAny_comprehension_free (use := us) rfl hs (closure_ok cells) ok.kind (fun nm hn e => by rw [ok.uniq nm hn, e]) ?_
  refine thn (hi.run pp sh r0 G _ I h) fun xv s1 hx => thn hx fun itv s2 got => ?_
  obtain ⟨it, fp, tn, J, G2, ei, I2, T, at2, free2, run⟩ := got
  subst ei
  refine wpAny_newObj_type (newEnv_comp ?_)
  generalize hD : s2.heap.objs.size = D
  have nD : G2 D = none := I2.hok.fresh (Nat.le_of_eq hD)
  obtain ⟨W, ⟨m0, w0⟩, turn⟩ := run D nD
  generalize es3 : ({ s2 with heap := s2.heap.push { cls := .type "dict", data := .dict #[] } } : Shared) = s3
  have hp3 : s3.heap = s2.heap.push { cls := .type "dict", data := .dict #[] } := by rw [← es3]
  have I3 : Inv X pp r0 (upd G2 D (.dT [])) s3 := by
    rw [← es3]
    refine I2.laid (t' := s2.toks) (fun b o z => Heap.get?_push_of_some _ z) (Nat.le_of_eq hD) ?_
    rw [← hD]
    exact dt_empty s2.heap I2.big
  have below : ∀ b ∈ fp, b < s2.heap.objs.size := fun b hb => (T.obj _ _ at2 b hb).elim fun o z => Heap.lt_size z.1
  have fp3 : ∀ b ∈ fp, FpOk X pp (upd G2 D (.dT [])) b ∧ b < s3.heap.objs.size := fun b hb => by
    have lt := below b hb
    have nb : b ≠ D := by rw [← hD]; exact Nat.ne_of_lt lt
    exact ⟨⟨(upd_ne nb).trans (free2 b hb).1, (free2 b hb).2⟩, by rw [hp3, Heap.size_push]; exact Nat.lt_succ_of_lt lt⟩
  have at3 : tn 0 s3.heap := T.keep _ _ _ at2 fun b _ o z => by rw [hp3]; exact Heap.get?_push_of_some _ z
  have I4 := block_start I3 ok hN fp3
  have dg := hg s3 (upd G2 D (.dT [])) s3.heap.objs.size (cellsFrom (s3.heap.objs.size + 1) scope.names (cloFrom X.env.cells scope.names [])) fp
  have dt := ht s3 (upd G2 D (.dT [])) s3.heap.objs.size (cellsFrom (s3.heap.objs.size + 1) scope.names (cloFrom X.env.cells scope.names [])) fp
  have dk := hk s3 (upd G2 D (.dT [])) s3.heap.objs.size (cellsFrom (s3.heap.objs.size + 1) scope.names (cloFrom X.env.cells scope.names [])) fp
  have dv := he s3 (upd G2 D (.dT [])) s3.heap.objs.size (cellsFrom (s3.heap.objs.size + 1) scope.names (cloFrom X.env.cells scope.names [])) fp
  have nfp : ∀ b ∈ fp, (upd G2 D (.dT [])) b = none := fun b hb => (fp3 b hb).1.1
  show codeAny _ _ (.compStart (.DictComp kx vx [⟨tg, itx, cs, 0⟩] scope p1) 0 (.ref it) (.ref D) (compEnvC scope (cellsFrom (s3.heap.objs.size + 1) scope.names (cloFrom X.env.cells scope.names [])) s3.heap.objs.size X.env)) _ _
  generalize hce : compEnvC scope (cellsFrom (s3.heap.objs.size + 1) scope.names (cloFrom X.env.cells scope.names [])) s3.heap.objs.size X.env = ce at I4 dg dt dk dv ⊢
  have cL : ce.locals = s3.heap.objs.size := by rw [← hce]; rfl
  generalize hG3 : upd G2 D (.dT []) = G3 at I3 I4 dg dt dk dv w0 nfp fp3
  generalize es4 : ({ s3 with heap := pushCells (s3.heap.push { cls := .type "dict", data := .dict #[] }) scope.names } : Shared) = s4 at I4 ⊢
  have at4 : tn 0 s4.heap := T.keep _ _ _ at3 fun b _ o z => by rw [← es4]; exact pushCells_keeps _ _ _ _ (Heap.get?_push_of_some _ z)
  have Y : ∃ Y : Cx, Y = X.blk s3 G3 scope ce fp := ⟨_, rfl⟩
  obtain ⟨Y, eY⟩ := Y
  rw [← eY] at I4 dg dt dk dv
  have Yc : Y.calm = true := by rw [eY]; exact hc
  have stays : ∀ {r2 : L2.St} {G4 : Hp} {s5 : Shared}, Inv Y [] r2 G4 s5 → (∀ b ∈ fp, G4 b = none) → ∀ b ∈ fp, FpOk Y [] G4 b := fun {r2 G4 s5} I5 nn b hb => by
    subst eY
    exact ⟨nn b hb, (I5.ok.exf b hb).1, I5.ok.exfs b hb, .inl hb, fun x c z => (I5.ok.exf b hb).2 x c z, fun q hq => by
      rw [List.nil_append] at hq
      cases hq⟩
  have loop : codeAny (model X.prog X.w) X.A (.compLoop (.DictComp kx vx [⟨tg, itx, cs, 0⟩] scope p1) 0 (.ref it) (.ref D) ce) (compPost (model X.prog X.w) X.A X.xe us Qf (.ref D) s3.heap.objs.size) s4 := by
    refine compLoop_anyD (fun n s5 => ∃ i G4, Inv Y [] (wipe r0 (own.map (·.2))) G4 s5 ∧ tn i s5.heap ∧ (∀ b ∈ fp, G4 b = none) ∧ W i n G4) ?_ m0 ⟨0, G3, I4, at4, nfp, w0⟩
    rintro n s5 ⟨i, G5, I5, at5, n5, w5⟩
    rcases turn i n G5 w5 with ⟨stop, last⟩ | ⟨go, Nx, hNx, step⟩
    · have td := T.done Y (by subst eY; rfl) (by subst eY; rfl) (by subst eY; rfl) Yc i [] s5 _ G5 (fun _ _ => False) I5 (stays I5 n5) at5 stop
      subst eY
      refine thnF td fun r s6 ⟨hr, I6⟩ => ?_
      subst hr
      have back : Inv X pp r0 G5 s6 := I3.call' (ch := fp) I6.os I6.base I6.hok I6.bare fun b hb => by
        obtain ⟨_, k1, k2, k3, k4, k5⟩ := (fp3 b hb).1
        exact ⟨k3, k1, k4, k5⟩
      have nC : G5 s3.heap.objs.size = none := by
        have z := I6.free
        rw [← cL]
        exact z
      obtain ⟨m, hm, _⟩ := I6.loc
      replace hm : s6.heap.Ns ce.locals m := hm
      rw [cL] at hm
      exact out D s3.heap.objs.size s6 m G5 back last hm (I3.fpOk (Nat.le_refl _) nC)
    · have ti := T.item Y (by subst eY; rfl) (by subst eY; rfl) (by subst eY; rfl) Yc i [] s5 _ G5 (fun _ _ => False) I5 (stays I5 n5) at5 go
      have Yp : Y.prog = X.prog := by subst eY; rfl
      have Yu : Y.A.units + 1 < cLine := by subst eY; exact hu
      subst eY
      refine thnF ti fun r s6 ⟨u, hr, more⟩ => ?_
      subst hr
      refine thnF more fun _ s7 ⟨x, G7, I7, rx, yx, at7, n7⟩ => ?_
      have P7 := I7.pinned (stays I7 n7) (T.obj _ _ at7)
      refine thnF (dg.run _ s7 _ G7 x u _ P7 rx (step x G7 yx)) fun _ s8 ⟨r8, G8, I8, wiped, q8⟩ => ?_
      refine thnF (dt.run _ s8 r8 G8 _ I8 q8) fun b s9 ⟨G9, I9, q9⟩ => ?_
      have after : ∀ {sz : Shared} {Gz : Hp}, Inv (X.blk s3 G3 scope ce fp) ([] ++ pinsAt fp s7.heap) r8 Gz sz → Nx Gz →
          ∃ m, m < n ∧ ∃ i G4, Inv (X.blk s3 G3 scope ce fp) [] (wipe r0 (own.map (·.2))) G4 sz ∧ tn i sz.heap ∧ (∀ b ∈ fp, G4 b = none) ∧ W i m G4 := fun {sz Gz} Iz nx => by
        obtain ⟨m1, lt1, w1⟩ := hNx Gz nx
        have held : ∀ b ∈ fp, ∀ o, s7.heap.get? b = some o → sz.heap.get? b = some o ∧ Gz b = none := fun b hb o z => by
          have k := Iz.pin (b, o) (List.mem_append_right _ (List.mem_append_right _ (mem_pinsAt hb z)))
          exact ⟨k.1, k.2.1⟩
        have same_len : (wipe r0 (own.map (·.2))).length = r8.length := by rw [← wiped, wipe_length]
        refine ⟨m1, lt1, i + 1, Gz, (Iz.unpinned (pins := [])).weak same_len (fun j v z => ?_), T.keep _ _ _ at7 fun b hb o z => (held b hb o z).1, fun b hb => ?_, w1⟩
        · rw [← wiped] at z
          exact (wipe_some z).1
        · obtain ⟨o, z, _⟩ := T.obj _ _ at7 b hb
          exact (held b hb o z).2
      cases b with
      | false =>
        replace q9 : Nx G9 := by simpa using q9
        show ∃ m, _
        exact after I9 q9
      | true =>
        replace q9 := (if_pos (rfl : true = true)).mp q9
        refine thnF (dk.run _ s9 r8 G9 _ I9 q9) fun z s10 ⟨y1, G10, I10, ry, q10⟩ => ?_
        refine thnF (dv.run _ s10 r8 G10 _ I10 q10) fun z2 s11 ⟨y2, G11, I11, rv, G12, put, nx⟩ => ?_
        exact d_storeT (X := X.blk s3 G3 scope ce fp) Yu I11 put ry rv fun s12 I12 => after I12 nx
  exact codeAny_compStart_dict loop (T.self X.A 0 _ _ _ at4 loop)
theorem pe_dcT {kx vx tg itx : Expr} {cs : List Expr} {scope : Scope} {own : List (Str × Nat)} {p1 : Pos} {wi : TI} {g : TG} {tt : TT} {tk tv : TE} (hc : X.calm = true) (hu : X.A.units + 1 < cLine) (hN : X.N.Nodup) (hi : PI X tg itx wi) (ok : BlkOk X.N X.env.scope scope own)
    (hg : Blk X scope fun Y => PG Y tg g) (ht : Blk X scope fun Y => PTs Y cs tt) (hk : Blk X scope fun Y => PE Y kx tk) (he : Blk X scope fun Y => PE Y vx tv) (hs : ∀ x, foldedSetIterable itx X.env x = pure x := by intro _; rfl) :
    PE X (.DictComp kx vx [⟨tg, itx, cs, 0⟩] scope p1) (tDcT wi g tt tk tv (own.map (·.2))) := by
  refine ⟨fun pins s σ H Q I h => ?_⟩
  rw [arm_eval_DictComp]
  refine dcT_core hc hu hN I hi ok hg ht hk he hs h fun D C s1 m G1 I1 q hn f => ⟨m, hn, fun h2 sb => ?_⟩
  obtain ⟨f0, f1, f2, f3, f4, f5⟩ := f
  exact ⟨.ref D, G1, I1.turned (t' := s1.toks) (fun b o hb z => (sb.2 b hb).trans z) f0 f1 f3 f4 f5, rfl, q⟩
/-- the target's name swaps with the new dict -/
theorem sw_trueD {kx vx : Expr} {cs : List Comprehension} {scope : Scope} {p1 p2 : Pos} {y : Str} {l : Nat} {env : Env} (h1 : env.scope.kind = .function) (h2 : env.scope.names.lookup y = some .local) (h3 : (p2.line == p1.line) = true)
    (h4 : (scope.names.any fun z => z.1 == y && (z.2 == .local || z.2 == .cell)) = false) : swapsWith (.DictComp kx vx cs scope p1) (some (.Name y p2)) l env = pure true := by
  have k1 : env.kindOf y = some .local := h2
  have k2 : env.blockKind = .function := by
    unfold Env.blockKind
    rw [h1]
    rfl
  unfold swapsWith
  simp only [k2, k1, Expr.pos, h3]
  have k3 : (scope.names.any fun (n, k) => n == y && (k == .local || k == .cell)) = false := h4
  simp only [k3]
  rfl
/-- y = {(k1, k2): v for ..} -/
theorem ps_setDcT {i : Nat} {y : Str} {p2 p3 : Pos} {kx vx tg itx : Expr} {cs : List Expr} {scope : Scope} {own : List (Str × Nat)} {p1 : Pos} {wi : TI} {g : TG} {tt : TT} {tk tv : TE} (hc : X.calm = true) (hu : X.A.units + 1 < cLine) (hN : X.N.Nodup) (hy : X.N[i]? = some y)
    (hl : X.env.scope.names.lookup y = some .local) (sw : swapsWith (.DictComp kx vx [⟨tg, itx, cs, 0⟩] scope p1) (some (.Name y p2)) p3.line X.env = pure true) (hi : PI X tg itx wi) (ok : BlkOk X.N X.env.scope scope own)
    (hg : Blk X scope fun Y => PG Y tg g) (ht : Blk X scope fun Y => PTs Y cs tt) (hk : Blk X scope fun Y => PE Y kx tk) (he : Blk X scope fun Y => PE Y vx tv) (hs : ∀ x, foldedSetIterable itx X.env x = pure x := by intro _; rfl) :
    PS X (.Assign [.Name y p2] (.DictComp kx vx [⟨tg, itx, cs, 0⟩] scope p1) p3) (tAsg (tDcT wi g tt tk tv (own.map (·.2))) (gName i)) := by
  refine ⟨fun pins s σ H D I h => ?_⟩
  rw [exec_Assign_Name_used _ _ _ _ sw]
  refine wpAny_bind (wpAny_standAt (wpAny_bind ?_))
  have h : tDcT wi g tt tk tv (own.map (·.2)) σ H (fun x G1 => gName i x σ G1 D.nx) := h
  refine wpAny_bind (thn (dcT_core (us := some (assign (.Name y p2) X.env)) (Qf := fun _ s1 => SP X pins D .next s1) hc hu hN I hi ok hg ht hk he hs h fun d C s1 m G1 I1 q hn f => ?_) fun _ s1 z => wpAny_pure (wpAny_pure z))
  obtain ⟨f0, f1, f2, f3, f4, f5⟩ := f
  refine wpAny_assign_Name (store_ok2 (v := V.ref d) I1 hN hy (.inl hl) rfl (fun s2 I2 got => ?_) (.inr hl))
  obtain ⟨c, sb, hcx⟩ := got
  have nC : C ≠ c := hcx.elim (fun z => by rw [z]; exact f1) fun z e => f4 y c z e.symm
  exact ⟨m, hn.sameBut sb nC, fun h3 sb3 => ⟨_, G1, I2.turned (t' := s2.toks) (fun b o hb z => (sb3.2 b hb).trans z) f0 f1 f3 f4 f5, q⟩⟩
end
section
variable {K : PySem.W.Frag} {σ : L2.St} {H : Hp} {Q : VK} {tx tk tv : TE} {ta : TA} {g : TG} {t : TT} {tu : TS} {D : Ends}
def rDcTL (K : PySem.W.Frag) (g : TG) (tt : TT) (tk tv : TE) (vs : List Nat) (σ : L2.St) (Q : VK) : VK := fun x G => ∃ a, x = .ref a ∧ (∃ xs, SqL K G a xs) ∧ DcRun (Itl K a) g tt tk tv vs σ Q G
theorem x_dcTL1 {vs : List Nat} (q : tx σ H (rDcTL K g t tk tv vs σ Q)) : tDcT (iList K tx) g t tk tv vs σ H Q := q
/-- over a list that stays: Pv of the dict's place, the turn, the heap -/
theorem x_dcTL {a : Addr} {xs : List V} {vs : List Nat} (Pv : Addr → Nat → Hp → Prop) (hx : SqL K H a xs) (h0 : ∀ d, Fr d H → Pv d 0 (upd H d (.dT []))) (hl : ∀ d i G, Fr d H → Pv d i G → SqL K G a xs)
    (hs : ∀ d, Fr d H → ∀ i x G, xs[i]? = some x → Pv d i G → DcTurn g t tk tv vs σ d (Pv d (i + 1)) x G) (hd : ∀ d G, Fr d H → Pv d xs.length G → Q (.ref d) G) : rDcTL K g t tk tv vs σ Q (.ref a) H := by
  refine ⟨a, rfl, ⟨xs, hx⟩, fun d hf => ⟨fun i m G => m = xs.length - i ∧ i ≤ xs.length ∧ Pv d i G, ⟨xs.length, by omega, Nat.zero_le _, h0 d ⟨hf⟩⟩, ?_⟩⟩
  rintro i m G ⟨rfl, hi, p⟩
  have sq := hl d i G ⟨hf⟩ p
  by_cases lt : i < xs.length
  · refine .inr ⟨⟨xs, xs[i], sq, List.getElem?_eq_getElem lt⟩, Pv d (i + 1), fun G3 p3 => ⟨xs.length - (i + 1), by omega, rfl, lt, p3⟩, fun x G3 y => ?_⟩
    obtain ⟨eG, y⟩ := y
    subst eG
    exact hs d ⟨hf⟩ i x _ (y xs sq) p
  · have ei : i = xs.length := by omega
    subst ei
    exact .inl ⟨⟨xs, sq, Nat.le_refl _⟩, hd d G ⟨hf⟩ p⟩
def rForE (K : PySem.W.Frag) (g : TG) (tu : TS) (D : Ends) (σ : L2.St) : List V → Hp → Prop := fun vs G => ∃ a xs, vs = [.ref a] ∧ SqL K G a xs ∧ ∃ W : Nat → Nat → L2.St → Hp → Prop, (∃ m, W 0 m σ G) ∧ ∀ i m r G, W i m r G →
  ((Ite K a).stop i G ∧ D.nx r G) ∨ ((Ite K a).go i G ∧ ∃ N : L2.St → Hp → Prop, (∀ r' G', N r' G' → ∃ m', m' < m ∧ W (i + 1) m' r' G') ∧ ∀ x G', (Ite K a).yld i G x G' → g x r G' fun r2 G2 => tu { D with nx := N, ct := N, bk := D.nx } r2 G2)
theorem x_forE1 (q : ta σ H (rForE K g tu D σ)) : tFor (iEnum K ta) g tu D σ H := q
/-- for .. in enumerate(a list that stays) -/
theorem x_forE {a : Addr} {xs : List V} (Pv : Nat → L2.St → Hp → Prop) (hx : SqL K H a xs) (p0 : Pv 0 σ H) (hl : ∀ i r G, i ≤ xs.length → Pv i r G → SqL K G a xs)
    (ps : ∀ i x r G T G', xs[i]? = some x → Pv i r G → Fr T G → Same G G' → G' T = some (.tup [.int (i : Nat), x]) → g (.ref T) r G' fun r2 G2 => tu { D with nx := Pv (i + 1), ct := Pv (i + 1), bk := D.nx } r2 G2)
    (pd : ∀ r G, Pv xs.length r G → D.nx r G) : rForE K g tu D σ [.ref a] H :=
  ⟨a, xs, rfl, hx, for_it walk_enum Pv p0 hl (fun i x r G G' hi p y => by
    obtain ⟨T, u, v, rfl, hT, rfl, e1, e2⟩ := y
    cases Option.some.inj e1
    exact ps i v r G T _ e2 p ⟨hT⟩ (same_new hT) upd_same) pd⟩
/-- a put of a pair of ints -/
theorem x_putT {d b : Addr} {kvs : List (List Key × V)} {k : List Key} {z : V} {Nx : Hp → Prop} (e : H d = some (.dT kvs)) (eb : H b = some (.tup (k.map kV))) (hl : kvs.length < 100000) (q : Nx (upd H d (.dT (putK kvs k z)))) : ∃ G6, DPut H d (.ref b) z G6 ∧ Nx G6 :=
  ⟨_, DPut.t e eb (size_lt hl), q⟩
theorem x_dnewT (k : ∀ p G, Fr p H → Same H G → G p = some (.dT []) → Q (.ref p) G) : tDNewT σ H Q := fun p hp => k p _ ⟨hp⟩ (same_new hp) upd_same
def rDNin (y : V) (Q : VK) : VK := fun x G => ∃ a o, x = .ref a ∧ DGet G a y o ∧ Q (.bl (!o.isSome)) G
theorem x_dnin {ty td : TE} (q : ty σ H fun y G => td σ G (rDNin y Q)) : tDNotIn ty td σ H Q := q
theorem x_dinT {d b : Addr} {kvs : List (List Key × V)} {k : List Key} (e : H d = some (.dT kvs)) (eb : H b = some (.tup (k.map kV))) (q : Q (.bl (valV kvs k).isSome) H) : rDInK (.ref b) Q (.ref d) H := ⟨d, _, rfl, DGet.t e eb, q⟩
theorem x_dninT {d b : Addr} {kvs : List (List Key × V)} {k : List Key} (e : H d = some (.dT kvs)) (eb : H b = some (.tup (k.map kV))) (q : Q (.bl (!(valV kvs k).isSome)) H) : rDNin (.ref b) Q (.ref d) H := ⟨d, _, rfl, DGet.t e eb, q⟩
end
end Xk


local macro_rules | `(tactic| wtm_at "key") => `(tactic| (first | assumption | exact rfl | fail "key"))
local macro_rules | `(tactic| wtm_at "few") => `(tactic| (first | assumption | exact Nat.le_of_ble_eq_true rfl | fail "few"))
local macro_rules | `(tactic| wtm_at "cls") => `(tactic| (first | assumption | fail "cls"))
local macro_rules | `(tactic| wtm_at "neq") => `(tactic| (first | assumption | exact Ne.symm (by assumption) | exact Xk.ne_new (by assumption) (by wtm_at "hx") | exact (Xk.ne_new (by assumption) (by wtm_at "hx")).symm | fail "neq"))
local macro_rules | `(tactic| wtm_at "hx") => `(tactic| (first | assumption | exact L2.upd_same | ((refine' (L2.upd_ne ?un).trans ?uh); (case un => wtm_at "neq"); (case uh => wtm_at "hx")) | ((refine' Xk.same_at ?ue ?uh); (case ue => assumption); (case uh => wtm_at "hx")) | ((refine' Xk.but_at ?ue ?un ?uh); (case ue => assumption); (case un => wtm_at "neq"); (case uh => wtm_at "hx")) | fail "hx"))
local macro_rules | `(tactic| wtm_at "free") => `(tactic| (first | assumption | ((refine' Xk.free_back ?uh ?ue); (case uh => assumption); (case ue => wtm_at "sm")) | ((refine' Xk.free_back ?uh ?ue); (case uh => (refine' Xk.fr_upd ?uf; case uf => assumption)); (case ue => wtm_at "sm")) | fail "free"))
local macro_rules | `(tactic| wtm_at "sm") => `(tactic| (first | assumption | exact L2.Same.refl _ | ((refine' Xk.same_mut ?ue ?uh); (case ue => wtm_at "sm"); (case uh => wtm_at "free")) | ((refine' L2.Same.trans ?ue ?uh); (case uh => assumption); (case ue => wtm_at "sm")) | ((refine' Xk.same_but ?ue ?uh ?us); (case ue => assumption); (case uh => wtm_at "free"); (case us => wtm_at "sm")) | fail "sm"))
local macro_rules | `(tactic| wtm_at "bm") => `(tactic| (first | assumption | exact Xk.But.refl _ _ | ((refine' Xk.but_mut ?ue); (case ue => wtm_at "bm")) | ((refine' Xk.but_new ?ue ?uh); (case ue => wtm_at "bm"); (case uh => wtm_at "free")) | ((refine' Xk.but_trans ?ue ?uh); (case uh => assumption); (case ue => wtm_at "bm")) | ((refine' Xk.but_trans ?ue (Xk.but_same ?uh)); (case uh => assumption); (case ue => wtm_at "bm")) | fail "bm"))
local macro_rules | `(tactic| wtm_at "sq") => `(tactic| (first | assumption | exact Xk.sq_of (by wtm_at "hx") | ((refine' Xk.sq_same ?uh ?ue); (case uh => assumption); (case ue => wtm_at "sm")) | fail "sq"))
local macro_rules | `(tactic| wtm_at "st") => `(tactic| (first | assumption | exact Xk.st_of (by wtm_at "hx") | ((refine' Xk.st_same ?uh ?ue); (case uh => assumption); (case ue => wtm_at "sm")) | fail "st"))
local macro_rules | `(tactic| wtm_at "side") => `(tactic| (first | assumption | decide | omega | (refine Or.inr ?_; omega) | (refine Or.inl ?_; omega) | (refine ⟨?_, ?_⟩ <;> omega) | (refine ⟨?_, ?_, ?_⟩ <;> first | omega | decide) | fail "side"))
local macro_rules | `(tactic| wtm_at "len") => `(tactic| (first | omega | (simp only [List.length_map, List.length_append, List.length_cons, List.length_nil, List.length_set, List.length_replicate] at *; omega) | exact Nat.le_of_ble_eq_true rfl | fail "len"))
local macro_rules | `(tactic| wtm_at "x") => `(tactic| (first
  | ((with_reducible refine' Xk.x_var ?a1 ?_); (case a1 => exact rfl))
  | (with_reducible refine Xk.x_c ?_)
  | (with_reducible refine Xk.x_op ?_)
  | (with_reducible refine Xk.x_I0 ?_)
  | ((with_reducible refine' Xk.x_I ?a1 ?_); (case a1 => wtm_at "side"))
  | (with_reducible refine Xk.x_cons ?_)
  | (with_reducible refine Xk.x_nil ?_)
  | (with_reducible refine Xk.x_cb ?_)
  | (with_reducible refine Xk.x_call ?_)
  | (with_reducible refine Xk.x_sasg ?_)
  | (with_reducible refine Xk.x_asg ?_)
  | (with_reducible refine Xk.x_ret ?_)
  | (with_reducible refine Xk.x_test ?_)
  | (with_reducible refine Xk.x_bl ?_)
  | (with_reducible refine Xk.x_isI ?_)
  | (with_reducible refine Xk.x_sif ?_)
  | (with_reducible refine Xk.x_ifS ?_)
  | (with_reducible refine Xk.x_and ?_)
  | (with_reducible refine Xk.x_or ?_)
  | (with_reducible refine Xk.x_not ?_)
  | (with_reducible refine Xk.x_B ?_)
  | (with_reducible refine Xk.x_nInt ?_)
  | (with_reducible refine Xk.x_nIntB ?_)
  | ((with_reducible refine' Xk.x_lenL ?a1 ?_); (case a1 => wtm_at "sq"))
  | ((with_reducible refine' Xk.x_lenT ?a1 ?_); (case a1 => wtm_at "st"))
  | (with_reducible refine Xk.x_un ?_)
  | (with_reducible refine Xk.x_U ?_)
  | ((with_reducible refine' Xk.x_eq ?a1 ?_); (case a1 => exact rfl))
  | ((with_reducible refine' Xk.x_ne ?a1 ?_); (case a1 => exact rfl))
  | ((with_reducible refine' Xk.x_ixL ?a1 ?a2 ?_); (case a1 => wtm_at "sq"); (case a2 => first | exact rfl | assumption | exact Xk.at_nat rfl (Xk.map_at (by assumption)) | exact Xk.at_nat rfl (by assumption)))
  | ((with_reducible refine' Xk.x_ixT ?a1 ?a2 ?_); (case a1 => wtm_at "st"); (case a2 => first | exact rfl | assumption | exact Xk.at_nat rfl (Xk.map_at (by assumption)) | exact Xk.at_nat rfl (by assumption)))
  | (with_reducible refine Xk.x_lst ?_)
  | (with_reducible refine Xk.x_tup ?_)
  | ((with_reducible refine' Xk.x_new ?a1 ?_); (case a1 => wtm_at "len"))
  | ((with_reducible refine' Xk.x_listL ?a1 ?_); (case a1 => wtm_at "sq"))
  | ((with_reducible refine' Xk.x_listT ?a1 ?_); (case a1 => wtm_at "st"))
  | ((with_reducible refine' Xk.x_tupleL ?a1 ?_); (case a1 => wtm_at "sq"))
  | ((with_reducible refine' Xk.x_tupleT ?a1 ?_); (case a1 => wtm_at "st"))
  | (with_reducible refine Xk.x_seq ?_)
  | (with_reducible refine Xk.x_next ?_)
  | (with_reducible refine Xk.x_sdrop ?_)
  | (with_reducible refine Xk.x_drop ?_)
  | (with_reducible refine Xk.x_bm ?_)
  | (with_reducible refine Xk.x_bm0 ?_)
  | ((with_reducible refine' Xk.x_tyL ?a1 ?_); (case a1 => wtm_at "sq"))
  | ((with_reducible refine' Xk.x_app ?a1 ?a2 ?_); (case a1 => wtm_at "hx"); (case a2 => wtm_at "len"))
  | (with_reducible refine Xk.x_sasgG ?_)
  | (with_reducible refine Xk.x_asgG ?_)
  | (with_reducible refine Xk.x_gName ?_)
  | ((with_reducible refine' Xk.x_gTup ?a1 ?a2 ?_); (case a1 => wtm_at "st"); (case a2 => exact rfl))
  | ((with_reducible refine' Xk.x_gLst ?a1 ?a2 ?_); (case a1 => wtm_at "sq"); (case a2 => exact rfl))
  | (with_reducible refine Xk.x_gCons ?_)
  | (with_reducible refine Xk.x_gNil ?_)
  | (with_reducible refine Xk.x_gSub ?_)
  | (with_reducible refine Xk.x_if ?_)
  | (with_reducible refine Xk.x_andV ?_)
  | (with_reducible refine Xk.x_orV ?_)
  | (with_reducible refine Xk.x_notV ?_)
  | (with_reducible refine Xk.x_chain ?_)
  | (with_reducible refine Xk.x_yes ?_)
  | (with_reducible refine Xk.x_sl ?_)
  | (with_reducible refine Xk.x_nopart ?_)
  | (with_reducible refine Xk.x_part ?_)
  | ((with_reducible refine' Xk.x_slL ?a1 ?_); (case a1 => wtm_at "sq"))
  | ((with_reducible refine' Xk.x_saug ?a1 ?_); (case a1 => exact rfl))
  | ((with_reducible refine' Xk.x_aug ?a1 ?_); (case a1 => exact rfl))
  | (with_reducible refine Xk.x_ipI ?_)
  | ((with_reducible refine' Xk.x_isiInt ?a1 ?_); (case a1 => first | exact Xk.kit_T (by decide +kernel) | exact Xk.kit_F (by decide +kernel)))
  | ((with_reducible refine' Xk.x_isiBl ?a1 ?_); (case a1 => first | exact Xk.kit_T (by decide +kernel) | exact Xk.kit_F (by decide +kernel)))
  | ((with_reducible refine' Xk.x_isiStr ?a1 ?_); (case a1 => first | exact Xk.kit_T (by decide +kernel) | exact Xk.kit_F (by decide +kernel)))
  | ((with_reducible refine' Xk.x_isiNon ?a1 ?_); (case a1 => first | exact Xk.kit_T (by decide +kernel) | exact Xk.kit_F (by decide +kernel)))
  | ((with_reducible refine' Xk.x_isiLst ?a1 ?a2 ?_); (case a1 => wtm_at "hx"); (case a2 => first | exact Xk.kit_T (by decide +kernel) | exact Xk.kit_F (by decide +kernel)))
  | ((with_reducible refine' Xk.x_isiTup ?a1 ?a2 ?_); (case a1 => wtm_at "hx"); (case a2 => first | exact Xk.kit_T (by decide +kernel) | exact Xk.kit_F (by decide +kernel)))
  | (with_reducible refine Xk.x_forR1 ?_)
  | (with_reducible refine Xk.x_forL1 ?_)
  | (with_reducible refine Xk.x_forT1 ?_)
  | (with_reducible refine Xk.x_brk ?_)
  | (with_reducible refine Xk.x_ct ?_)
  | (with_reducible refine Xk.x_retN ?_)
  | (with_reducible refine Xk.x_lcL1 ?_)
  | (with_reducible refine Xk.x_lcT1 ?_)
  | (with_reducible refine Xk.x_lcR1 ?_)
  | (with_reducible refine Xk.x_lcE1 ?_)
  | (with_reducible refine Xk.x_nocutW ?_)
  | (with_reducible refine Xk.x_nIsN ?_)
  | (with_reducible refine Xk.x_nNotN ?_)
  | (with_reducible refine Xk.x_and255 ?_)
  | (with_reducible refine Xk.x_wT ?_)
  | (with_reducible refine Xk.x_wF ?_)
  | (with_reducible refine Xk.x_lstRg ?_)
  | (with_reducible refine Xk.x_rg1 ?_)
  | ((with_reducible refine' Xk.x_nRg ?a1 ?_); (case a1 => omega))
  | (with_reducible refine L2.iteT ?_)
  | (with_reducible refine L2.iteF ?_)
  | (with_reducible refine Xk.x_nT ?_)
  | (with_reducible refine Xk.x_nF ?_)
  | ((with_reducible refine' Xk.x_dY ?a1 ?_); (case a1 => first | exact rfl | assumption | omega))
  | ((with_reducible refine' Xk.x_dN ?a1 ?_); (case a1 => first | assumption | omega | (intro z; cases z; done)))
  | ((with_reducible refine' Xk.x_ndY ?a1 ?_); (case a1 => first | exact rfl | assumption | omega))
  | ((with_reducible refine' Xk.x_ndN ?a1 ?_); (case a1 => first | assumption | omega | (intro z; cases z; done)))
  | (with_reducible refine Xk.x_lc2 ?_)
  | (with_reducible refine Xk.x_fld1 ?_)
  | ((with_reducible refine' Xk.x_rFld ?a1 ?a2 ?a3 ?a4 ?_); (case a1 => wtm_at "hx"); (case a2 => wtm_at "cls"); (case a3 => wtm_at "cls"); (case a4 => exact rfl))
  | (with_reducible refine Xk.x_ssfld ?_)
  | (with_reducible refine Xk.x_sfld ?_)
  | ((with_reducible refine' Xk.x_rSetF ?a1 ?a2 ?a3 ?a4 ?_); (case a1 => wtm_at "hx"); (case a2 => wtm_at "cls"); (case a3 => wtm_at "cls"); (case a4 => exact Nat.le_of_ble_eq_true rfl))
  | (with_reducible refine Xk.x_prop ?_)
  | ((with_reducible refine' Xk.x_rProp ?a1 ?_); (case a1 => wtm_at "hx"))
  | (with_reducible refine Xk.x_meth ?_)
  | ((with_reducible refine' Xk.x_rMeth ?a1 ?a2 ?_); (case a1 => wtm_at "hx"); (case a2 => exact rfl))
  | (with_reducible refine Xk.x_make ?_)
  | (with_reducible refine Xk.x_sdelT ?_)
  | (with_reducible refine Xk.x_delT ?_)
  | (with_reducible refine Xk.x_nMax2 ?_)
  | (with_reducible refine Xk.x_nMin2 ?_)
  | ((with_reducible refine' Xk.x_nRepS ?a1 ?a2 ?_); (case a1 => wtm_at "side"); (case a2 => decide))
  | (with_reducible refine Xk.x_inS ?_)
  | (with_reducible refine Xk.x_notInS ?_)
  | ((with_reducible refine' Xk.x_nAddS ?a1 ?_); (case a1 => wtm_at "len"))
  | ((with_reducible refine' Xk.x_nLenS ?a1 ?_); (case a1 => wtm_at "len"))
  | ((with_reducible refine' Xk.x_slS ?a1 ?_); (case a1 => wtm_at "len"))
  | (with_reducible refine Xk.x_lcS1 ?_)
  | (with_reducible refine Xk.x_forS1 ?_)
  | (with_reducible refine Xk.x_ord ?_)
  | (with_reducible refine Xk.x_dget1 ?_)
  | ((with_reducible refine' Xk.x_rGetD ?a1 ?_); (case a1 => wtm_at "hx"))
  | ((with_reducible refine' Xk.x_rGet1 ?a1 ?_); (case a1 => wtm_at "hx"))
  | (with_reducible refine Xk.x_dget2 ?_)
  | ((with_reducible refine' Xk.x_rGetE ?a1 ?_); (case a1 => wtm_at "hx"))
  | ((with_reducible refine' Xk.x_rGet2 ?a1 ?_); (case a1 => wtm_at "hx"))
  | (with_reducible refine Xk.x_dpop1 ?_)
  | ((with_reducible refine' Xk.x_rPopD ?a1 ?_); (case a1 => wtm_at "hx"))
  | (with_reducible refine Xk.x_dpop2 ?_)
  | ((with_reducible refine' Xk.x_rPopE ?a1 ?_); (case a1 => wtm_at "hx"))
  | (with_reducible refine Xk.x_din ?_)
  | ((with_reducible refine' Xk.x_rDInK ?a1 ?_); (case a1 => wtm_at "hx"))
  | (with_reducible refine Xk.x_dnew ?_)
  | (with_reducible refine Xk.x_notBl ?_)
  | (with_reducible refine Xk.x_isBl ?_)
  | (with_reducible refine Xk.x_dget ?_)
  | ((with_reducible refine' Xk.x_rDG ?a1 ?a2 ?_); (case a1 => wtm_at "hx"); (case a2 => wtm_at "key"))
  | (with_reducible refine Xk.x_sdput ?_)
  | (with_reducible refine Xk.x_dput ?_)
  | ((with_reducible refine' Xk.x_rDP ?a1 ?a2 ?a3 ?_); (case a1 => wtm_at "hx"); (case a2 => wtm_at "few"); (case a3 => wtm_at "key"))
  | (with_reducible refine Xk.x_pcons ?_)
  | (with_reducible refine Xk.x_pnil ?_)
  | (with_reducible refine Xk.x_forRev1 ?_)
  | (with_reducible refine Xk.x_forR2 ?_)
  | ((with_reducible refine' Xk.x_geP ?a1 ?a2 ?_); (case a1 => wtm_at "st"); (case a2 => wtm_at "st"))
  | ((with_reducible refine' Xk.x_ltP ?a1 ?a2 ?_); (case a1 => wtm_at "st"); (case a2 => wtm_at "st"))
  | (with_reducible refine Xk.x_lcZ1 ?_)
  | (with_reducible refine Xk.x_lcET1 ?_)
  | (with_reducible refine Xk.x_dcT1 ?_)
  | (with_reducible refine Xk.x_nLtS ?_)
  | (with_reducible refine Xk.x_nLeS ?_)
  | (with_reducible refine Xk.x_nGeS ?_)
  | (with_reducible refine Xk.x_spar ?_)
  | (with_reducible refine Xk.x_par ?_)
  | (with_reducible refine Xk.x_rPar ?_)
  | (with_reducible refine Xk.x_gSubSl ?_)
  | fail "x"))
local macro_rules | `(tactic| wtm_at "xs") => `(tactic| ((repeat wtm_at "x"); try dsimp only [L2.wipe, List.set, List.append_nil, List.cons_append, List.nil_append]))
local macro_rules | `(tactic| wtm_at "x0") => `(tactic| (dsimp only [L2.cxOf, L2.start, List.map, List.length, List.replicate, Nat.reduceAdd, Nat.reduceSub, List.cons_append, List.nil_append]))
local macro_rules | `(tactic| wtm_at "xc") => `(tactic| (dsimp only [L2.wipe, List.set, List.append_nil, List.cons_append, List.nil_append]))

local macro_rules | `(tactic| wtm_at "x") => `(tactic| (first | (with_reducible refine Xk.x_dcTL1 ?_) | (with_reducible refine Xk.x_forE1 ?_) | (with_reducible refine Xk.x_dnewT ?_) | (with_reducible refine Xk.x_dnin ?_) | fail "x"))
namespace K80
open PySem PySem.Spec PyProof.Rows L2
def topS (i : Nat) : Stmt := PySem.Challenge.pw_crosskeep_k80_orders_are_judged.main.body.getD i (.Pass ⟨0, 0, 0, 0⟩)
abbrev s__wall : Stmt := topS 0
abbrev N__wall : List Str := ["k"]
theorem sc__wall : FnScope ["k"] ["k"] (defScope s__wall) := ⟨rfl, rfl, rfl, by decide +kernel, rfl, by decide +kernel, by decide +kernel⟩
abbrev s_is_integer : Stmt := topS 2
abbrev N_is_integer : List Str := ["data"]
theorem sc_is_integer : FnScope ["data"] ["data"] (defScope s_is_integer) := ⟨rfl, rfl, rfl, by decide +kernel, rfl, by decide +kernel, by decide +kernel⟩
abbrev s_is_text : Stmt := topS 6
abbrev N_is_text : List Str := ["data", "sign"]
theorem sc_is_text : FnScope ["data", "sign"] ["data"] (defScope s_is_text) := ⟨rfl, rfl, rfl, by decide +kernel, rfl, by decide +kernel, by decide +kernel⟩
abbrev s_is_integer_within : Stmt := topS 10
abbrev N_is_integer_within : List Str := ["data", "most"]
theorem sc_is_integer_within : FnScope ["data", "most"] ["data", "most"] (defScope s_is_integer_within) := ⟨rfl, rfl, rfl, by decide +kernel, rfl, by decide +kernel, by decide +kernel⟩
abbrev s_is_value : Stmt := topS 11
abbrev N_is_value : List Str := ["data"]
theorem sc_is_value : FnScope ["data"] ["data"] (defScope s_is_value) := ⟨rfl, rfl, rfl, by decide +kernel, rfl, by decide +kernel, by decide +kernel⟩
abbrev s_key_of_deed : Stmt := topS 13
abbrev N_key_of_deed : List Str := ["deed"]
theorem sc_key_of_deed : FnScope ["deed"] ["deed"] (defScope s_key_of_deed) := ⟨rfl, rfl, rfl, by decide +kernel, rfl, by decide +kernel, by decide +kernel⟩
abbrev s_apply_deed : Stmt := topS 14
abbrev N_apply_deed : List Str := ["rows", "deed", "word", "key", "before"]
theorem sc_apply_deed : FnScope ["rows", "deed", "word", "key", "before"] ["rows", "deed"] (defScope s_apply_deed) := ⟨rfl, rfl, rfl, by decide +kernel, rfl, by decide +kernel, by decide +kernel⟩
abbrev s__add : Stmt := topS 15
abbrev N__add : List Str := ["rows", "key", "number", "before"]
theorem sc__add : FnScope ["rows", "key", "number", "before"] ["rows", "key", "number"] (defScope s__add) := ⟨rfl, rfl, rfl, by decide +kernel, rfl, by decide +kernel, by decide +kernel⟩
abbrev s_do_deal : Stmt := topS 17
abbrev N_do_deal : List Str := ["rows", "deal", "checks", "deeds", "values", "key", "value", "deed"]
theorem sc_do_deal : FnScope ["rows", "deal", "checks", "deeds", "values", "key", "value", "deed"] ["rows", "deal"] (defScope s_do_deal) := ⟨rfl, rfl, rfl, by decide +kernel, rfl, by decide +kernel, by decide +kernel⟩
abbrev s_Store___init__ : Stmt := inClass (topS 19) 0
abbrev N_Store___init__ : List Str := ["self", "rows"]
theorem sc_Store___init__ : FnScope ["self", "rows"] ["self", "rows"] (defScope s_Store___init__) := ⟨rfl, rfl, rfl, by decide +kernel, rfl, by decide +kernel, by decide +kernel⟩
abbrev s_Store_do : Stmt := inClass (topS 19) 1
abbrev N_Store_do : List Str := ["self", "deal"]
theorem sc_Store_do : FnScope ["self", "deal"] ["self", "deal"] (defScope s_Store_do) := ⟨rfl, rfl, rfl, by decide +kernel, rfl, by decide +kernel, by decide +kernel⟩
abbrev s_Store_fork : Stmt := inClass (topS 19) 2
abbrev N_Store_fork : List Str := ["self"]
theorem sc_Store_fork : FnScope ["self"] ["self"] (defScope s_Store_fork) := ⟨rfl, rfl, rfl, by decide +kernel, rfl, by decide +kernel, by decide +kernel⟩
abbrev s_fault_of : Stmt := topS 25
abbrev N_fault_of : List Str := ["history", "order", "records", "fault"]
theorem sc_fault_of : FnScope ["history", "order", "records", "fault"] ["history", "order"] (defScope s_fault_of) := ⟨rfl, rfl, rfl, by decide +kernel, rfl, by decide +kernel, by decide +kernel⟩
abbrev s_store_behind : Stmt := topS 26
abbrev N_store_behind : List Str := ["history", "order", "records", "store", "client", "number", "_"]
theorem sc_store_behind : FnScope ["history", "order", "records", "store", "client", "number", "_"] ["history", "order"] (defScope s_store_behind) := ⟨rfl, rfl, rfl, by decide +kernel, rfl, by decide +kernel, by decide +kernel⟩
abbrev s_is_decided : Stmt := topS 27
abbrev N_is_decided : List Str := ["answer"]
theorem sc_is_decided : FnScope ["answer"] ["answer"] (defScope s_is_decided) := ⟨rfl, rfl, rfl, by decide +kernel, rfl, by decide +kernel, by decide +kernel⟩
abbrev s__by_name : Stmt := topS 28
abbrev N__by_name : List Str := ["history", "record"]
theorem sc__by_name : FnScope ["history", "record"] ["history"] (defScope s__by_name) := ⟨rfl, rfl, rfl, by decide +kernel, rfl, by decide +kernel, by decide +kernel⟩
abbrev s__fault_of_names : Stmt := topS 29
abbrev N__fault_of_names : List Str := ["records", "order", "ahead", "place", "client", "number", "_"]
theorem sc__fault_of_names : FnScope ["records", "order", "ahead", "place", "client", "number", "_"] ["records", "order"] (defScope s__fault_of_names) := ⟨rfl, rfl, rfl, by decide +kernel, rfl, by decide +kernel, by decide +kernel⟩
abbrev s__fault_of_answers : Stmt := topS 30
abbrev N__fault_of_answers : List Str := ["records", "order", "store", "place", "client", "number", "answer", "record"]
theorem sc__fault_of_answers : FnScope ["records", "order", "store", "place", "client", "number", "answer", "record"] ["records", "order"] (defScope s__fault_of_answers) := ⟨rfl, rfl, rfl, by decide +kernel, rfl, by decide +kernel, by decide +kernel⟩
abbrev s__missing : Stmt := topS 31
abbrev N__missing : List Str := ["history", "order", "names", "place", "record", "client", "number", "_"]
theorem sc__missing : FnScope ["history", "order", "names", "place", "record", "client", "number", "_"] ["history", "order"] (defScope s__missing) := ⟨rfl, rfl, rfl, by decide +kernel, rfl, by decide +kernel, by decide +kernel⟩
abbrev s__late : Stmt := topS 32
abbrev N__late : List Str := ["records", "order", "last_asked", "place", "client", "number", "_", "record"]
theorem sc__late : FnScope ["records", "order", "last_asked", "place", "client", "number", "_", "record"] ["records", "order"] (defScope s__late) := ⟨rfl, rfl, rfl, by decide +kernel, rfl, by decide +kernel, by decide +kernel⟩
abbrev s__law_number : Stmt := topS 34
abbrev N__law_number : List Str := ["script", "k", "cell", "first", "second"]
theorem sc__law_number : FnScope ["script", "k", "cell", "first", "second"] ["script", "k"] (defScope s__law_number) := ⟨rfl, rfl, rfl, by decide +kernel, rfl, by decide +kernel, by decide +kernel⟩
abbrev s__law_take : Stmt := topS 35
abbrev N__law_take : List Str := ["box", "size", "digit"]
theorem sc__law_take : FnScope ["box", "size", "digit"] ["box", "size"] (defScope s__law_take) := ⟨rfl, rfl, rfl, by decide +kernel, rfl, by decide +kernel, by decide +kernel⟩
abbrev s__law_key : Stmt := topS 36
abbrev N__law_key : List Str := ["box", "sign", "signs", "size", "spot", "text", "k"]
theorem sc__law_key : FnScope ["box", "sign", "signs", "size", "spot", "text", "k"] ["box", "sign"] (defScope s__law_key) := ⟨rfl, rfl, rfl, by decide +kernel, rfl, by decide +kernel, by decide +kernel⟩
abbrev s__law_keys : Stmt := topS 37
abbrev N__law_keys : List Str := ["box", "found", "sign", "key"]
theorem sc__law_keys : FnScope ["box", "found", "sign", "key"] ["box"] (defScope s__law_keys) := ⟨rfl, rfl, rfl, by decide +kernel, rfl, by decide +kernel, by decide +kernel⟩
abbrev s__law_value : Stmt := topS 38
abbrev N__law_value : List Str := ["box", "kind"]
theorem sc__law_value : FnScope ["box", "kind"] ["box"] (defScope s__law_value) := ⟨rfl, rfl, rfl, by decide +kernel, rfl, by decide +kernel, by decide +kernel⟩
abbrev s__law_maybe : Stmt := topS 39
abbrev N__law_maybe : List Str := ["box"]
theorem sc__law_maybe : FnScope ["box"] ["box"] (defScope s__law_maybe) := ⟨rfl, rfl, rfl, by decide +kernel, rfl, by decide +kernel, by decide +kernel⟩
abbrev s__law_deed : Stmt := topS 40
abbrev N__law_deed : List Str := ["box", "keys", "key", "kind"]
theorem sc__law_deed : FnScope ["box", "keys", "key", "kind"] ["box", "keys"] (defScope s__law_deed) := ⟨rfl, rfl, rfl, by decide +kernel, rfl, by decide +kernel, by decide +kernel⟩
abbrev s__law_deal : Stmt := topS 41
abbrev N__law_deal : List Str := ["box", "keys", "rows", "checks", "k", "key", "value", "deeds"]
theorem sc__law_deal : FnScope ["box", "keys", "rows", "checks", "k", "key", "value", "deeds"] ["box", "keys", "rows"] (defScope s__law_deal) := ⟨rfl, rfl, rfl, by decide +kernel, rfl, by decide +kernel, by decide +kernel⟩
abbrev s__law_done : Stmt := topS 42
abbrev N__law_done : List Str := ["rows", "deed", "key", "was", "total"]
theorem sc__law_done : FnScope ["rows", "deed", "key", "was", "total"] ["rows", "deed"] (defScope s__law_done) := ⟨rfl, rfl, rfl, by decide +kernel, rfl, by decide +kernel, by decide +kernel⟩
abbrev s__law_do : Stmt := topS 43
abbrev N__law_do : List Str := ["rows", "deal", "values", "check", "deed"]
theorem sc__law_do : FnScope ["rows", "deal", "values", "check", "deed"] ["rows", "deal"] (defScope s__law_do) := ⟨rfl, rfl, rfl, by decide +kernel, rfl, by decide +kernel, by decide +kernel⟩
abbrev s__law_history : Stmt := topS 45
abbrev N__law_history : List Str := ["script", "keys", "count", "rows", "order", "history", "events", "open_calls", "numbers", "k", "box", "client", "call", "deal", "other", "row"]
theorem sc__law_history : FnScope ["script", "keys", "count", "rows", "order", "history", "events", "open_calls", "numbers", "k", "box", "client", "call", "deal", "other", "row"] ["script", "keys", "count"] (defScope s__law_history) := ⟨rfl, rfl, rfl, by decide +kernel, rfl, by decide +kernel, by decide +kernel⟩
abbrev s__law_closed : Stmt := topS 46
abbrev N__law_closed : List Str := ["row", "call", "events"]
theorem sc__law_closed : FnScope ["row", "call", "events"] ["row", "call", "events"] (defScope s__law_closed) := ⟨rfl, rfl, rfl, by decide +kernel, rfl, by decide +kernel, by decide +kernel⟩
abbrev s__law_fate : Stmt := topS 47
abbrev N__law_fate : List Str := ["box", "rows", "call", "order", "answer"]
theorem sc__law_fate : FnScope ["box", "rows", "call", "order", "answer"] ["box", "rows", "call", "order"] (defScope s__law_fate) := ⟨rfl, rfl, rfl, by decide +kernel, rfl, by decide +kernel, by decide +kernel⟩
abbrev s__law_record : Stmt := topS 48
abbrev N__law_record : List Str := ["history", "name", "found", "row"]
theorem sc__law_record : FnScope ["history", "name", "found", "row"] ["history", "name"] (defScope s__law_record) := ⟨rfl, rfl, rfl, by decide +kernel, rfl, by decide +kernel, by decide +kernel⟩
abbrev s__law_names_fault : Stmt := topS 49
abbrev N__law_names_fault : List Str := ["history", "order", "k", "row"]
theorem sc__law_names_fault : FnScope ["history", "order", "k", "row"] ["history", "order"] (defScope s__law_names_fault) := ⟨rfl, rfl, rfl, by decide +kernel, rfl, by decide +kernel, by decide +kernel⟩
abbrev s__law_answers_fault : Stmt := topS 50
abbrev N__law_answers_fault : List Str := ["history", "order", "rows", "k", "record"]
theorem sc__law_answers_fault : FnScope ["history", "order", "rows", "k", "record"] ["history", "order"] (defScope s__law_answers_fault) := ⟨rfl, rfl, rfl, by decide +kernel, rfl, by decide +kernel, by decide +kernel⟩
abbrev s__law_rest_fault : Stmt := topS 51
abbrev N__law_rest_fault : List Str := ["history", "order", "k", "row", "record", "other"]
theorem sc__law_rest_fault : FnScope ["history", "order", "k", "row", "record", "other"] ["history", "order"] (defScope s__law_rest_fault) := ⟨rfl, rfl, rfl, by decide +kernel, rfl, by decide +kernel, by decide +kernel⟩
abbrev s__law_fault : Stmt := topS 52
abbrev N__law_fault : List Str := ["history", "order", "fault"]
theorem sc__law_fault : FnScope ["history", "order", "fault"] ["history", "order"] (defScope s__law_fault) := ⟨rfl, rfl, rfl, by decide +kernel, rfl, by decide +kernel, by decide +kernel⟩
abbrev s__law_changed : Stmt := topS 53
abbrev N__law_changed : List Str := ["history", "order", "box", "kind", "at", "row", "one"]
theorem sc__law_changed : FnScope ["history", "order", "box", "kind", "at", "row", "one"] ["history", "order", "box"] (defScope s__law_changed) := ⟨rfl, rfl, rfl, by decide +kernel, rfl, by decide +kernel, by decide +kernel⟩
abbrev s__law_other : Stmt := topS 54
abbrev N__law_other : List Str := ["record", "name"]
theorem sc__law_other : FnScope ["record", "name"] ["record", "name"] (defScope s__law_other) := ⟨rfl, rfl, rfl, by decide +kernel, rfl, by decide +kernel, by decide +kernel⟩
abbrev s_law : Stmt := topS 55
abbrev N_law : List Str := ["script", "box", "keys", "pair", "history", "order", "rows", "row", "changed", "given", "told"]
theorem sc_law : FnScope ["script", "box", "keys", "pair", "history", "order", "rows", "row", "changed", "given", "told"] ["script"] (defScope s_law) := ⟨rfl, rfl, rfl, by decide +kernel, rfl, by decide +kernel, by decide +kernel⟩
structure Txt (K : PySem.W.Frag) (mg : Str → Option Value) where
  C_Store : Addr
  Cls_Store : Cls K C_Store
  g_Store : mg "Store" = some (.ref C_Store)
  A_Store_rows : NoAttr K C_Store "rows"
  t_ANSWER : Tok
  g_ANSWER : mg "ANSWER" = some (.int 5 t_ANSWER)
  t_ANSWERED : Tok
  g_ANSWERED : mg "ANSWERED" = some (.int 4 t_ANSWERED)
  t_ASKED : Tok
  g_ASKED : mg "ASKED" = some (.int 3 t_ASKED)
  t_DEAL : Tok
  g_DEAL : mg "DEAL" = some (.int 2 t_DEAL)
  t_HIGH_SIGNS : Tok
  g_HIGH_SIGNS : mg "HIGH_SIGNS" = some (.str "&'()*+,-./0123456789:;<=>?@ABCDEFGHIJKLMNOPQRSTUVWXYZ[\\]^_`abcdefghijklmnopqrstuvwxyz{|}~" t_HIGH_SIGNS)
  t_LOW_SIGNS : Tok
  g_LOW_SIGNS : mg "LOW_SIGNS" = some (.str " !\"#$" t_LOW_SIGNS)
  t_MOST_VALUE : Tok
  g_MOST_VALUE : mg "MOST_VALUE" = some (.int 1000000000000000 t_MOST_VALUE)
  t_VALUE_SIGNS : Tok
  g_VALUE_SIGNS : mg "VALUE_SIGNS" = some (.int 20 t_VALUE_SIGNS)
  f__wall : Addr
  d__wall : FuncData
  F__wall : Fun K "_wall" "_wall" s__wall f__wall d__wall
  b__wall : Binds K d__wall ["k"] []
  g__wall : mg "_wall" = some (.ref f__wall)
  f_is_integer : Addr
  d_is_integer : FuncData
  F_is_integer : Fun K "is_integer" "is_integer" s_is_integer f_is_integer d_is_integer
  b_is_integer : Binds K d_is_integer ["data"] []
  g_is_integer : mg "is_integer" = some (.ref f_is_integer)
  f_is_text : Addr
  d_is_text : FuncData
  F_is_text : Fun K "is_text" "is_text" s_is_text f_is_text d_is_text
  b_is_text : Binds K d_is_text ["data"] []
  g_is_text : mg "is_text" = some (.ref f_is_text)
  f_is_integer_within : Addr
  d_is_integer_within : FuncData
  F_is_integer_within : Fun K "is_integer_within" "is_integer_within" s_is_integer_within f_is_integer_within d_is_integer_within
  b_is_integer_within : Binds K d_is_integer_within ["data", "most"] []
  g_is_integer_within : mg "is_integer_within" = some (.ref f_is_integer_within)
  f_is_value : Addr
  d_is_value : FuncData
  F_is_value : Fun K "is_value" "is_value" s_is_value f_is_value d_is_value
  b_is_value : Binds K d_is_value ["data"] []
  g_is_value : mg "is_value" = some (.ref f_is_value)
  f_key_of_deed : Addr
  d_key_of_deed : FuncData
  F_key_of_deed : Fun K "key_of_deed" "key_of_deed" s_key_of_deed f_key_of_deed d_key_of_deed
  b_key_of_deed : Binds K d_key_of_deed ["deed"] []
  g_key_of_deed : mg "key_of_deed" = some (.ref f_key_of_deed)
  f_apply_deed : Addr
  d_apply_deed : FuncData
  F_apply_deed : Fun K "apply_deed" "apply_deed" s_apply_deed f_apply_deed d_apply_deed
  b_apply_deed : Binds K d_apply_deed ["rows", "deed"] []
  g_apply_deed : mg "apply_deed" = some (.ref f_apply_deed)
  f__add : Addr
  d__add : FuncData
  F__add : Fun K "_add" "_add" s__add f__add d__add
  b__add : Binds K d__add ["rows", "key", "number"] []
  g__add : mg "_add" = some (.ref f__add)
  f_do_deal : Addr
  d_do_deal : FuncData
  F_do_deal : Fun K "do_deal" "do_deal" s_do_deal f_do_deal d_do_deal
  b_do_deal : Binds K d_do_deal ["rows", "deal"] []
  g_do_deal : mg "do_deal" = some (.ref f_do_deal)
  f_Store___init__ : Addr
  d_Store___init__ : FuncData
  F_Store___init__ : FunD K "__init__" "Store.__init__" (defArgs s_Store___init__) (defBody s_Store___init__) (defScope s_Store___init__) [.non] [] f_Store___init__ d_Store___init__
  D0_Store___init__ : List Value
  V0_Store___init__ : Vals [.non] D0_Store___init__
  b0_Store___init__ : Binds K d_Store___init__ ["self", "rows"] D0_Store___init__
  D1_Store___init__ : List Value
  V1_Store___init__ : Vals [] D1_Store___init__
  b1_Store___init__ : Binds K d_Store___init__ ["self", "rows"] D1_Store___init__
  Mk_Store : Mk K C_Store f_Store___init__
  f_Store_do : Addr
  d_Store_do : FuncData
  F_Store_do : Fun K "do" "Store.do" s_Store_do f_Store_do d_Store_do
  b_Store_do : Binds K d_Store_do ["self", "deal"] []
  M_Store_do : Meth K C_Store "do" f_Store_do
  f_Store_fork : Addr
  d_Store_fork : FuncData
  F_Store_fork : Fun K "fork" "Store.fork" s_Store_fork f_Store_fork d_Store_fork
  b_Store_fork : Binds K d_Store_fork ["self"] []
  M_Store_fork : Meth K C_Store "fork" f_Store_fork
  f_fault_of : Addr
  d_fault_of : FuncData
  F_fault_of : Fun K "fault_of" "fault_of" s_fault_of f_fault_of d_fault_of
  b_fault_of : Binds K d_fault_of ["history", "order"] []
  g_fault_of : mg "fault_of" = some (.ref f_fault_of)
  f_store_behind : Addr
  d_store_behind : FuncData
  F_store_behind : Fun K "store_behind" "store_behind" s_store_behind f_store_behind d_store_behind
  b_store_behind : Binds K d_store_behind ["history", "order"] []
  g_store_behind : mg "store_behind" = some (.ref f_store_behind)
  f_is_decided : Addr
  d_is_decided : FuncData
  F_is_decided : Fun K "is_decided" "is_decided" s_is_decided f_is_decided d_is_decided
  b_is_decided : Binds K d_is_decided ["answer"] []
  g_is_decided : mg "is_decided" = some (.ref f_is_decided)
  f__by_name : Addr
  d__by_name : FuncData
  F__by_name : Fun K "_by_name" "_by_name" s__by_name f__by_name d__by_name
  b__by_name : Binds K d__by_name ["history"] []
  g__by_name : mg "_by_name" = some (.ref f__by_name)
  f__fault_of_names : Addr
  d__fault_of_names : FuncData
  F__fault_of_names : Fun K "_fault_of_names" "_fault_of_names" s__fault_of_names f__fault_of_names d__fault_of_names
  b__fault_of_names : Binds K d__fault_of_names ["records", "order"] []
  g__fault_of_names : mg "_fault_of_names" = some (.ref f__fault_of_names)
  f__fault_of_answers : Addr
  d__fault_of_answers : FuncData
  F__fault_of_answers : Fun K "_fault_of_answers" "_fault_of_answers" s__fault_of_answers f__fault_of_answers d__fault_of_answers
  b__fault_of_answers : Binds K d__fault_of_answers ["records", "order"] []
  g__fault_of_answers : mg "_fault_of_answers" = some (.ref f__fault_of_answers)
  f__missing : Addr
  d__missing : FuncData
  F__missing : Fun K "_missing" "_missing" s__missing f__missing d__missing
  b__missing : Binds K d__missing ["history", "order"] []
  g__missing : mg "_missing" = some (.ref f__missing)
  f__late : Addr
  d__late : FuncData
  F__late : Fun K "_late" "_late" s__late f__late d__late
  b__late : Binds K d__late ["records", "order"] []
  g__late : mg "_late" = some (.ref f__late)
  f__law_number : Addr
  d__law_number : FuncData
  F__law_number : Fun K "_law_number" "_law_number" s__law_number f__law_number d__law_number
  b__law_number : Binds K d__law_number ["script", "k"] []
  g__law_number : mg "_law_number" = some (.ref f__law_number)
  f__law_take : Addr
  d__law_take : FuncData
  F__law_take : Fun K "_law_take" "_law_take" s__law_take f__law_take d__law_take
  b__law_take : Binds K d__law_take ["box", "size"] []
  g__law_take : mg "_law_take" = some (.ref f__law_take)
  f__law_key : Addr
  d__law_key : FuncData
  F__law_key : Fun K "_law_key" "_law_key" s__law_key f__law_key d__law_key
  b__law_key : Binds K d__law_key ["box", "sign"] []
  g__law_key : mg "_law_key" = some (.ref f__law_key)
  f__law_keys : Addr
  d__law_keys : FuncData
  F__law_keys : Fun K "_law_keys" "_law_keys" s__law_keys f__law_keys d__law_keys
  b__law_keys : Binds K d__law_keys ["box"] []
  g__law_keys : mg "_law_keys" = some (.ref f__law_keys)
  f__law_value : Addr
  d__law_value : FuncData
  F__law_value : Fun K "_law_value" "_law_value" s__law_value f__law_value d__law_value
  b__law_value : Binds K d__law_value ["box"] []
  g__law_value : mg "_law_value" = some (.ref f__law_value)
  f__law_maybe : Addr
  d__law_maybe : FuncData
  F__law_maybe : Fun K "_law_maybe" "_law_maybe" s__law_maybe f__law_maybe d__law_maybe
  b__law_maybe : Binds K d__law_maybe ["box"] []
  g__law_maybe : mg "_law_maybe" = some (.ref f__law_maybe)
  f__law_deed : Addr
  d__law_deed : FuncData
  F__law_deed : Fun K "_law_deed" "_law_deed" s__law_deed f__law_deed d__law_deed
  b__law_deed : Binds K d__law_deed ["box", "keys"] []
  g__law_deed : mg "_law_deed" = some (.ref f__law_deed)
  f__law_deal : Addr
  d__law_deal : FuncData
  F__law_deal : Fun K "_law_deal" "_law_deal" s__law_deal f__law_deal d__law_deal
  b__law_deal : Binds K d__law_deal ["box", "keys", "rows"] []
  g__law_deal : mg "_law_deal" = some (.ref f__law_deal)
  f__law_done : Addr
  d__law_done : FuncData
  F__law_done : Fun K "_law_done" "_law_done" s__law_done f__law_done d__law_done
  b__law_done : Binds K d__law_done ["rows", "deed"] []
  g__law_done : mg "_law_done" = some (.ref f__law_done)
  f__law_do : Addr
  d__law_do : FuncData
  F__law_do : Fun K "_law_do" "_law_do" s__law_do f__law_do d__law_do
  b__law_do : Binds K d__law_do ["rows", "deal"] []
  g__law_do : mg "_law_do" = some (.ref f__law_do)
  f__law_history : Addr
  d__law_history : FuncData
  F__law_history : Fun K "_law_history" "_law_history" s__law_history f__law_history d__law_history
  b__law_history : Binds K d__law_history ["script", "keys", "count"] []
  g__law_history : mg "_law_history" = some (.ref f__law_history)
  f__law_closed : Addr
  d__law_closed : FuncData
  F__law_closed : Fun K "_law_closed" "_law_closed" s__law_closed f__law_closed d__law_closed
  b__law_closed : Binds K d__law_closed ["row", "call", "events"] []
  g__law_closed : mg "_law_closed" = some (.ref f__law_closed)
  f__law_fate : Addr
  d__law_fate : FuncData
  F__law_fate : Fun K "_law_fate" "_law_fate" s__law_fate f__law_fate d__law_fate
  b__law_fate : Binds K d__law_fate ["box", "rows", "call", "order"] []
  g__law_fate : mg "_law_fate" = some (.ref f__law_fate)
  f__law_record : Addr
  d__law_record : FuncData
  F__law_record : Fun K "_law_record" "_law_record" s__law_record f__law_record d__law_record
  b__law_record : Binds K d__law_record ["history", "name"] []
  g__law_record : mg "_law_record" = some (.ref f__law_record)
  f__law_names_fault : Addr
  d__law_names_fault : FuncData
  F__law_names_fault : Fun K "_law_names_fault" "_law_names_fault" s__law_names_fault f__law_names_fault d__law_names_fault
  b__law_names_fault : Binds K d__law_names_fault ["history", "order"] []
  g__law_names_fault : mg "_law_names_fault" = some (.ref f__law_names_fault)
  f__law_answers_fault : Addr
  d__law_answers_fault : FuncData
  F__law_answers_fault : Fun K "_law_answers_fault" "_law_answers_fault" s__law_answers_fault f__law_answers_fault d__law_answers_fault
  b__law_answers_fault : Binds K d__law_answers_fault ["history", "order"] []
  g__law_answers_fault : mg "_law_answers_fault" = some (.ref f__law_answers_fault)
  f__law_rest_fault : Addr
  d__law_rest_fault : FuncData
  F__law_rest_fault : Fun K "_law_rest_fault" "_law_rest_fault" s__law_rest_fault f__law_rest_fault d__law_rest_fault
  b__law_rest_fault : Binds K d__law_rest_fault ["history", "order"] []
  g__law_rest_fault : mg "_law_rest_fault" = some (.ref f__law_rest_fault)
  f__law_fault : Addr
  d__law_fault : FuncData
  F__law_fault : Fun K "_law_fault" "_law_fault" s__law_fault f__law_fault d__law_fault
  b__law_fault : Binds K d__law_fault ["history", "order"] []
  g__law_fault : mg "_law_fault" = some (.ref f__law_fault)
  f__law_changed : Addr
  d__law_changed : FuncData
  F__law_changed : Fun K "_law_changed" "_law_changed" s__law_changed f__law_changed d__law_changed
  b__law_changed : Binds K d__law_changed ["history", "order", "box"] []
  g__law_changed : mg "_law_changed" = some (.ref f__law_changed)
  f__law_other : Addr
  d__law_other : FuncData
  F__law_other : Fun K "_law_other" "_law_other" s__law_other f__law_other d__law_other
  b__law_other : Binds K d__law_other ["record", "name"] []
  g__law_other : mg "_law_other" = some (.ref f__law_other)
  f_law : Addr
  d_law : FuncData
  F_law : Fun K "law" "law" s_law f_law d_law
  b_law : Binds K d_law ["script"] []
  g_law : mg "law" = some (.ref f_law)
  m_abs : mg "abs" = none
  m_all : mg "all" = none
  m_bool : mg "bool" = none
  m_dict : mg "dict" = none
  m_enumerate : mg "enumerate" = none
  m_int : mg "int" = none
  m_isinstance : mg "isinstance" = none
  m_len : mg "len" = none
  m_list : mg "list" = none
  m_max : mg "max" = none
  m_range : mg "range" = none
  m_str : mg "str" = none
  m_tuple : mg "tuple" = none
section
variable {P : Program} {w : World} {K : PySem.W.Frag} {mg : Str → Option Value} {base : Heap}
def sp__law_number (K : PySem.W.Frag) : Sp := fun vs H Q _ => ∃ (a : Addr) (k : Int) (ns : List Int), vs = [.ref a, .int k] ∧ SqL K H a (ns.map V.int) ∧ ns.length ≤ 63 ∧ 0 ≤ k ∧ k ≤ 1000 ∧ ∀ n : Int, 0 ≤ n → Q (.int n) H
theorem ok__law_number (T : Txt K mg) : FnOk P w K mg base CX0 1 T.f__law_number T.d__law_number ["script", "k"] (sp__law_number K) := by
  refine T.F__law_number.ok sc__law_number (fun vs H Q E h => ?_) (fun cdv A outer s H vs Q E hr h => ?_)
  · obtain ⟨a, k, ns, rfl, _⟩ := h
    rfl
  obtain ⟨a, k, ns, rfl, hS, hl, hk, hk2, q⟩ := h
  refine ⟨_, (pss_cons (ps_set (i := 2) sc__law_number.nd rfl (Or.inl rfl) (pe_int))
      (Evl.pss_cut (ps_if (pt_cmpR op_gt (pe_callB (Xk.k_len (K := K) (by rfl)) (by rfl) T.m_len PySem.boot_len (pa_cons (pv 0) pa_nil)) (pe_int) (nomark _)) (pss_one (ps_set (i := 2) sc__law_number.nd rfl (Or.inl rfl) (pe_ix (Xk.k_ixL (K := K) (by rfl)) (pv 0) (pe_op op_mod (pe_callTy Xk.call_nInt (by rfl) T.m_int (by decide +kernel) (pa_cons (pv 1) pa_nil)) (pe_callB (Xk.k_len (K := K) (by rfl)) (by rfl) T.m_len PySem.boot_len (pa_cons (pv 0) pa_nil))) (fun _ _ => rfl)))) pss_nil)
      (Evl.pss_cut (ps_if (pt_cmpR op_lt (pv 2) (pe_int) (nomark _)) (pss_one (ps_set (i := 2) sc__law_number.nd rfl (Or.inl rfl) (pe_op op_sub (pe_int) (pe_op op_mul (pe_int) (pv 2))))) pss_nil)
      (Evl.pss_cut (ps_if (PW.pt (pw_and (pt_cmpR op_ge (pv 2) (pe_op op_pow (pe_int) (pe_int)) (nomark _)) (pw_and1 (pt_cmpR op_lt (pv 1) (pe_callB (Xk.k_len (K := K) (by rfl)) (by rfl) T.m_len PySem.boot_len (pa_cons (pv 0) pa_nil)) (nomark _))))) (pss_one (ps_ret (pv 2))) pss_nil)
      (pss_cons (ps_set (i := 3) sc__law_number.nd rfl (Or.inl rfl) (pe_op op_mod (pe_callTy Xk.call_nInt (by rfl) T.m_int (by decide +kernel) (pa_cons (pe_op op_add (pe_op op_mul (pe_op op_add (pv 2) (pe_int)) (pe_int)) (pe_op op_mul (pe_op op_add (pv 1) (pe_int)) (pe_int))) pa_nil)) (pe_int)))
      (pss_cons (ps_set (i := 4) sc__law_number.nd rfl (Or.inl rfl) (pe_op op_mod (pe_callTy Xk.call_nInt (by rfl) T.m_int (by decide +kernel) (pa_cons (pe_op op_add (pe_op op_add (pe_op op_mul (pe_op op_add (pv 3) (pe_int)) (pe_int)) (pe_op op_mul (pe_op op_add (pv 2) (pe_int)) (pe_int))) (pv 1)) pa_nil)) (pe_int)))
      (pss_one (ps_ret (pe_op op_mod (pe_callTy Xk.call_nInt (by rfl) T.m_int (by decide +kernel) (pa_cons (pe_op op_add (pe_op op_add (pe_op op_mul (pv 3) (pe_int)) (pe_op op_mul (pv 4) (pe_int))) (pv 2)) pa_nil)) (pe_int)))))))))), ?_⟩
  wtm_at "x0"
  wtm_at "xs"
  refine Xk.x_cut (fun σ' H' => H = H' ∧ ∃ c : Int, σ' = [some (.ref a), some (.int k), some (.int c), none, none]) ?_ ?_
  · wtm_at "xs"
    refine Xk.x_itd (fun h => ?_) (fun h => ?_)
    · wtm_at "xs"
      rw [List.length_map] at h ⊢
      have h1 : k % (ns.length : Int) < ns.length := Int.emod_lt_of_pos _ h
      have h2 : 0 ≤ k % (ns.length : Int) := Int.emod_nonneg _ (by omega)
      obtain ⟨j, hj⟩ := Int.eq_ofNat_of_zero_le h2
      rw [hj] at h1 ⊢
      have h3 : j < ns.length := by omega
      refine Xk.x_ixL hS (atI_nat (j := j) (by rw [List.getElem?_map, List.getElem?_eq_getElem h3]; rfl)) ?_
      exact ⟨rfl, _, rfl⟩
    · wtm_at "xs"
      exact ⟨rfl, _, rfl⟩
  rintro σ' H' ⟨rfl, c, rfl⟩
  refine Xk.x_cut (fun σ' H' => H = H' ∧ ∃ c : Int, 0 ≤ c ∧ σ' = [some (.ref a), some (.int k), some (.int c), none, none]) ?_ ?_
  · wtm_at "xs"
    refine Xk.x_itd (fun h => ?_) (fun h => ?_)
    · wtm_at "xs"
      exact ⟨rfl, _, by omega, rfl⟩
    · wtm_at "xs"
      exact ⟨rfl, _, by omega, rfl⟩
  rintro σ' H' ⟨rfl, c, hc, rfl⟩
  refine Xk.x_cut (fun σ' H' => H = H' ∧ σ' = [some (.ref a), some (.int k), some (.int c), none, none]) ?_ ?_
  · wtm_at "xs"
    refine Xk.x_itd (fun h => ?_) (fun h => ?_)
    · wtm_at "xs"
      refine Xk.x_itd (fun h => ?_) (fun h => ?_)
      · wtm_at "xs"
        exact q _ hc
      · wtm_at "xs"
        exact ⟨rfl, rfl⟩
    · wtm_at "xs"
      exact ⟨rfl, rfl⟩
  rintro σ' H' ⟨rfl, rfl⟩
  wtm_at "xs"
  exact q _ (by omega)
def sp__law_take (K : PySem.W.Frag) : Sp := fun vs H Q _ => ∃ (a : Addr) (z n : Int), vs = [.ref a, .int z] ∧ H a = some (.lst [.int n]) ∧ 0 < z ∧ z < 1073741824 ∧ (0 ≤ n % z → n % z < z → Q (.int (n % z)) (upd H a (.lst [.int (n / z)])))
theorem ok__law_take (T : Txt K mg) : FnOk P w K mg base CX0 1 T.f__law_take T.d__law_take ["box", "size"] (sp__law_take K) := by
  refine T.F__law_take.ok sc__law_take (fun vs H Q E h => ?_) (fun cdv A outer s H vs Q E hr h => ?_)
  · obtain ⟨a, z, n, rfl, _⟩ := h
    rfl
  obtain ⟨a, z, n, rfl, hb, h0, h1, q⟩ := h
  refine ⟨_, (pss_cons (ps_set (i := 2) sc__law_take.nd rfl (Or.inl rfl) (pe_op op_mod (pe_callTy Xk.call_nInt (by rfl) T.m_int (by decide +kernel) (pa_cons (pe_ix (Xk.k_ixL (K := K) (by rfl)) (pv 0) (pe_int) (fun _ _ => rfl)) pa_nil)) (pv 1)))
      (pss_cons (ps_asg (pe_op op_fdiv (pe_ix (Xk.k_ixL (K := K) (by rfl)) (pv 0) (pe_int) (fun _ _ => rfl)) (pv 1)) (pg_sub (pv 0) (pe_int) set_list))
      (pss_one (ps_ret (pv 2))))), ?_⟩
  wtm_at "x0"
  wtm_at "xs"
  refine Xk.x_setL (j := 0) hb rfl ?_
  wtm_at "xs"
  exact q (Int.emod_nonneg _ (by omega)) (Int.emod_lt_of_pos _ h0)
--CUT--
/-- a draw from a box, said so that it goes on -/
theorem draw {K : PySem.W.Frag} {H : Hp} {Q : VK} {E : XK} {a : Addr} {z n : Int} (hb : H a = some (.lst [.int n])) (hz : 0 < z ∧ z < 1073741824)
    (q : ∀ (j : Nat) (m : Int) H', (j : Int) < z → Xk.But a H H' → H' a = some (.lst [.int m]) → Q (.int j) H') : sp__law_take K [.ref a, .int z] H Q E := by
  refine ⟨a, z, n, rfl, hb, hz.1, hz.2, fun h1 h2 => ?_⟩
  obtain ⟨j, hj⟩ := Int.eq_ofNat_of_zero_le h1
  rw [hj] at h2 ⊢
  exact q j (n / z) _ h2 (Xk.but_mut (Xk.But.refl _ _)) upd_same
def alphS : Str := "abcdefghijklmnopqrstuvwxyz0123456789"
/-- a text of a few signs -/
def Ok (s : Str) : Prop := s.length ≤ 20 ∧ Xk.AllC Xk.okC s = true
theorem one_len (c : Nat) : (⟨#[c]⟩ : Str).length = 1 := rfl
def sp__law_key (K : PySem.W.Frag) : Sp := fun vs H Q _ => ∃ (a : Addr) (n : Int) (z : Str), vs = [.ref a, .str z] ∧ H a = some (.lst [.int n]) ∧ z.length ≤ 1 ∧ Xk.AllC Xk.okC z = true ∧
  ∀ H' m s, Xk.But a H H' → H' a = some (.lst [.int m]) → Ok s → z.length ≤ s.length → Q (.str s) H'
theorem ok__law_key (T : Txt K mg) : FnOk P w K mg base CX0 2 T.f__law_key T.d__law_key ["box", "sign"] (sp__law_key K) := by
  refine T.F__law_key.ok sc__law_key (fun vs H Q E h => ?_) (fun cdv A outer s H vs Q E hr h => ?_)
  · obtain ⟨a, n, z, rfl, _⟩ := h
    rfl
  obtain ⟨a, n, z, rfl, hb, hz, hz2, q⟩ := h
  refine ⟨_, (pss_cons (ps_set (i := 2) sc__law_key.nd rfl (Or.inl rfl) (pe_str))
      (pss_cons (ps_set (i := 3) sc__law_key.nd rfl (Or.inl rfl) (pe_ix (Xk.k_ixL (K := K) (by rfl)) (pe_lst (pa_cons (pe_int) (pa_cons (pe_int) (pa_cons (pe_int) (pa_cons (pe_int) pa_nil))))) (pe_call (ok__law_take T) (hr.mono (by decide)) (by rfl) T.g__law_take T.F__law_take.kp T.b__law_take .nil pass0 (pa_cons (pv 0) (pa_cons (pe_int) pa_nil))) (fun _ _ => rfl)))
      (pss_cons (ps_set (i := 4) sc__law_key.nd rfl (Or.inl rfl) (pe_call (ok__law_take T) (hr.mono (by decide)) (by rfl) T.g__law_take T.F__law_take.kp T.b__law_take .nil pass0 (pa_cons (pv 0) (pa_cons (pv 3) pa_nil))))
      (pss_cons (ps_set (i := 5) sc__law_key.nd rfl (Or.inl rfl) (pe_str))
      (pss_cons (ps_for PassesOwn.never rfl (pi_range1 (by rfl) T.m_range (pa_cons (pe_op op_sub (pv 3) (pe_int)) pa_nil)) (pg_name (i := 6) sc__law_key.nd rfl (Or.inl rfl)) (pss_one (ps_set (i := 5) sc__law_key.nd rfl (Or.inl rfl) (pe_op Xk.op_nAddS (pv 5) (pe_ix ix_str (pv 2) (pe_call (ok__law_take T) (hr.mono (by decide)) (by rfl) T.g__law_take T.F__law_take.kp T.b__law_take .nil pass0 (pa_cons (pv 0) (pa_cons (pe_int) pa_nil))) (fun _ _ => rfl))))))
      (pss_one (ps_ret (pe_op Xk.op_nAddS (pe_op Xk.op_nAddS (pe_slice sl_str (pv 5) po_none (po_some (pv 4))) (pv 1)) (pe_slice sl_str (pv 5) (po_some (pv 4)) po_none))))))))), ?_⟩
  wtm_at "x0"
  wtm_at "xs"
  intro p H2 hp s2 h2
  have nap : p ≠ a := (Xk.ne_new hp hb).symm
  have hb2 := s2 _ _ hb
  wtm_at "xs"
  refine draw hb2 ⟨by decide, by decide⟩ fun j m H3 hj b3 hb3 => ?_
  obtain ⟨v, hv⟩ := Xk.lt_at (xs := [V.int 1, V.int 2, V.int 3, V.int 8]) (j := j) (by simp only [List.length_cons, List.length_nil]; omega)
  refine Xk.x_ixL (Xk.sq_of (b3 _ _ nap h2)) (Xk.at_nat rfl hv) ?_
  obtain ⟨c, rfl, c1, c2⟩ : ∃ c : Int, v = .int c ∧ 1 ≤ c ∧ c ≤ 8 := by
    have hm := List.mem_of_getElem? hv
    simp only [List.mem_cons, List.not_mem_nil, or_false] at hm
    rcases hm with rfl | rfl | rfl | rfl <;> exact ⟨_, rfl, by decide, by decide⟩
  have b03 := Xk.but_trans (Xk.but_same (p := a) s2) b3
  clear hv hj b3 h2 hb2 s2 hp
  wtm_at "xs"
  refine draw hb3 ⟨by omega, by omega⟩ fun g m2 H4 hg b4 hb4 => ?_
  have b04 := Xk.but_trans b03 b4
  clear b03 b4 hb3
  wtm_at "xs"
  refine Xk.x_range (fun i σ' H' => ∃ (t : Str) (m : Int) (y : Option V), σ' = [some (.ref a), some (.str z), some (.str alphS), some (.int c), some (.int g), some (.str t), y] ∧ Xk.But a H H' ∧ H' a = some (.lst [.int m]) ∧ t.length = i ∧ Xk.AllC Xk.okC t = true)
    ⟨by omega, by omega⟩ ⟨_, _, _, rfl, b04, hb4, rfl, rfl⟩ ?_ ?_
  · rintro i σ' H' hi ⟨t, m, y, rfl, b, hb5, ht, hk⟩
    wtm_at "xs"
    refine draw hb5 ⟨by decide, by decide⟩ fun j m H3 hj b3 hb3 => ?_
    obtain ⟨d, hd⟩ := Xk.lt_at (xs := alphS.cps.toList) (j := j) (by show j < 36; omega)
    refine Xk.x_ixS (by decide) (Xk.at_nat rfl hd) ?_
    have ho : Xk.okC d = true := by
      have h1 : alphS.cps.toList.all Xk.okC = true := by decide
      exact List.all_eq_true.mp h1 d (List.mem_of_getElem? hd)
    have hl2 : t.length + (⟨#[d]⟩ : Str).length ≤ 100000 := by rw [one_len]; omega
    refine Xk.x_nAddS hl2 ?_
    exact ⟨_, _, _, rfl, Xk.but_trans b b3, hb3, by rw [Xk.len_add, ht]; rfl, Xk.allC_add hk (by show List.all _ _ = true; simp [ho])⟩
  · rintro σ' H' ⟨t, m, y, rfl, b, hb5, ht, hk⟩
    have l1 := Xk.len_cut t none (some (g : Int))
    have l2 := Xk.len_cut t (some (g : Int)) none
    wtm_at "xs"
    refine Xk.x_nAddS (by rw [Xk.len_add]; omega) ?_
    refine q _ m _ b hb5 ⟨by rw [Xk.len_add, Xk.len_add]; omega, Xk.allC_add (Xk.allC_add (Xk.allC_cut hk) hz2) (Xk.allC_cut hk)⟩ (by rw [Xk.len_add, Xk.len_add]; omega)
--CUT--
def lowS : Str := " !\"#$"
def highS : Str := "&'()*+,-./0123456789:;<=>?@ABCDEFGHIJKLMNOPQRSTUVWXYZ[\\]^_`abcdefghijklmnopqrstuvwxyz{|}~"
def tx (c : Nat) : Bool := decide (c ∈ lowS.cps.toList) || decide (c ∈ highS.cps.toList)
def al (c : Nat) : Bool := decide (c ∈ alphS.cps.toList)
def isKey : V → Bool
  | .str s => decide (1 ≤ s.length) && (decide (s.length ≤ 8) && Xk.AllC al s)
  | _ => false
def isInt (m : Int) : V → Bool
  | .int i => decide (-m ≤ i) && decide (i ≤ m)
  | _ => false
def isVal : V → Bool
  | .str s => decide (s.length ≤ 20) && Xk.AllC tx s
  | v => isInt (10 ^ 15) v
/-- what may be asked whether it is a deed, a key, a value -/
def Kd (H : Hp) (v : V) : Prop := v = .non ∨ (∃ i, v = .int i) ∨ (∃ s : Str, v = .str s ∧ s.length ≤ 1000) ∨ ∃ a xs, v = .ref a ∧ H a = some (.tup xs) ∧ xs.length ≤ 100
theorem Kd.same {H H' : Hp} {v : V} (h : Kd H v) (e : Same H H') : Kd H' v := by
  rcases h with h | h | h | ⟨a, xs, h1, h2, h3⟩
  · exact .inl h
  · exact .inr (.inl h)
  · exact .inr (.inr (.inl h))
  · exact .inr (.inr (.inr ⟨a, xs, h1, e _ _ h2, h3⟩))
def sp_is_text (K : PySem.W.Frag) : Sp := fun vs H Q _ => ∃ s : Str, vs = [.str s] ∧ s.length ≤ 1000 ∧ ∀ H', Same H H' → Q (.bl (Xk.AllC tx s)) H'
theorem ok_is_text (T : Txt K mg) : FnOk P w K mg base CX0 1 T.f_is_text T.d_is_text ["data"] (sp_is_text K) := by
  refine T.F_is_text.ok sc_is_text (fun vs H Q E h => ?_) (fun cdv A outer s H vs Q E hr h => ?_)
  · obtain ⟨s, rfl, _⟩ := h
    rfl
  obtain ⟨s', rfl, hl, q⟩ := h
  refine ⟨_, (pss_one (ps_ret ((pe_and (pe_callB (Xk.k_isi (K := K) (by rfl)) (by rfl) T.m_isinstance (by decide +kernel) (pa_cons (pv 0) (pa_cons (pe_bltn (v := .ty "str") (u := .type "str") (by rfl) T.m_str (by decide +kernel) Xk.rel_ty) pa_nil))) (pe_one (pe_callB (Xk.k_all (K := K) rfl (by rfl)) (by rfl) T.m_all (by decide +kernel) (pa_cons (pe_lc (own := [("sign", 1)]) (g := gName 1) (tt := tYes) rfl sc_is_text.nd  (pi_str (pv 0)) (blkOk_by (N := N_is_text) (sc := defScope s_is_text) (own := [("sign", 1)]) (by decide +kernel)) (fun _ _ _ _ _ => pg_name (i := 1) sc_is_text.nd rfl (Or.inl rfl)) (fun _ _ _ _ _ => pts_nil) (fun _ _ _ _ _ => ((pe_or (pe_cmpR Xk.op_nInS (pv 1) (pe_glob (by rfl) T.g_LOW_SIGNS Xk.rel_str) (by rfl)) (pe_one (pe_cmpR Xk.op_nInS (pv 1) (pe_glob (by rfl) T.g_HIGH_SIGNS Xk.rel_str) (by rfl))))))) pa_nil))))))), ?_⟩
  wtm_at "x0"
  wtm_at "xs"
  refine Xk.x_lcS (fun Dl i H' => Same H H' ∧ ∃ bs : List Bool, H' Dl = some (.lst (bs.map V.bl)) ∧ bs = (s'.cps.toList.take i).map tx) ?_ ?_ ?_
  · intro Dl hD
    exact ⟨Xk.same_fr hD, [], upd_same, rfl⟩
  · rintro Dl hD i c H' hi ⟨s2, bs, h2, hb⟩
    have hi2 := Xk.at_lt hi
    wtm_at "xs"
    refine ⟨rfl, ?_⟩
    wtm_at "xs"
    have sz : (bs.map V.bl).length < sizeLine := Xk.size_lt (by rw [hb]; simp only [List.length_map, List.length_take]; have : s'.length = s'.cps.toList.length := rfl; omega)
    have nx : ∀ b : Bool, b = tx c → Same H (upd H' Dl (.lst (bs.map V.bl ++ [V.bl b]))) ∧ ∃ bs' : List Bool, upd H' Dl (.lst (bs.map V.bl ++ [V.bl b])) Dl = some (.lst (bs'.map V.bl)) ∧ bs' = (s'.cps.toList.take (i + 1)).map tx := fun b hb2 => by
      refine ⟨Xk.same_mut s2 hD, bs ++ [b], by rw [upd_same, Xk.snoc_map], ?_⟩
      rw [List.take_add_one, hi, hb, List.map_append, hb2]
      rfl
    refine Xk.x_itd (fun h => ?_) (fun h => ?_)
    · exact ⟨_, h2, sz, nx true (by unfold tx; rw [decide_eq_true (show c ∈ lowS.cps.toList from h)]; rfl)⟩
    · wtm_at "xs"
      exact ⟨_, h2, sz, nx _ (by unfold tx; rw [decide_eq_false (show ¬ c ∈ lowS.cps.toList from h)]; rfl)⟩
  · rintro Dl H' hD ⟨s2, bs, h2, hb⟩
    wtm_at "xs"
    refine Xk.x_all (bs := bs) (by wtm_at "sq") ?_
    have e : bs.all id = Xk.AllC tx s' := by
      rw [hb, List.take_of_length_le (show s'.cps.toList.length ≤ s'.length from Nat.le_refl _), List.all_map]
      rfl
    rw [e]
    exact q _ s2
def isI : V → Bool
  | .int _ => true
  | _ => false
def sp_is_integer (K : PySem.W.Frag) : Sp := fun vs H Q _ => ∃ v, vs = [v] ∧ Kd H v ∧ Q (.bl (isI v)) H
theorem ok_is_integer (T : Txt K mg) : FnOk P w K mg base CX0 1 T.f_is_integer T.d_is_integer ["data"] (sp_is_integer K) := by
  refine T.F_is_integer.ok sc_is_integer (fun vs H Q E h => ?_) (fun cdv A outer s H vs Q E hr h => ?_)
  · obtain ⟨v, rfl, _⟩ := h
    rfl
  obtain ⟨v, rfl, hk, q⟩ := h
  refine ⟨_, (pss_one (ps_ret ((pe_and (pe_callB (Xk.k_isi (K := K) (by rfl)) (by rfl) T.m_isinstance (by decide +kernel) (pa_cons (pv 0) (pa_cons (pe_bltn (v := .ty "int") (u := .type "int") (by rfl) T.m_int (by decide +kernel) Xk.rel_ty) pa_nil))) (pe_one (pe_not (pe_callB (Xk.k_isi (K := K) (by rfl)) (by rfl) T.m_isinstance (by decide +kernel) (pa_cons (pv 0) (pa_cons (pe_bltn (v := .ty "bool") (u := .type "bool") (by rfl) T.m_bool (by decide +kernel) Xk.rel_ty) pa_nil))))))))), ?_⟩
  wtm_at "x0"
  rcases hk with rfl | ⟨i, rfl⟩ | ⟨s', rfl, hl⟩ | ⟨a, xs, rfl, ha, hl⟩
  · wtm_at "xs"
    exact q
  · wtm_at "xs"
    exact q
  · wtm_at "xs"
    exact q
  · wtm_at "xs"
    exact q
def sp_is_integer_within (K : PySem.W.Frag) : Sp := fun vs H Q _ => ∃ v m, vs = [v, .int m] ∧ Kd H v ∧ Q (.bl (isInt m v)) H
theorem ok_is_integer_within (T : Txt K mg) : FnOk P w K mg base CX0 2 T.f_is_integer_within T.d_is_integer_within ["data", "most"] (sp_is_integer_within K) := by
  refine T.F_is_integer_within.ok sc_is_integer_within (fun vs H Q E h => ?_) (fun cdv A outer s H vs Q E hr h => ?_)
  · obtain ⟨v, m, rfl, _⟩ := h
    rfl
  obtain ⟨v, m, rfl, hk, q⟩ := h
  refine ⟨_, (pss_one (ps_ret ((pe_and (pe_call (ok_is_integer T) (hr.mono (by decide)) (by rfl) T.g_is_integer T.F_is_integer.kp T.b_is_integer .nil pass0 (pa_cons (pv 0) pa_nil)) (pe_one (pe_chain op_le op_le (pe_un un_neg (pv 1)) (pv 0) (pv 1))))))), ?_⟩
  wtm_at "x0"
  rcases hk with rfl | ⟨i, rfl⟩ | ⟨s', rfl, hl⟩ | ⟨a, xs, rfl, ha, hl⟩
  · wtm_at "xs"
    refine ⟨_, rfl, .inl rfl, ?_⟩
    dsimp only [isI]
    wtm_at "xs"
    exact q
  · wtm_at "xs"
    refine ⟨_, rfl, .inr (.inl ⟨_, rfl⟩), ?_⟩
    dsimp only [isI]
    wtm_at "xs"
    refine Xk.x_itd (fun h1 => ?_) (fun h1 => ?_)
    · wtm_at "xs"
      have e : isInt m (.int i) = decide (i ≤ m) := by
        show (decide (-m ≤ i) && decide (i ≤ m)) = _
        rw [decide_eq_true h1]
        rfl
      rw [e] at q
      exact q
    · have e : isInt m (.int i) = false := by
        show (decide (-m ≤ i) && decide (i ≤ m)) = _
        rw [decide_eq_false h1]
        rfl
      rw [e] at q
      exact q
  · wtm_at "xs"
    refine ⟨_, rfl, .inr (.inr (.inl ⟨_, rfl, hl⟩)), ?_⟩
    dsimp only [isI]
    wtm_at "xs"
    exact q
  · wtm_at "xs"
    refine ⟨_, rfl, .inr (.inr (.inr ⟨_, _, rfl, ha, hl⟩)), ?_⟩
    dsimp only [isI]
    wtm_at "xs"
    exact q
def sp_is_value (K : PySem.W.Frag) : Sp := fun vs H Q _ => ∃ v, vs = [v] ∧ Kd H v ∧ ∀ H', Same H H' → Q (.bl (isVal v)) H'
theorem ok_is_value (T : Txt K mg) : FnOk P w K mg base CX0 3 T.f_is_value T.d_is_value ["data"] (sp_is_value K) := by
  refine T.F_is_value.ok sc_is_value (fun vs H Q E h => ?_) (fun cdv A outer s H vs Q E hr h => ?_)
  · obtain ⟨v, rfl, _⟩ := h
    rfl
  obtain ⟨v, rfl, hk, q⟩ := h
  refine ⟨_, (Evl.pss_cut (ps_if (pt_val (pe_callB (Xk.k_isi (K := K) (by rfl)) (by rfl) T.m_isinstance (by decide +kernel) (pa_cons (pv 0) (pa_cons (pe_bltn (v := .ty "str") (u := .type "str") (by rfl) T.m_str (by decide +kernel) Xk.rel_ty) pa_nil)))) (pss_one (ps_ret ((pe_and (pe_cmpR op_le (pe_callB Xk.call_nLenS (by rfl) T.m_len PySem.boot_len (pa_cons (pv 0) pa_nil)) (pe_glob (by rfl) T.g_VALUE_SIGNS Xk.rel_int) (nomark _)) (pe_one (pe_call (ok_is_text T) (hr.mono (by decide)) (by rfl) T.g_is_text T.F_is_text.kp T.b_is_text .nil pass0 (pa_cons (pv 0) pa_nil))))))) pss_nil)
      (pss_one (ps_ret (pe_call (ok_is_integer_within T) (hr.mono (by decide)) (by rfl) T.g_is_integer_within T.F_is_integer_within.kp T.b_is_integer_within .nil pass0 (pa_cons (pv 0) (pa_cons (pe_glob (by rfl) T.g_MOST_VALUE Xk.rel_int) pa_nil)))))), ?_⟩
  wtm_at "x0"
  refine Xk.x_nocut ?_
  rcases hk with rfl | ⟨i, rfl⟩ | ⟨s', rfl, hl⟩ | ⟨a, xs, rfl, ha, hl⟩
  · wtm_at "xs"
    exact ⟨_, _, rfl, .inl rfl, q _ (Same.refl _)⟩
  · wtm_at "xs"
    exact ⟨_, _, rfl, .inr (.inl ⟨_, rfl⟩), q _ (Same.refl _)⟩
  · wtm_at "xs"
    refine Xk.x_itd (fun h1 => ?_) (fun h1 => ?_)
    · wtm_at "xs"
      refine ⟨_, rfl, hl, fun H' s1 => ?_⟩
      have e : isVal (.str s') = Xk.AllC tx s' := by
        show (decide (s'.length ≤ 20) && Xk.AllC tx s') = _
        rw [decide_eq_true (show s'.length ≤ 20 by omega)]
        rfl
      rw [e] at q
      exact q _ s1
    · have e : isVal (.str s') = false := by
        show (decide (s'.length ≤ 20) && Xk.AllC tx s') = _
        rw [decide_eq_false (show ¬ s'.length ≤ 20 by omega)]
        rfl
      rw [e] at q
      exact q _ (Same.refl _)
  · wtm_at "xs"
    exact ⟨_, _, rfl, .inr (.inr (.inr ⟨a, xs, rfl, ha, hl⟩)), q _ (Same.refl _)⟩
def sp_key_of_deed (K : PySem.W.Frag) : Sp := fun vs H Q _ => ∃ a k xs, vs = [.ref a] ∧ SqT K H a xs ∧ xs[1]? = some k ∧ Q k H
theorem ok_key_of_deed (T : Txt K mg) : FnOk P w K mg base CX0 1 T.f_key_of_deed T.d_key_of_deed ["deed"] (sp_key_of_deed K) := by
  refine T.F_key_of_deed.ok sc_key_of_deed (fun vs H Q E h => ?_) (fun cdv A outer s H vs Q E hr h => ?_)
  · obtain ⟨a, k, xs, rfl, _⟩ := h
    rfl
  obtain ⟨a, k, xs, rfl, ha, hk, q⟩ := h
  refine ⟨_, (pss_one (ps_ret (pe_ix (Xk.k_ixT (K := K) (by rfl)) (pv 0) (pe_int) (fun _ _ => rfl)))), ?_⟩
  wtm_at "x0"
  wtm_at "xs"
  exact q
inductive Dd where
  | get (k : Str)
  | put (k : Str) (v : V)
  | del (k : Str)
  | add (k : Str) (n : Int)
def Dd.key : Dd → Str
  | .get k | .put k _ | .del k | .add k _ => k
def Dd.xs : Dd → List V
  | .get k => [.str "get", .str k]
  | .put k v => [.str "put", .str k, v]
  | .del k => [.str "del", .str k]
  | .add k n => [.str "add", .str k, .int n]
abbrev Kvs := List (Key × V)
def VOk (v : V) : Prop := (∃ i, v = .int i) ∨ ∃ s : Str, v = .str s ∧ s.length ≤ 20 ∧ Xk.AllC tx s = true
def Dd.ok : Dd → Prop
  | .put k v => Ok k ∧ VOk v
  | .add k n => Ok k ∧ -1000000000 ≤ n ∧ n ≤ 1000000000
  | .get k | .del k => Ok k
def gv (kvs : Kvs) (k : Str) : V := (valV kvs (Sum.inr k)).getD .non
def addR (kvs : Kvs) (k : Str) (n : Int) : Option V → Kvs × V
  | none => (putK kvs (Sum.inr k) (.int n), .int n)
  | some (.int i) => if -1000000000000000 ≤ i + n ∧ i + n ≤ 1000000000000000 then (putK kvs (Sum.inr k) (.int (i + n)), .int (i + n)) else (kvs, .non)
  | some _ => (kvs, .non)
/-- what doing a deed makes of rows, and its answer -/
def app (kvs : Kvs) : Dd → Kvs × V
  | .get k => (kvs, gv kvs k)
  | .put k v => (putK kvs (Sum.inr k) v, gv kvs k)
  | .del k => (if (valV kvs (Sum.inr k)).isSome = true then dropK kvs (Sum.inr k) else kvs, gv kvs k)
  | .add k n => addR kvs k n (valV kvs (Sum.inr k))
theorem Kd.val {H : Hp} {v : V} (h : VOk v) : Kd H v := by
  rcases h with h | ⟨s, h, hl, _⟩
  · exact .inr (.inl h)
  · exact .inr (.inr (.inl ⟨s, h, by omega⟩))
theorem put_get (kvs : Kvs) (k : Str) (v : V) : valV (putK kvs (Sum.inr k) v) (Sum.inr k) = some v := by
  rw [valV_put, if_pos rfl]
def sp__add (K : PySem.W.Frag) : Sp := fun vs H Q _ => ∃ r kvs k n, vs = [.ref r, .str k, .int n] ∧ H r = some (.dK kvs) ∧ (∀ v, valV kvs (Sum.inr k) = some v → VOk v) ∧ kvs.length ≤ 500 ∧ Dd.ok (.add k n) ∧
  ∀ H', Xk.But r H H' → H' r = some (.dK (app kvs (.add k n)).1) → Q (app kvs (.add k n)).2 H'
theorem ok__add (T : Txt K mg) : FnOk P w K mg base CX0 4 T.f__add T.d__add ["rows", "key", "number"] (sp__add K) := by
  refine T.F__add.ok sc__add (fun vs H Q E h => ?_) (fun cdv A outer s H vs Q E hr h => ?_)
  · obtain ⟨r, kvs, k, n, rfl, _⟩ := h
    rfl
  obtain ⟨r, kvs, k, n, rfl, hr0, hv, hl, hn, q⟩ := h
  have hn1 : -1000000000 ≤ n ∧ n ≤ 1000000000 := hn.2
  refine ⟨_, (pss_cons (ps_set (i := 3) sc__add.nd rfl (Or.inl rfl) (pe_dget2 (hu_of hr) (pv 0) (pv 1) (pe_int) ⟨by rfl, by rfl, by rfl, by rfl⟩))
      (Evl.pss_cut (ps_if (PW.pt (pw_or (pt_val (pe_callB (Xk.k_isi (K := K) (by rfl)) (by rfl) T.m_isinstance (by decide +kernel) (pa_cons (pv 3) (pa_cons (pe_bltn (v := .ty "str") (u := .type "str") (by rfl) T.m_str (by decide +kernel) Xk.rel_ty) pa_nil)))) (pw_or1 (pt_not (pt_val (pe_call (ok_is_value T) (hr.mono (by decide)) (by rfl) T.g_is_value T.F_is_value.kp T.b_is_value .nil pass0 (pa_cons (pe_op op_add (pv 3) (pv 2)) pa_nil))))))) (pss_one (ps_ret (pe_non))) pss_nil)
      (pss_cons (ps_dput (hu_of hr) (pv 0) (pv 1) (pe_op op_add (pv 3) (pv 2)) rfl)
      (pss_one (ps_ret (pe_dget (hu_of hr) (pv 0) (pv 1) (fun _ _ => rfl))))))), ?_⟩
  wtm_at "x0"
  wtm_at "xs"
  have hl2 : kvs.length < 1000 := by omega
  have big : ∀ j : Int, isVal (.int j) = (decide (-1000000000000000 ≤ j) && decide (j ≤ 1000000000000000)) := fun j => rfl
  cases hb : valV kvs (Sum.inr k) with
  | none =>
    have e : app kvs (.add k n) = (putK kvs (Sum.inr k) (.int (0 + n)), .int (0 + n)) := by
      show addR kvs k n (valV kvs (Sum.inr k)) = _
      rw [hb, Int.zero_add]
      rfl
    rw [e] at q
    have pg := put_get kvs k (.int (0 + n))
    refine Xk.x_nocut ?_
    dsimp only [Option.getD]
    wtm_at "xs"
    refine ⟨_, rfl, .inr (.inl ⟨_, rfl⟩), fun H' s1 => ?_⟩
    have e3 : (decide (-1000000000000000 ≤ 0 + n) && decide (0 + n ≤ 1000000000000000)) = true := by
      rw [decide_eq_true (by omega), decide_eq_true (by omega)]
      rfl
    rw [big, e3]
    have r1 := s1 _ _ hr0
    wtm_at "xs"
    exact q _ (Xk.but_mut (Xk.but_same s1)) upd_same
  | some v =>
    rcases hv v hb with ⟨i, rfl⟩ | ⟨s', rfl, h1, h2⟩
    · have e : app kvs (.add k n) = if -1000000000000000 ≤ i + n ∧ i + n ≤ 1000000000000000 then (putK kvs (Sum.inr k) (.int (i + n)), .int (i + n)) else (kvs, .non) := by
        show addR kvs k n (valV kvs (Sum.inr k)) = _
        rw [hb]
        rfl
      rw [e] at q
      have pg := put_get kvs k (.int (i + n))
      refine Xk.x_nocut ?_
      dsimp only [Option.getD]
      wtm_at "xs"
      refine ⟨_, rfl, .inr (.inl ⟨_, rfl⟩), fun H' s1 => ?_⟩
      rw [big]
      have r1 := s1 _ _ hr0
      by_cases h3 : -1000000000000000 ≤ i + n ∧ i + n ≤ 1000000000000000
      · rw [if_pos h3] at q
        have e3 : (decide (-1000000000000000 ≤ i + n) && decide (i + n ≤ 1000000000000000)) = true := by
          rw [decide_eq_true h3.1, decide_eq_true h3.2]
          rfl
        rw [e3]
        wtm_at "xs"
        exact q _ (Xk.but_mut (Xk.but_same s1)) upd_same
      · rw [if_neg h3] at q
        have e2 : (decide (-1000000000000000 ≤ i + n) && decide (i + n ≤ 1000000000000000)) = false := by
          rw [Bool.and_eq_false_iff]
          by_cases h4 : -1000000000000000 ≤ i + n
          · exact .inr (decide_eq_false fun z => h3 ⟨h4, z⟩)
          · exact .inl (decide_eq_false h4)
        rw [e2]
        wtm_at "xs"
        exact q _ (Xk.but_same s1) r1
    · have e : app kvs (.add k n) = (kvs, .non) := by
        show addR kvs k n (valV kvs (Sum.inr k)) = _
        rw [hb]
        rfl
      rw [e] at q
      refine Xk.x_nocut ?_
      dsimp only [Option.getD]
      wtm_at "xs"
      exact q _ (Xk.But.refl _ _) hr0
def sp_apply_deed (K : PySem.W.Frag) : Sp := fun vs H Q _ => ∃ r a kvs d, vs = [.ref r, .ref a] ∧ H r = some (.dK kvs) ∧ H a = some (.tup (Dd.xs d)) ∧ (∀ k v, valV kvs k = some v → VOk v) ∧ kvs.length ≤ 500 ∧ d.ok ∧
  ∀ H', Xk.But r H H' → H' r = some (.dK (app kvs d).1) → Q (app kvs d).2 H'
theorem ok_apply_deed (T : Txt K mg) : FnOk P w K mg base CX0 5 T.f_apply_deed T.d_apply_deed ["rows", "deed"] (sp_apply_deed K) := by
  refine T.F_apply_deed.ok sc_apply_deed (fun vs H Q E h => ?_) (fun cdv A outer s H vs Q E hr h => ?_)
  · obtain ⟨r, a, kvs, d, rfl, _⟩ := h
    rfl
  obtain ⟨r, a, kvs, d, rfl, hr0, ha, hv, hl, hd, q⟩ := h
  refine ⟨_, (pss_cons (ps_set (i := 2) sc_apply_deed.nd rfl (Or.inl rfl) (pe_ix (Xk.k_ixT (K := K) (by rfl)) (pv 1) (pe_int) (fun _ _ => rfl)))
      (pss_cons (ps_set (i := 3) sc_apply_deed.nd rfl (Or.inl rfl) (pe_call (ok_key_of_deed T) (hr.mono (by decide)) (by rfl) T.g_key_of_deed T.F_key_of_deed.kp T.b_key_of_deed .nil pass0 (pa_cons (pv 1) pa_nil)))
      (Evl.pss_cut (ps_if (pt_cmpR op_eq (pv 2) (pe_str) (nomark _)) (pss_one (ps_ret (pe_call (ok__add T) (hr.mono (by decide)) (by rfl) T.g__add T.F__add.kp T.b__add .nil pass0 (pa_cons (pv 0) (pa_cons (pv 3) (pa_cons (pe_ix (Xk.k_ixT (K := K) (by rfl)) (pv 1) (pe_int) (fun _ _ => rfl)) pa_nil)))))) pss_nil)
      (pss_cons (ps_set (i := 4) sc_apply_deed.nd rfl (Or.inl rfl) (pe_dget1 (hu_of hr) (pv 0) (pv 3) ⟨by rfl, by rfl, by rfl, by rfl⟩))
      (Evl.pss_cut (ps_if (pt_cmpR op_eq (pv 2) (pe_str) (nomark _)) (pss_one (ps_dput (hu_of hr) (pv 0) (pv 3) (pe_ix (Xk.k_ixT (K := K) (by rfl)) (pv 1) (pe_int) (fun _ _ => rfl)) rfl)) (pss_one (ps_if (pt_cmpR op_eq (pv 2) (pe_str) (nomark _)) (pss_one (ps_expr (pe_dpop2 (pv 0) (pv 3) (pe_non) ⟨by rfl, by rfl, by rfl, by rfl⟩))) pss_nil)))
      (pss_one (ps_ret (pv 4)))))))), ?_⟩
  have hl2 : kvs.length < 1000 := by omega
  wtm_at "x0"
  cases d with
  | get k =>
    have ha1 : H a = some (.tup [.str "get", .str k]) := ha
    wtm_at "xs"
    refine ⟨a, .str k, _, rfl, Xk.st_of ha1, rfl, ?_⟩
    refine Xk.x_nocut ?_
    wtm_at "xs"
    refine Xk.x_nocut ?_
    wtm_at "xs"
    exact q _ (Xk.But.refl _ _) hr0
  | put k v =>
    have ha1 : H a = some (.tup [.str "put", .str k, v]) := ha
    wtm_at "xs"
    refine ⟨a, .str k, _, rfl, Xk.st_of ha1, rfl, ?_⟩
    refine Xk.x_nocut ?_
    wtm_at "xs"
    refine Xk.x_nocut ?_
    wtm_at "xs"
    exact q _ (Xk.but_mut (Xk.But.refl _ _)) upd_same
  | del k =>
    have ha1 : H a = some (.tup [.str "del", .str k]) := ha
    wtm_at "xs"
    refine ⟨a, .str k, _, rfl, Xk.st_of ha1, rfl, ?_⟩
    refine Xk.x_nocut ?_
    wtm_at "xs"
    refine Xk.x_nocut ?_
    wtm_at "xs"
    have q0 : ∀ H', Xk.But r H H' → H' r = some (.dK (if (valV kvs (Sum.inr k)).isSome = true then dropK kvs (Sum.inr k) else kvs)) → Q (gv kvs k) H' := q
    refine Xk.x_rPop2 hr0 (fun v hv2 => ?_) (fun hn => ?_)
    · rw [hv2] at q0
      wtm_at "xs"
      exact q0 _ (Xk.but_mut (Xk.But.refl _ _)) upd_same
    · rw [hn] at q0
      wtm_at "xs"
      exact q0 _ (Xk.But.refl _ _) hr0
  | add k n =>
    have ha1 : H a = some (.tup [.str "add", .str k, .int n]) := ha
    wtm_at "xs"
    refine ⟨a, .str k, _, rfl, Xk.st_of ha1, rfl, ?_⟩
    refine Xk.x_nocut ?_
    wtm_at "xs"
    exact ⟨r, kvs, k, n, rfl, hr0, fun v h => hv _ v h, hl, hd, q⟩
--CUT--
structure KvOk (ks : List Str) (kvs : Kvs) : Prop where
  nd : (kvs.map (·.1)).Nodup
  ok : ∀ p ∈ kvs, (∃ k ∈ ks, p.1 = Sum.inr k) ∧ VOk p.2
theorem val_mem {kvs : Kvs} {k : Key} {v : V} (h : valV kvs k = some v) : (k, v) ∈ kvs := by
  unfold valV at h
  obtain ⟨p, hp, rfl⟩ := Option.map_eq_some_iff.mp h
  have h1 := List.mem_of_find?_eq_some hp
  have h2 := List.find?_some hp
  have h3 : p.1 = k := of_decide_eq_true h2
  rw [← h3]
  exact h1
theorem KvOk.val {ks : List Str} {kvs : Kvs} (h : KvOk ks kvs) {k : Key} {v : V} (e : valV kvs k = some v) : VOk v := (h.ok _ (val_mem e)).2
theorem KvOk.put {ks : List Str} {kvs : Kvs} (h : KvOk ks kvs) {k : Str} {v : V} (hk : k ∈ ks) (hv : VOk v) : KvOk ks (putK kvs (Sum.inr k) v) ∧ (putK kvs (Sum.inr k) v).length ≤ kvs.length + 1 := by
  cases e : valV kvs (Sum.inr k) with
  | none =>
    refine ⟨⟨nd_putK v h.nd e, ?_⟩, ?_⟩
    · rw [putK_new v e]
      intro p hp
      rcases List.mem_append.mp hp with hp | hp
      · exact h.ok p hp
      · rw [List.mem_singleton.mp hp]
        exact ⟨⟨k, hk, rfl⟩, hv⟩
    · rw [putK_new v e, List.length_append]
      exact Nat.le_refl _
  | some u =>
    have e2 : putK kvs (Sum.inr k) v = kvs.map fun kv => if kv.1 = Sum.inr k then (kv.1, v) else kv := by
      unfold putK
      rw [valV_any, e]
      rfl
    rw [e2]
    refine ⟨⟨?_, ?_⟩, by rw [List.length_map]; omega⟩
    · rw [List.map_map]
      have e3 : ((fun x : Key × V => x.1) ∘ fun kv : Key × V => if kv.1 = Sum.inr k then (kv.1, v) else kv) = fun x => x.1 := by
        funext x
        simp only [Function.comp]
        split <;> rfl
      rw [e3]
      exact h.nd
    · intro p hp
      obtain ⟨q, hq, rfl⟩ := List.mem_map.mp hp
      have h4 := h.ok q hq
      split
      · exact ⟨h4.1, hv⟩
      · exact h4
theorem KvOk.drop {ks : List Str} {kvs : Kvs} (h : KvOk ks kvs) (k : Key) : KvOk ks (dropK kvs k) ∧ (dropK kvs k).length ≤ kvs.length := by
  unfold dropK
  exact ⟨⟨h.nd.sublist ((List.filter_sublist).map _), fun p hp => h.ok p (List.mem_filter.mp hp).1⟩, List.length_filter_le _ _⟩
theorem app_ok {ks : List Str} {kvs : Kvs} (h : KvOk ks kvs) {d : Dd} (hd : d.ok) (hk : d.key ∈ ks) : KvOk ks (app kvs d).1 ∧ (app kvs d).1.length ≤ kvs.length + 1 ∧ ((app kvs d).2 = .non ∨ VOk (app kvs d).2) := by
  have hg : ∀ k, gv kvs k = .non ∨ VOk (gv kvs k) := fun k => by
    unfold gv
    cases e : valV kvs (Sum.inr k) with
    | none => exact .inl rfl
    | some v => exact .inr (h.val e)
  cases d with
  | get k => exact ⟨h, Nat.le_succ _, hg k⟩
  | put k v =>
    have h2 := h.put (k := k) (v := v) hk hd.2
    exact ⟨h2.1, h2.2, hg k⟩
  | del k =>
    show KvOk ks (if (valV kvs (Sum.inr k)).isSome = true then dropK kvs (Sum.inr k) else kvs) ∧ (if (valV kvs (Sum.inr k)).isSome = true then dropK kvs (Sum.inr k) else kvs).length ≤ _ ∧ _
    split
    · exact ⟨(h.drop _).1, Nat.le_succ_of_le (h.drop _).2, hg k⟩
    · exact ⟨h, Nat.le_succ _, hg k⟩
  | add k n =>
    show KvOk ks (addR kvs k n (valV kvs (Sum.inr k))).1 ∧ (addR kvs k n (valV kvs (Sum.inr k))).1.length ≤ _ ∧ ((addR kvs k n (valV kvs (Sum.inr k))).2 = .non ∨ VOk (addR kvs k n (valV kvs (Sum.inr k))).2)
    cases e : valV kvs (Sum.inr k) with
    | none =>
      have h2 := h.put (k := k) (v := .int n) hk (.inl ⟨_, rfl⟩)
      exact ⟨h2.1, h2.2, .inr (.inl ⟨_, rfl⟩)⟩
    | some v =>
      rcases h.val e with ⟨i, rfl⟩ | ⟨s', rfl, _⟩
      · show KvOk ks (if -1000000000000000 ≤ i + n ∧ i + n ≤ 1000000000000000 then (putK kvs (Sum.inr k) (.int (i + n)), V.int (i + n)) else (kvs, .non)).1 ∧ (if -1000000000000000 ≤ i + n ∧ i + n ≤ 1000000000000000 then (putK kvs (Sum.inr k) (.int (i + n)), V.int (i + n)) else (kvs, .non)).1.length ≤ _ ∧
          ((if -1000000000000000 ≤ i + n ∧ i + n ≤ 1000000000000000 then (putK kvs (Sum.inr k) (.int (i + n)), V.int (i + n)) else (kvs, .non)).2 = .non ∨ VOk (if -1000000000000000 ≤ i + n ∧ i + n ≤ 1000000000000000 then (putK kvs (Sum.inr k) (.int (i + n)), V.int (i + n)) else (kvs, .non)).2)
        split
        · have h2 := h.put (k := k) (v := .int (i + n)) hk (.inl ⟨_, rfl⟩)
          exact ⟨h2.1, h2.2, .inr (.inl ⟨_, rfl⟩)⟩
        · exact ⟨h, Nat.le_succ _, .inl rfl⟩
      · exact ⟨h, Nat.le_succ _, .inl rfl⟩
theorem KvOk.keys {ks : List Str} : ∀ {kvs : Kvs}, (∀ p ∈ kvs, (∃ k ∈ ks, p.1 = Sum.inr k) ∧ VOk p.2) → ∃ ts : List Str, kvs.map (·.1) = ts.map Sum.inr ∧ ∀ t ∈ ts, t ∈ ks
  | [], _ => ⟨[], rfl, fun t z => by cases z⟩
  | p :: r, h => by
    obtain ⟨ts, e, m⟩ := KvOk.keys (kvs := r) fun p hp => h p (List.mem_cons_of_mem _ hp)
    obtain ⟨⟨k, hk, e2⟩, _⟩ := h p (List.mem_cons_self ..)
    refine ⟨k :: ts, by rw [List.map_cons, List.map_cons, e, e2], fun t ht => ?_⟩
    rcases List.mem_cons.mp ht with rfl | ht
    · exact hk
    · exact m t ht
theorem KvOk.few {ks : List Str} {kvs : Kvs} (h : KvOk ks kvs) : kvs.length ≤ ks.length := by
  obtain ⟨ts, e, m⟩ := KvOk.keys h.ok
  have nd := h.nd
  rw [e] at nd
  have nd2 : ts.Nodup := by
    rw [List.nodup_iff_pairwise_ne] at nd ⊢
    exact (List.pairwise_map.mp nd).imp fun h z => h (congrArg _ z)
  have hl := congrArg List.length e
  rw [List.length_map, List.length_map] at hl
  rw [hl]
  exact nd2.length_le_of_subset m
/-! deals -/
theorem tx_ok (c : Nat) (h : tx c = true) : Xk.okC c = true := by
  have h1 : lowS.cps.toList.all Xk.okC = true := by decide +kernel
  have h2 : highS.cps.toList.all Xk.okC = true := by decide +kernel
  have h3 : (decide (c ∈ lowS.cps.toList) || decide (c ∈ highS.cps.toList)) = true := h
  rcases Bool.or_eq_true_iff.mp h3 with h3 | h3
  · exact List.all_eq_true.mp h1 c (of_decide_eq_true h3)
  · exact List.all_eq_true.mp h2 c (of_decide_eq_true h3)
def FV (v : V) : Prop := v = .non ∨ VOk v
def pd : V → PyData
  | .int i => .int i
  | .str s => .str s
  | _ => .none
theorem pk_fv {H : Hp} {n : Nat} {v : V} (h : FV v) : Xk.Pk K H n v (pd v) := by
  rcases h with rfl | ⟨i, rfl⟩ | ⟨s', rfl, _, h⟩
  · exact Xk.pk_non
  · exact Xk.pk_int
  · exact Xk.pk_str (Xk.lay_str (Xk.allC_mono h tx_ok))
theorem pk_fvs {H : Hp} {n : Nat} : ∀ vs : List V, (∀ v ∈ vs, FV v) → Xk.PkAll K H n vs (vs.map pd)
  | [], _ => Xk.pk_nil
  | v :: r, h => Xk.pk_cons (pk_fv (h v (List.mem_cons_self ..))) (pk_fvs r fun v hv => h v (List.mem_cons_of_mem _ hv))
theorem eqv_fv {x y : V} (hx : FV x) (hy : FV y) : PyData.eqv (pd x) (pd y) = decide (x = y) := by
  rcases hx with rfl | ⟨i, rfl⟩ | ⟨s', rfl, _, _⟩ <;> rcases hy with rfl | ⟨j, rfl⟩ | ⟨t', rfl, _, _⟩
  · rfl
  · rfl
  · rfl
  · rfl
  · show (i == j) = _
    by_cases e : i = j
    · subst e
      simp
    · rw [decide_eq_false (fun z => e (V.int.inj z))]
      exact beq_eq_false_iff_ne.mpr e
  · rfl
  · rfl
  · rfl
  · show (s' == t') = _
    by_cases e : s' = t'
    · subst e
      simp
    · rw [decide_eq_false (fun z => e (V.str.inj z))]
      exact beq_eq_false_iff_ne.mpr e
theorem eqv_fvs : ∀ xs ys : List V, (∀ v ∈ xs, FV v) → (∀ v ∈ ys, FV v) → PyData.eqvAll (xs.map pd) (ys.map pd) = decide (xs = ys)
  | [], [], _, _ => rfl
  | [], _ :: _, _, _ => rfl
  | _ :: _, [], _, _ => rfl
  | x :: xs, y :: ys, hx, hy => by
    rw [List.map_cons, List.map_cons, PyData.eqvAll, eqv_fv (hx x (List.mem_cons_self ..)) (hy y (List.mem_cons_self ..)), eqv_fvs xs ys (fun v hv => hx v (List.mem_cons_of_mem _ hv)) (fun v hv => hy v (List.mem_cons_of_mem _ hv))]
    by_cases e1 : x = y
    · by_cases e2 : xs = ys
      · subst e1
        subst e2
        simp
      · simp [e1, e2]
    · simp [e1]
theorem x_neFvs {H : Hp} {Q : VK} {a c : Addr} {xs ys : List V} (h : SqT K H a xs) (h' : SqT K H c ys) (hx : ∀ v ∈ xs, FV v) (hy : ∀ v ∈ ys, FV v) (q : Q (.bl (!decide (xs = ys))) H) : rNeD K (.ref a) (.ref c) H Q := by
  have k1 := Xk.pk_tup (n := 1) h (pk_fvs xs hx)
  have k2 := Xk.pk_tup (n := 1) h' (pk_fvs ys hy)
  refine ⟨_, _, k1.1, k2.1, Xk.shaped_of k1.lay (Nat.le_trans k1.2.2 (by decide)), Xk.shaped_of k2.lay (Nat.le_trans k2.2.2 (by decide)), ?_⟩
  rw [PyData.eqv, eqv_fvs xs ys hx hy]
  exact q
theorem x_eqFv {H : Hp} {Q : VK} {x y : V} (hx : FV x) (hy : FV y) (q : Q (.bl (decide (x = y))) H) : rEqD K x y H Q := by
  have k1 := pk_fv (K := K) (H := H) (n := 1) hx
  have k2 := pk_fv (K := K) (H := H) (n := 1) hy
  refine ⟨_, _, k1.1, k2.1, Xk.shaped_of k1.lay (Nat.le_trans k1.2.2 (by decide)), Xk.shaped_of k2.lay (Nat.le_trans k2.2.2 (by decide)), ?_⟩
  rw [eqv_fv hx hy]
  exact q
theorem dec_snoc {xs ys : List V} {x y : V} (h : xs.length = ys.length) : decide (xs ++ [x] = ys ++ [y]) = (decide (xs = ys) && decide (x = y)) := by
  by_cases e1 : xs = ys
  · subst e1
    by_cases e2 : x = y
    · subst e2
      simp
    · simp [e2]
  · rw [decide_eq_false e1, Bool.false_and]
    exact decide_eq_false fun z => e1 (List.append_inj_left z h)
theorem keep_tup {H : Hp} {a c : Addr} {xs ys : List V} {o : HO} (h : H a = some (.tup xs)) (h' : H c = some (.lst ys)) : upd H c o a = some (.tup xs) :=
  (upd_ne (fun z => by subst z; rw [h'] at h; cases h)).trans h
abbrev Ck := Str × V
structure DlAt (H : Hp) (p : Addr) (C : List (Addr × Ck)) (D : List (Addr × Dd)) : Prop where
  tp : ∃ pc pd, H p = some (.tup [.ref pc, .ref pd]) ∧ H pc = some (.tup (C.map fun e => V.ref e.1)) ∧ H pd = some (.tup (D.map fun e => V.ref e.1))
  ck : ∀ e ∈ C, H e.1 = some (.tup [.str e.2.1, e.2.2])
  dd : ∀ e ∈ D, H e.1 = some (.tup e.2.xs)
  fv : ∀ e ∈ C, Ok e.2.1 ∧ FV e.2.2
  ok : ∀ e ∈ D, e.2.ok
  cl : C.length ≤ 20
  dl : D.length ≤ 20
theorem DlAt.same {H H' : Hp} {p : Addr} {C : List (Addr × Ck)} {D : List (Addr × Dd)} (h : DlAt H p C D) (s : Same H H') : DlAt H' p C D := by
  obtain ⟨pc, pd, h1, h2, h3⟩ := h.tp
  exact ⟨⟨pc, pd, s _ _ h1, s _ _ h2, s _ _ h3⟩, fun e he => s _ _ (h.ck e he), fun e he => s _ _ (h.dd e he), h.fv, h.ok, h.cl, h.dl⟩
theorem but_tup {H H' : Hp} {r a : Addr} {kvs : Kvs} {xs : List V} (b : Xk.But r H H') (hr : H r = some (.dK kvs)) (h : H a = some (.tup xs)) : H' a = some (.tup xs) :=
  b _ _ (fun z => by subst z; rw [hr] at h; cases h) h
theorem fr_but {H H' : Hp} {r p : Addr} {o : HO} (f : Xk.Fr p H') (b : Xk.But r H H') (hr : H' r = some o) : Xk.Fr p H := ⟨by
  cases e : H p with
  | none => rfl
  | some u =>
    have h1 := f.is
    by_cases e2 : p = r
    · subst e2
      rw [hr] at h1
      cases h1
    · rw [b _ _ e2 e] at h1
      cases h1⟩
theorem DlAt.but {H H' : Hp} {r p : Addr} {kvs : Kvs} {C : List (Addr × Ck)} {D : List (Addr × Dd)} (h : DlAt H p C D) (b : Xk.But r H H') (hr : H r = some (.dK kvs)) : DlAt H' p C D := by
  obtain ⟨pc, pd, h1, h2, h3⟩ := h.tp
  exact ⟨⟨pc, pd, but_tup b hr h1, but_tup b hr h2, but_tup b hr h3⟩, fun e he => but_tup b hr (h.ck e he), fun e he => but_tup b hr (h.dd e he), h.fv, h.ok, h.cl, h.dl⟩
/-- deeds one behind another -/
def doAll (kvs : Kvs) : List Dd → Kvs × List V
  | [] => (kvs, [])
  | d :: r => ((doAll (app kvs d).1 r).1, (app kvs d).2 :: (doAll (app kvs d).1 r).2)
theorem doAll_snoc (d : Dd) : ∀ (l : List Dd) (kvs : Kvs), doAll kvs (l ++ [d]) = ((app (doAll kvs l).1 d).1, (doAll kvs l).2 ++ [(app (doAll kvs l).1 d).2])
  | [], kvs => rfl
  | e :: r, kvs => by
    show ((doAll (app kvs e).1 (r ++ [d])).1, (app kvs e).2 :: (doAll (app kvs e).1 (r ++ [d])).2) = _
    rw [doAll_snoc d r]
    rfl
theorem doAll_ok {ks : List Str} : ∀ (l : List Dd) (kvs : Kvs), KvOk ks kvs → (∀ d ∈ l, d.ok ∧ d.key ∈ ks) → KvOk ks (doAll kvs l).1 ∧ (∀ v ∈ (doAll kvs l).2, FV v) ∧ (doAll kvs l).2.length = l.length
  | [], kvs, h, _ => ⟨h, fun v z => (by cases z), rfl⟩
  | d :: r, kvs, h, hl => by
    have hd := hl d (List.mem_cons_self ..)
    have h1 := app_ok h hd.1 hd.2
    have h2 := doAll_ok r _ h1.1 fun d hd => hl d (List.mem_cons_of_mem _ hd)
    refine ⟨h2.1, fun v hv => ?_, congrArg (· + 1) h2.2.2⟩
    rcases List.mem_cons.mp hv with rfl | hv
    · exact h1.2.2
    · exact h2.2.1 v hv
def held (kvs : Kvs) (cs : List Ck) : Bool := decide (cs.map (fun c => gv kvs c.1) = cs.map (fun c => c.2))
def dealW (kvs : Kvs) (cs : List Ck) (ds : List Dd) : Kvs × Str × List V := if held kvs cs = true then ((doAll kvs ds).1, "done", (doAll kvs ds).2) else (kvs, "unheld", cs.map fun c => gv kvs c.1)
theorem gv_fv {ks : List Str} {kvs : Kvs} (h : KvOk ks kvs) (k : Str) : FV (gv kvs k) := by
  unfold gv
  cases e : valV kvs (Sum.inr k) with
  | none => exact .inl rfl
  | some v => exact .inr (h.val e)
def sp_do_deal (K : PySem.W.Frag) : Sp := fun vs H Q _ => ∃ r p kvs C D ks, vs = [.ref r, .ref p] ∧ H r = some (.dK kvs) ∧ KvOk ks kvs ∧ ks.length ≤ 100 ∧ DlAt H p C D ∧ (∀ e ∈ D, e.2.key ∈ ks) ∧
  ∀ H' q t, Xk.But r H H' → Xk.Fr q H → Xk.Fr t H → H' r = some (.dK (dealW kvs (C.map (·.2)) (D.map (·.2))).1) → H' q = some (.tup [.str (dealW kvs (C.map (·.2)) (D.map (·.2))).2.1, .ref t]) → H' t = some (.tup (dealW kvs (C.map (·.2)) (D.map (·.2))).2.2) → Q (.ref q) H'
theorem ok_do_deal (T : Txt K mg) : FnOk P w K mg base CX0 6 T.f_do_deal T.d_do_deal ["rows", "deal"] (sp_do_deal K) := by
  refine T.F_do_deal.ok sc_do_deal (fun vs H Q E h => ?_) (fun cdv A outer s H vs Q E hr h => ?_)
  · obtain ⟨r, p, kvs, C, D, ks, rfl, _⟩ := h
    rfl
  obtain ⟨r, p, kvs, C, D, ks, rfl, hr0, hkv, hkl, hD, hk, q⟩ := h
  refine ⟨_, (pss_cons (ps_asg (pv 1) (pg_tup rfl (pgs_cons (pg_name (i := 2) sc_do_deal.nd rfl (Or.inl rfl)) (pgs_cons (pg_name (i := 3) sc_do_deal.nd rfl (Or.inl rfl)) pgs_nil))))
      (pss_cons (ps_set (i := 4) sc_do_deal.nd rfl (Or.inl rfl) (pe_callTy (Xk.k_tuple (K := K) (by rfl)) (by rfl) T.m_tuple (by decide +kernel) (pa_cons (pe_lc (own := [("key", 5), ("value", 6)]) (g := gTup K 2 (gCons (gName 5) (gCons (gName 6) gNil))) (tt := tYes) rfl sc_do_deal.nd  (pi_tup (pv 2)) (blkOk_by (N := N_do_deal) (sc := defScope s_do_deal) (own := [("key", 5), ("value", 6)]) (by decide +kernel)) (fun _ _ _ _ _ => Xk.k_gtup (K := K) (by rfl) rfl (pgs_cons (pg_name (i := 5) sc_do_deal.nd rfl (Or.inl rfl)) (pgs_cons (pg_name (i := 6) sc_do_deal.nd rfl (Or.inl rfl)) pgs_nil))) (fun _ _ _ _ _ => pts_nil) (fun _ _ _ _ _ => (pe_dget1 (hu_of hr) (pv 0) (pv 5) ⟨by rfl, by rfl, by rfl, by rfl⟩))) pa_nil)))
      (Evl.pss_cut (ps_if (pt_cmpR (Xk.k_neD (K := K) hr.units (by rfl)) (pv 4) (pe_callTy (Xk.k_tuple (K := K) (by rfl)) (by rfl) T.m_tuple (by decide +kernel) (pa_cons (pe_lc (own := [("key", 5), ("value", 6)]) (g := gTup K 2 (gCons (gName 5) (gCons (gName 6) gNil))) (tt := tYes) rfl sc_do_deal.nd  (pi_tup (pv 2)) (blkOk_by (N := N_do_deal) (sc := defScope s_do_deal) (own := [("key", 5), ("value", 6)]) (by decide +kernel)) (fun _ _ _ _ _ => Xk.k_gtup (K := K) (by rfl) rfl (pgs_cons (pg_name (i := 5) sc_do_deal.nd rfl (Or.inl rfl)) (pgs_cons (pg_name (i := 6) sc_do_deal.nd rfl (Or.inl rfl)) pgs_nil))) (fun _ _ _ _ _ => pts_nil) (fun _ _ _ _ _ => (pv 6))) pa_nil)) (nomark _)) (pss_one (ps_ret (pe_tup (pa_cons (pe_str) (pa_cons (pv 4) pa_nil))))) pss_nil)
      (pss_one (ps_ret (pe_tup (pa_cons (pe_str) (pa_cons (pe_callTy (Xk.k_tuple (K := K) (by rfl)) (by rfl) T.m_tuple (by decide +kernel) (pa_cons (pe_lc (own := [("deed", 7)]) (g := gName 7) (tt := tYes) rfl sc_do_deal.nd  (pi_tup (pv 3)) (blkOk_by (N := N_do_deal) (sc := defScope s_do_deal) (own := [("deed", 7)]) (by decide +kernel)) (fun _ _ _ _ _ => pg_name (i := 7) sc_do_deal.nd rfl (Or.inl rfl)) (fun _ _ _ _ _ => pts_nil) (fun _ _ _ _ _ => (pe_call (ok_apply_deed T) (hr.mono (by decide)) (by rfl) T.g_apply_deed T.F_apply_deed.kp T.b_apply_deed .nil pass0 (pa_cons (pv 0) (pa_cons (pv 7) pa_nil))))) pa_nil)) pa_nil)))))))), ?_⟩
  obtain ⟨pc, pd', h1, h2, h3⟩ := hD.tp
  have few := hkv.few
  wtm_at "x0"
  wtm_at "xs"
  refine Xk.x_lcT (xs := C.map fun e => V.ref e.1) (fun Dl i H' => Same H H' ∧ H' Dl = some (.lst ((C.take i).map fun e => gv kvs e.2.1))) (Xk.st_of h2) ?_ ?_ ?_ ?_
  · intro Dl hDl
    exact ⟨Xk.same_fr hDl, upd_same⟩
  · rintro Dl i H' hDl ⟨s2, _⟩
    exact Xk.st_of (s2 _ _ h2)
  · rintro Dl hDl i x H' hi ⟨s2, hb⟩
    obtain ⟨e, he, rfl⟩ := Xk.of_map_at hi
    have he2 := s2 _ _ (hD.ck e (List.mem_of_getElem? he))
    have hr2 := s2 _ _ hr0
    have sz : ((C.take i).map fun e => gv kvs e.2.1).length < sizeLine := Xk.size_lt (by have := hD.cl; simp only [List.length_map, List.length_take]; omega)
    wtm_at "xs"
    refine ⟨rfl, ?_⟩
    wtm_at "xs"
    refine ⟨_, hb, sz, by wtm_at "sm", ?_⟩
    rw [upd_same, List.take_add_one, he, List.map_append]
    rfl
  · rintro Dl H1 hDl ⟨s1, hb⟩
    rw [List.take_of_length_le (by rw [List.length_map]; exact Nat.le_refl _)] at hb
    have hD1 := hD.same s1
    have hr1 := s1 _ _ hr0
    have h21 := s1 _ _ h2
    have h31 := s1 _ _ h3
    clear h1 h2 h3
    wtm_at "xs"
    intro t1 H2 ht1 s2 hv1
    have hD2 := hD1.same s2
    have h22 := s2 _ _ h21
    have h32 := s2 _ _ h31
    have hr2 := s2 _ _ hr1
    clear hb h21 h31
    wtm_at "xs"
    refine Xk.x_nocut ?_
    wtm_at "xs"
    refine Xk.x_lcT (xs := C.map fun e => V.ref e.1) (fun Dl i H' => Same H2 H' ∧ H' Dl = some (.lst ((C.take i).map fun e => e.2.2))) (Xk.st_of h22) ?_ ?_ ?_ ?_
    · intro Dl hDl
      exact ⟨Xk.same_fr hDl, upd_same⟩
    · rintro Dl i H' hDl ⟨s2, _⟩
      exact Xk.st_of (s2 _ _ h22)
    · rintro Dl hDl i x H' hi ⟨s3, hb⟩
      obtain ⟨e, he, rfl⟩ := Xk.of_map_at hi
      have he2 := s3 _ _ (hD2.ck e (List.mem_of_getElem? he))
      have sz : ((C.take i).map fun e => e.2.2).length < sizeLine := Xk.size_lt (by have := hD.cl; simp only [List.length_map, List.length_take]; omega)
      wtm_at "xs"
      refine ⟨rfl, ?_⟩
      wtm_at "xs"
      refine ⟨_, hb, sz, by wtm_at "sm", ?_⟩
      rw [upd_same, List.take_add_one, he, List.map_append]
      rfl
    · rintro Dl H3 hDl2 ⟨s3, hb⟩
      rw [List.take_of_length_le (by rw [List.length_map]; exact Nat.le_refl _)] at hb
      wtm_at "xs"
      intro t2 H4 ht2 s4 hv2
      have s24 := s3.trans s4
      have hv14 := s24 _ _ hv1
      have hD4 := hD2.same s24
      have hr4 := s24 _ _ hr2
      have h34 := s24 _ _ h32
      have s04 := s1.trans (s2.trans s24)
      have f1 : Xk.Fr t1 H := Xk.free_back ht1 s1
      clear hb hv1 h22 h32 s1 s2 s3 s4 s24 hDl hDl2 hr1 hr2 hD1 hD2 ht1 hr0
      refine x_neFvs (Xk.st_of hv14) (Xk.st_of hv2) ?_ ?_ ?_
      · intro v hv
        obtain ⟨e, he, rfl⟩ := List.mem_map.mp hv
        exact gv_fv hkv _
      · intro v hv
        obtain ⟨e, he, rfl⟩ := List.mem_map.mp hv
        exact (hD.fv e he).2
      have eh : held kvs (C.map (·.2)) = decide (C.map (fun e => gv kvs e.2.1) = C.map fun e => e.2.2) := by
        unfold held
        rw [List.map_map, List.map_map]
        rfl
      wtm_at "xs"
      refine Xk.x_itn (fun h5 => ?_) (fun h5 => ?_)
      · have e2 : dealW kvs (C.map (·.2)) (D.map (·.2)) = (kvs, ("unheld" : Str), C.map fun e => gv kvs e.2.1) := by
          unfold dealW
          rw [eh, decide_eq_false h5, if_neg (by simp), List.map_map]
          rfl
        rw [e2] at q
        wtm_at "xs"
        intro p5 H5 hp5 s5 h5'
        have hr5 := s5 _ _ hr4
        exact q H5 p5 t1 (Xk.but_same (s04.trans s5)) (Xk.free_back hp5 s04) f1 hr5 h5' (s5 _ _ hv14)
      · have e2 : dealW kvs (C.map (·.2)) (D.map (·.2)) = ((doAll kvs (D.map (·.2))).1, ("done" : Str), (doAll kvs (D.map (·.2))).2) := by
          unfold dealW
          rw [eh, decide_eq_true h5, if_pos rfl]
        rw [e2] at q
        wtm_at "xs"
        refine Xk.x_lcT (xs := D.map fun e => V.ref e.1) (fun Dl i H' => Xk.But r H4 H' ∧ H' r = some (.dK (doAll kvs ((D.take i).map (·.2))).1) ∧ H' Dl = some (.lst (doAll kvs ((D.take i).map (·.2))).2)) (Xk.st_of h34) ?_ ?_ ?_ ?_
        · intro Dl hDl
          exact ⟨Xk.but_new (Xk.But.refl _ _) hDl, (upd_ne (Xk.ne_new hDl hr4)).trans hr4, upd_same⟩
        · rintro Dl i H' hDl ⟨s3, _⟩
          exact Xk.st_of (but_tup s3 hr4 h34)
        · rintro Dl hDl i x H' hi ⟨b3, hr5, hb⟩
          obtain ⟨e, he, rfl⟩ := Xk.of_map_at hi
          have he2 := but_tup b3 hr4 (hD4.dd e (List.mem_of_getElem? he))
          have hok : ∀ d ∈ (D.take i).map (·.2), Dd.ok d ∧ d.key ∈ ks := fun d hd => by
            obtain ⟨e', he', rfl⟩ := List.mem_map.mp hd
            have := List.mem_of_mem_take he'
            exact ⟨hD.ok _ this, hk _ this⟩
          have hA := doAll_ok _ kvs hkv hok
          have hf := hA.1.few
          have hDl' := hD.dl
          have sz : (doAll kvs ((D.take i).map (·.2))).2.length < sizeLine := Xk.size_lt (by rw [hA.2.2]; simp only [List.length_map, List.length_take]; omega)
          have nDl : Dl ≠ r := (Xk.ne_new hDl hr4).symm
          wtm_at "xs"
          refine ⟨rfl, ?_⟩
          wtm_at "xs"
          refine ⟨r, e.1, _, e.2, rfl, hr5, he2, fun k v e => hA.1.val e, by omega, hD.ok _ (List.mem_of_getElem? he), fun H6 b6 hr6 => ?_⟩
          refine ⟨_, Xk.but_at b6 nDl hb, sz, ?_, ?_, ?_⟩
          · exact fun b o n h => (upd_ne (Xk.ne_new hDl h)).trans (b6 b o n (b3 b o n h))
          · rw [upd_ne nDl.symm, hr6, List.take_add_one, he]
            show _ = some (HO.dK (doAll kvs (((D.take i) ++ [e]).map (·.2))).1)
            rw [List.map_append, List.map_singleton, doAll_snoc]
          · rw [upd_same, List.take_add_one, he]
            show _ = some (HO.lst (doAll kvs (((D.take i) ++ [e]).map (·.2))).2)
            rw [List.map_append, List.map_singleton, doAll_snoc]
        · rintro Dl H5 hDl ⟨b5, hr5, hb⟩
          rw [List.take_of_length_le (by rw [List.length_map]; exact Nat.le_refl _)] at hb hr5
          wtm_at "xs"
          intro t3 H6 ht3 s6 hv3
          wtm_at "xs"
          intro p7 H7 hp7 s7 h7
          have b7 : Xk.But r H H7 := Xk.but_trans (Xk.but_same s04) (Xk.but_trans b5 (Xk.but_same (s6.trans s7)))
          have hr6 := s6 _ _ hr5
          exact q H7 p7 t3 b7 (fr_but hp7 (Xk.but_trans (Xk.but_same s04) (Xk.but_trans b5 (Xk.but_same s6))) hr6) (fr_but ht3 (Xk.but_trans (Xk.but_same s04) b5) hr5) (s7 _ _ hr6) h7 (s7 _ _ hv3)
/-- a store at x with its rows at r -/
structure StAt (C : Addr) (H : Hp) (x r : Addr) (kvs : Kvs) : Prop where
  ins : ∃ dx, H x = some (.ins C dx [("rows", .ref r)])
  rows : H r = some (.dK kvs)
def sp_Store___init__ (K : PySem.W.Frag) (C : Addr) : Sp := fun vs H Q _ => ∃ x dx v kvs, vs = [.ref x, v] ∧ H x = some (.ins C dx []) ∧ ((v = .non ∧ kvs = []) ∨ ∃ r0, v = .ref r0 ∧ H r0 = some (.dK kvs)) ∧
  ∀ H' r, Xk.Fr r H → Xk.But x H H' → H' x = some (.ins C dx [("rows", .ref r)]) → H' r = some (.dK kvs) → Q .non H'
theorem ok_Store___init__ (T : Txt K mg) : FnOk P w K mg base CX0 1 T.f_Store___init__ T.d_Store___init__ ["self", "rows"] (sp_Store___init__ K T.C_Store) := by
  refine Xk.okD T.F_Store___init__ sc_Store___init__ (fun vs H Q E h => ?_) (fun cdv A outer s H vs Q E hr h => ?_)
  · obtain ⟨x, dx, v, kvs, rfl, _⟩ := h
    rfl
  obtain ⟨x, dx, v, kvs, rfl, j1, hv, q⟩ := h
  have c0 := T.Cls_Store
  have c1 := T.A_Store_rows
  refine ⟨_, (pss_one (ps_fld (pv 0) (pe_ifExp (pt_cmpR Xk.op_nIsN (pv 1) (pe_non) (nomark _)) (pe_dnewK) (pe_callTy Xk.k_dictD (by rfl) T.m_dict (by decide +kernel) (pa_cons (pv 1) pa_nil))) rfl)), ?_⟩
  wtm_at "x0"
  rcases hv with ⟨rfl, rfl⟩ | ⟨r0, rfl, h0⟩
  · wtm_at "xs"
    intro p H2 hp s2 h2
    have n1 : x ≠ p := Xk.ne_new hp j1
    wtm_at "xs"
    exact q _ p hp (by wtm_at "bm") upd_same (by wtm_at "hx")
  · wtm_at "xs"
    refine Xk.x_rDictD h0 fun p H2 hp s2 h2 => ?_
    have n1 : x ≠ p := Xk.ne_new hp j1
    wtm_at "xs"
    exact q _ p hp (by wtm_at "bm") upd_same (by wtm_at "hx")
def sp_Store_do (K : PySem.W.Frag) (C : Addr) : Sp := fun vs H Q _ => ∃ x r p kvs C' D ks, vs = [.ref x, .ref p] ∧ StAt C H x r kvs ∧ KvOk ks kvs ∧ ks.length ≤ 100 ∧ DlAt H p C' D ∧ (∀ e ∈ D, e.2.key ∈ ks) ∧
  ∀ H' q t, Xk.But r H H' → Xk.Fr q H → Xk.Fr t H → H' r = some (.dK (dealW kvs (C'.map (·.2)) (D.map (·.2))).1) → H' q = some (.tup [.str (dealW kvs (C'.map (·.2)) (D.map (·.2))).2.1, .ref t]) → H' t = some (.tup (dealW kvs (C'.map (·.2)) (D.map (·.2))).2.2) → Q (.ref q) H'
theorem ok_Store_do (T : Txt K mg) : FnOk P w K mg base CX0 7 T.f_Store_do T.d_Store_do ["self", "deal"] (sp_Store_do K T.C_Store) := by
  refine T.F_Store_do.ok sc_Store_do (fun vs H Q E h => ?_) (fun cdv A outer s H vs Q E hr h => ?_)
  · obtain ⟨x, r, p, kvs, C', D, ks, rfl, _⟩ := h
    rfl
  obtain ⟨x, r, p, kvs, C', D, ks, rfl, j, hkv, hkl, hD, hk, q⟩ := h
  have c0 := T.Cls_Store
  have c1 := T.A_Store_rows
  obtain ⟨dx, j1⟩ := j.ins
  have j2 := j.rows
  refine ⟨_, (pss_one (ps_ret (pe_call (ok_do_deal T) (hr.mono (by decide)) (by rfl) T.g_do_deal T.F_do_deal.kp T.b_do_deal .nil pass0 (pa_cons (Xk.k_fld (K := K) (by rfl) (pv 0) rfl) (pa_cons (pv 1) pa_nil))))), ?_⟩
  wtm_at "x0"
  wtm_at "xs"
  exact ⟨r, p, kvs, C', D, ks, rfl, j2, hkv, hkl, hD, hk, q⟩
--CUT--
theorem flat_strs : ∀ ks : List Str, (ks.map V.str).all flatV = true
  | [] => rfl
  | k :: r => by
    rw [List.map_cons, List.all_cons, flat_strs r]
    rfl
theorem in_strs (s : Str) : ∀ ks : List Str, inV (.str s) (ks.map V.str) = decide (s ∈ ks)
  | [] => by simp [inV]
  | k :: r => by
    have h := in_strs s r
    unfold inV at h ⊢
    rw [List.map_cons, List.any_cons, h]
    by_cases e : k = s
    · subst e
      simp [eqV]
    · have e' : ¬ s = k := fun z => e z.symm
      simp [eqV, e, e']
theorem ne_of_obj {H : Hp} {a b : Addr} {o o' : HO} (h : H a = some o) (h' : H b = some o') (n : o ≠ o') : a ≠ b := fun z => by
  rw [z, h'] at h
  exact n (Option.some.inj h).symm
theorem sign_ok {z : Str} {i c : Nat} (h : z.cps.toList.all Xk.okC = true) (e : z.cps.toList[i]? = some c) : Xk.AllC Xk.okC ⟨#[c]⟩ = true := by
  have h1 := List.all_eq_true.mp h c (List.mem_of_getElem? e)
  show List.all _ _ = true
  simp [h1]
def sp__law_keys (K : PySem.W.Frag) : Sp := fun vs H Q _ => ∃ (b : Addr) (n : Int), vs = [.ref b] ∧ H b = some (.lst [.int n]) ∧
  ∀ H' f (m : Int) (ks : List Str), Xk.Fr f H → Xk.But b H H' → H' b = some (.lst [.int m]) → H' f = some (.lst (ks.map V.str)) → (∀ k ∈ ks, Ok k) → ks.length ≤ 5 → 1 ≤ ks.length → Q (.ref f) H'
theorem ok__law_keys (T : Txt K mg) : FnOk P w K mg base CX0 3 T.f__law_keys T.d__law_keys ["box"] (sp__law_keys K) := by
  refine T.F__law_keys.ok sc__law_keys (fun vs H Q E h => ?_) (fun cdv A outer s H vs Q E hr h => ?_)
  · obtain ⟨b, n, rfl, _⟩ := h
    rfl
  obtain ⟨b, n, rfl, hb, q⟩ := h
  refine ⟨_, (pss_cons (ps_set (i := 1) sc__law_keys.nd rfl (Or.inl rfl) (pe_lst pa_nil))
      (pss_cons (ps_for PassesOwn.never rfl (pi_str (pe_str)) (pg_name (i := 2) sc__law_keys.nd rfl (Or.inl rfl)) (pss_cons (ps_set (i := 3) sc__law_keys.nd rfl (Or.inl rfl) (pe_call (ok__law_key T) (hr.mono (by decide)) (by rfl) T.g__law_key T.F__law_key.kp T.b__law_key .nil pass0 (pa_cons (pv 0) (pa_cons (pv 2) pa_nil))))
      (pss_one (ps_if (pt_cmpR (Xk.k_nin (K := K) (by rfl)) (pv 3) (pv 1) (by rfl)) (pss_one (ps_expr (pe_bm PySem.F.plainAttrs_list PySem.F.slot_list_append PySem.F.type_list_append mt_append (pv 1) (pa_cons (pv 3) pa_nil)))) pss_nil))))
      (pss_one (ps_ret (pv 1))))), ?_⟩
  wtm_at "x0"
  wtm_at "xs"
  intro f H1 hf s1 h1
  have hb1 := s1 _ _ hb
  have nfb : f ≠ b := (Xk.ne_new hf hb).symm
  wtm_at "xs"
  have b01 : Xk.But b H H1 := Xk.but_same s1
  clear s1
  refine Xk.x_forS (z := "aktz5") (fun i σ' H' => ∃ (y2 y3 : Option V) (ks : List Str) (m : Int), σ' = [some (.ref b), some (.ref f), y2, y3] ∧ Xk.But b H H' ∧ H' b = some (.lst [.int m]) ∧ H' f = some (.lst (ks.map V.str)) ∧ (∀ k ∈ ks, Ok k) ∧ ks.length ≤ i ∧ (1 ≤ i → 1 ≤ ks.length))
    ⟨_, _, [], n, rfl, b01, hb1, h1, fun k hk => (by cases hk), Nat.le_refl _, fun z => absurd z (by decide)⟩ ?_ ?_
  · rintro i c σ' H' hi ⟨y2, y3, ks, m, rfl, b2, hb2, h2, hok, hlen, hone⟩
    have hi5 : i < 5 := Xk.at_lt hi
    wtm_at "xs"
    refine ⟨b, m, _, rfl, hb2, Nat.le_refl _, sign_ok (by decide) hi, fun H3 m3 s3 b3 hb3 hs3 _ => ?_⟩
    have b03 := Xk.but_trans b2 b3
    have h3 := b3 _ _ nfb h2
    wtm_at "xs"
    refine Xk.x_niL (Xk.sq_of h3) rfl (flat_strs ks) ?_
    rw [in_strs]
    wtm_at "xs"
    refine Xk.x_itn (fun h => ?_) (fun h => ?_)
    · have hz : (ks.map V.str).length < 100000 := by rw [List.length_map]; omega
      wtm_at "xs"
      refine ⟨_, _, ks ++ [s3], m3, rfl, Xk.but_new b03 hf, (upd_ne nfb.symm).trans hb3, by rw [upd_same, List.map_append]; rfl, fun z hz => ?_, by rw [List.length_append]; exact Nat.succ_le_succ hlen, fun _ => by rw [List.length_append]; exact Nat.le_add_left _ _⟩
      rcases List.mem_append.mp hz with hz | hz
      · exact hok z hz
      · rw [List.mem_singleton.mp hz]
        exact hs3
    · wtm_at "xs"
      refine ⟨_, _, ks, m3, rfl, b03, hb3, h3, hok, by omega, fun _ => List.length_pos_of_mem (a := s3) h⟩
  · rintro σ' H' ⟨y2, y3, ks, m, rfl, b2, hb2, h2, hok, hlen, hone⟩
    wtm_at "xs"
    exact q H' f m ks hf b2 hb2 h2 hok hlen (hone (by decide))
def sp__law_value (K : PySem.W.Frag) : Sp := fun vs H Q _ => ∃ (b : Addr) (n : Int), vs = [.ref b] ∧ H b = some (.lst [.int n]) ∧
  ∀ H' (m : Int) v, Xk.But b H H' → H' b = some (.lst [.int m]) → VOk v → Q v H'
theorem ok__law_value (T : Txt K mg) : FnOk P w K mg base CX0 2 T.f__law_value T.d__law_value ["box"] (sp__law_value K) := by
  refine T.F__law_value.ok sc__law_value (fun vs H Q E h => ?_) (fun cdv A outer s H vs Q E hr h => ?_)
  · obtain ⟨b, n, rfl, _⟩ := h
    rfl
  obtain ⟨b, n, rfl, hb, q⟩ := h
  refine ⟨_, (pss_cons (ps_set (i := 1) sc__law_value.nd rfl (Or.inl rfl) (pe_call (ok__law_take T) (hr.mono (by decide)) (by rfl) T.g__law_take T.F__law_take.kp T.b__law_take .nil pass0 (pa_cons (pv 0) (pa_cons (pe_int) pa_nil))))
      (Evl.pss_cut (ps_if (pt_cmpR op_lt (pv 1) (pe_int) (nomark _)) (pss_one (ps_ret (pe_op op_sub (pe_call (ok__law_take T) (hr.mono (by decide)) (by rfl) T.g__law_take T.F__law_take.kp T.b__law_take .nil pass0 (pa_cons (pv 0) (pa_cons (pe_int) pa_nil))) (pe_int)))) pss_nil)
      (Evl.pss_cut (ps_if (pt_cmpR op_eq (pv 1) (pe_int) (nomark _)) (pss_one (ps_ret (pe_ix (Xk.k_ixL (K := K) (by rfl)) (pe_lst (pa_cons (pe_op op_pow (pe_int) (pe_int)) (pa_cons (pe_un un_neg (pe_op op_pow (pe_int) (pe_int))) (pa_cons (pe_op op_sub (pe_op op_pow (pe_int) (pe_int)) (pe_int)) (pa_cons (pe_int) pa_nil))))) (pe_call (ok__law_take T) (hr.mono (by decide)) (by rfl) T.g__law_take T.F__law_take.kp T.b__law_take .nil pass0 (pa_cons (pv 0) (pa_cons (pe_int) pa_nil))) (fun _ _ => rfl)))) pss_nil)
      (pss_one (ps_ret (pe_ix (Xk.k_ixL (K := K) (by rfl)) (pe_lst (pa_cons (pe_str) (pa_cons (pe_str) (pa_cons (pe_str) (pa_cons (pe_op Xk.op_nRepS (pe_str) (pe_int)) (pa_cons (pe_str) (pa_cons (pe_str) pa_nil))))))) (pe_call (ok__law_take T) (hr.mono (by decide)) (by rfl) T.g__law_take T.F__law_take.kp T.b__law_take .nil pass0 (pa_cons (pv 0) (pa_cons (pe_int) pa_nil))) (fun _ _ => rfl))))))), ?_⟩
  wtm_at "x0"
  wtm_at "xs"
  refine draw hb ⟨by decide, by decide⟩ fun j m H1 hj b1 hb1 => ?_
  wtm_at "xs"
  refine Xk.x_cut (fun σ' H' => σ' = [some (.ref b), some (.int j)] ∧ H' = H1) ?_ ?_
  · wtm_at "xs"
    refine Xk.x_itd (fun c => ?_) (fun c => ?_)
    · wtm_at "xs"
      refine draw hb1 ⟨by decide, by decide⟩ fun j2 m2 H2 hj2 b2 hb2 => ?_
      wtm_at "xs"
      exact q _ m2 _ (Xk.but_trans b1 b2) hb2 (.inl ⟨_, rfl⟩)
    · wtm_at "xs"
      exact ⟨rfl, rfl⟩
  rintro σ' H' ⟨rfl, rfl⟩
  refine Xk.x_cut (fun σ' H2 => σ' = [some (.ref b), some (.int j)] ∧ H2 = H') ?_ ?_
  · wtm_at "xs"
    refine Xk.x_itd (fun c => ?_) (fun c => ?_)
    · wtm_at "xs"
      intro p H2 hp s2 h2
      have npb : p ≠ b := (Xk.ne_new hp hb1).symm
      have hb2 := s2 _ _ hb1
      wtm_at "xs"
      have hx : ∃ xs : List V, H2 p = some (.lst xs) ∧ xs.length = 4 ∧ ∀ x ∈ xs, VOk x := by
        refine ⟨_, h2, rfl, fun x hx => ?_⟩
        simp only [List.mem_cons, List.not_mem_nil, or_false] at hx
        rcases hx with rfl | rfl | rfl | rfl <;> exact .inl ⟨_, rfl⟩
      obtain ⟨xs, hx, hxl, hxa⟩ := hx
      refine draw (z := 4) hb2 ⟨by decide, by decide⟩ fun j2 m2 H3 hj2 b3 hb3 => ?_
      obtain ⟨v, hv⟩ := Xk.lt_at (xs := xs) (j := j2) (by omega)
      refine Xk.x_ixL (Xk.sq_of (b3 _ _ npb hx)) (Xk.at_nat rfl hv) ?_
      exact q _ m2 _ (Xk.but_trans (Xk.but_trans b1 (Xk.but_same s2)) b3) hb3 (hxa v (List.mem_of_getElem? hv))
    · wtm_at "xs"
      exact ⟨rfl, rfl⟩
  rintro σ' H' ⟨rfl, rfl⟩
  wtm_at "xs"
  intro p H2 hp s2 h2
  have npb : p ≠ b := (Xk.ne_new hp hb1).symm
  have hb2 := s2 _ _ hb1
  wtm_at "xs"
  have hx : ∃ xs : List V, H2 p = some (.lst xs) ∧ xs.length = 6 ∧ ∀ x ∈ xs, VOk x := by
    refine ⟨_, h2, rfl, fun x hx => ?_⟩
    simp only [List.mem_cons, List.not_mem_nil, or_false] at hx
    rcases hx with rfl | rfl | rfl | rfl | rfl | rfl <;> exact .inr ⟨_, rfl, by decide, by decide⟩
  obtain ⟨xs, hx, hxl, hxa⟩ := hx
  refine draw (z := 6) hb2 ⟨by decide, by decide⟩ fun j2 m2 H3 hj2 b3 hb3 => ?_
  obtain ⟨v, hv⟩ := Xk.lt_at (xs := xs) (j := j2) (by omega)
  refine Xk.x_ixL (Xk.sq_of (b3 _ _ npb hx)) (Xk.at_nat rfl hv) ?_
  exact q _ m2 _ (Xk.but_trans (Xk.but_trans b1 (Xk.but_same s2)) b3) hb3 (hxa v (List.mem_of_getElem? hv))
def sp__law_maybe (K : PySem.W.Frag) : Sp := fun vs H Q _ => ∃ (b : Addr) (n : Int), vs = [.ref b] ∧ H b = some (.lst [.int n]) ∧
  ∀ H' (m : Int) v, Xk.But b H H' → H' b = some (.lst [.int m]) → FV v → Q v H'
theorem ok__law_maybe (T : Txt K mg) : FnOk P w K mg base CX0 3 T.f__law_maybe T.d__law_maybe ["box"] (sp__law_maybe K) := by
  refine T.F__law_maybe.ok sc__law_maybe (fun vs H Q E h => ?_) (fun cdv A outer s H vs Q E hr h => ?_)
  · obtain ⟨b, n, rfl, _⟩ := h
    rfl
  obtain ⟨b, n, rfl, hb, q⟩ := h
  refine ⟨_, (Evl.pss_cut (ps_if (pt_cmpR op_eq (pe_call (ok__law_take T) (hr.mono (by decide)) (by rfl) T.g__law_take T.F__law_take.kp T.b__law_take .nil pass0 (pa_cons (pv 0) (pa_cons (pe_int) pa_nil))) (pe_int) (nomark _)) (pss_one (ps_ret (pe_non))) pss_nil)
      (pss_one (ps_ret (pe_call (ok__law_value T) (hr.mono (by decide)) (by rfl) T.g__law_value T.F__law_value.kp T.b__law_value .nil pass0 (pa_cons (pv 0) pa_nil))))), ?_⟩
  wtm_at "x0"
  wtm_at "xs"
  refine Xk.x_cut (fun σ' H' => σ' = [some (.ref b)] ∧ Xk.But b H H' ∧ ∃ m : Int, H' b = some (.lst [.int m])) ?_ ?_
  · wtm_at "xs"
    refine draw (z := 2) hb ⟨by decide, by decide⟩ fun j m H1 hj b1 hb1 => ?_
    wtm_at "xs"
    refine Xk.x_itd (fun c => ?_) (fun c => ?_)
    · wtm_at "xs"
      exact q _ m _ b1 hb1 (.inl rfl)
    · wtm_at "xs"
      exact ⟨rfl, b1, m, hb1⟩
  · rintro σ' H1 ⟨rfl, b1, m, hb1⟩
    wtm_at "xs"
    exact ⟨b, m, rfl, hb1, fun H2 m2 v b2 hb2 hv => q _ m2 _ (Xk.but_trans b1 b2) hb2 (.inr hv)⟩
--CUT--
def sp__law_deed (K : PySem.W.Frag) : Sp := fun vs H Q _ => ∃ (b a : Addr) (n : Int) (ks : List Str), vs = [.ref b, .ref a] ∧ H b = some (.lst [.int n]) ∧ H a = some (.lst (ks.map V.str)) ∧ a ≠ b ∧ (∀ k ∈ ks, Ok k) ∧ 1 ≤ ks.length ∧ ks.length ≤ 5 ∧
  ∀ H' (m : Int) p (d : Dd), Xk.But b H H' → H' b = some (.lst [.int m]) → H' p = some (.tup d.xs) → d.ok → d.key ∈ ks → Q (.ref p) H'
theorem ok__law_deed (T : Txt K mg) : FnOk P w K mg base CX0 3 T.f__law_deed T.d__law_deed ["box", "keys"] (sp__law_deed K) := by
  refine T.F__law_deed.ok sc__law_deed (fun vs H Q E h => ?_) (fun cdv A outer s H vs Q E hr h => ?_)
  · obtain ⟨b, a, n, ks, rfl, _⟩ := h
    rfl
  obtain ⟨b, a, n, ks, rfl, hb, ha, nab, hok, hl1, hl2, q⟩ := h
  refine ⟨_, (pss_cons (ps_set (i := 2) sc__law_deed.nd rfl (Or.inl rfl) (pe_ix (Xk.k_ixL (K := K) (by rfl)) (pv 1) (pe_call (ok__law_take T) (hr.mono (by decide)) (by rfl) T.g__law_take T.F__law_take.kp T.b__law_take .nil pass0 (pa_cons (pv 0) (pa_cons (pe_callB (Xk.k_len (K := K) (by rfl)) (by rfl) T.m_len PySem.boot_len (pa_cons (pv 1) pa_nil)) pa_nil))) (fun _ _ => rfl)))
      (pss_cons (ps_set (i := 3) sc__law_deed.nd rfl (Or.inl rfl) (pe_call (ok__law_take T) (hr.mono (by decide)) (by rfl) T.g__law_take T.F__law_take.kp T.b__law_take .nil pass0 (pa_cons (pv 0) (pa_cons (pe_int) pa_nil))))
      (Evl.pss_cut (ps_if (pt_cmpR op_eq (pv 3) (pe_int) (nomark _)) (pss_one (ps_ret (pe_tup (pa_cons (pe_str) (pa_cons (pv 2) pa_nil))))) pss_nil)
      (Evl.pss_cut (ps_if (pt_cmpR op_eq (pv 3) (pe_int) (nomark _)) (pss_one (ps_ret (pe_tup (pa_cons (pe_str) (pa_cons (pv 2) pa_nil))))) pss_nil)
      (Evl.pss_cut (ps_if (pt_cmpR op_eq (pv 3) (pe_int) (nomark _)) (pss_one (ps_ret (pe_tup (pa_cons (pe_str) (pa_cons (pv 2) (pa_cons (pe_call (ok__law_value T) (hr.mono (by decide)) (by rfl) T.g__law_value T.F__law_value.kp T.b__law_value .nil pass0 (pa_cons (pv 0) pa_nil)) pa_nil)))))) pss_nil)
      (pss_one (ps_ret (pe_tup (pa_cons (pe_str) (pa_cons (pv 2) (pa_cons (pe_ix (Xk.k_ixL (K := K) (by rfl)) (pe_lst (pa_cons (pe_int) (pa_cons (pe_un un_neg (pe_int)) (pa_cons (pe_int) (pa_cons (pe_op op_pow (pe_int) (pe_int)) (pa_cons (pe_un un_neg (pe_op op_pow (pe_int) (pe_int))) (pa_cons (pe_int) pa_nil))))))) (pe_call (ok__law_take T) (hr.mono (by decide)) (by rfl) T.g__law_take T.F__law_take.kp T.b__law_take .nil pass0 (pa_cons (pv 0) (pa_cons (pe_int) pa_nil))) (fun _ _ => rfl)) pa_nil))))))))))), ?_⟩
  wtm_at "x0"
  wtm_at "xs"
  rw [List.length_map]
  refine draw hb ⟨by omega, by omega⟩ fun j m H1 hj b1 hb1 => ?_
  obtain ⟨k, hk⟩ := Xk.lt_at (xs := ks) (j := j) (by omega)
  have ha1 := b1 _ _ nab ha
  refine Xk.x_ixL (Xk.sq_of ha1) (Xk.at_nat rfl (show (ks.map V.str)[j]? = _ from Xk.map_at hk)) ?_
  have hkk := hok k (List.mem_of_getElem? hk)
  have hkm := List.mem_of_getElem? hk
  clear ha hb ha1
  wtm_at "xs"
  refine draw hb1 ⟨by decide, by decide⟩ fun j2 m2 H2 hj2 b2 hb2 => ?_
  have b02 := Xk.but_trans b1 b2
  clear b1 b2 hb1
  have fin : ∀ (d : Dd) (p : Addr) (H3 : Hp) (m3 : Int), Xk.But b H H3 → H3 b = some (.lst [.int m3]) → d.ok → d.key ∈ ks → ∀ H4, Same H3 H4 → H4 p = some (.tup d.xs) → Q (.ref p) H4 := fun d p H3 m3 b3 hb3 hd hin H4 s4 h4 => q H4 m3 p d (Xk.but_trans b3 (Xk.but_same s4)) (s4 _ _ hb3) h4 hd hin
  wtm_at "xs"
  refine Xk.x_cut (fun σ' H' => σ' = [some (.ref b), some (.ref a), some (.str k), some (.int j2)] ∧ H' = H2) ?_ ?_
  · wtm_at "xs"
    refine Xk.x_itd (fun c => ?_) (fun c => ?_)
    · wtm_at "xs"
      intro p H3 _ s3 h3
      exact fin (.get k) p H2 m2 b02 hb2 hkk hkm H3 s3 h3
    · wtm_at "xs"
      exact ⟨rfl, rfl⟩
  rintro σ' H' ⟨rfl, rfl⟩
  refine Xk.x_cut (fun σ' H2 => σ' = [some (.ref b), some (.ref a), some (.str k), some (.int j2)] ∧ H2 = H') ?_ ?_
  · wtm_at "xs"
    refine Xk.x_itd (fun c => ?_) (fun c => ?_)
    · wtm_at "xs"
      intro p H3 _ s3 h3
      exact fin (.del k) p H' m2 b02 hb2 hkk hkm H3 s3 h3
    · wtm_at "xs"
      exact ⟨rfl, rfl⟩
  rintro σ' H2 ⟨rfl, rfl⟩
  refine Xk.x_cut (fun σ' H' => σ' = [some (.ref b), some (.ref a), some (.str k), some (.int j2)] ∧ H' = H2) ?_ ?_
  · wtm_at "xs"
    refine Xk.x_itd (fun c => ?_) (fun c => ?_)
    · wtm_at "xs"
      refine ⟨b, m2, rfl, hb2, fun H3 m3 v b3 hb3 hv => ?_⟩
      wtm_at "xs"
      intro p H4 _ s4 h4
      exact fin (.put k v) p H3 m3 (Xk.but_trans b02 b3) hb3 ⟨hkk, hv⟩ hkm H4 s4 h4
    · wtm_at "xs"
      exact ⟨rfl, rfl⟩
  rintro σ' H' ⟨rfl, rfl⟩
  wtm_at "xs"
  intro p H3 hp s3 h3
  have npb : p ≠ b := (Xk.ne_new hp hb2).symm
  have hb3 := s3 _ _ hb2
  wtm_at "xs"
  have hx : ∃ xs : List V, H3 p = some (.lst xs) ∧ xs.length = 6 ∧ ∀ x ∈ xs, ∃ i : Int, x = .int i ∧ -1000000000 ≤ i ∧ i ≤ 1000000000 := by
    refine ⟨_, h3, rfl, fun x hx => ?_⟩
    simp only [List.mem_cons, List.not_mem_nil, or_false] at hx
    rcases hx with rfl | rfl | rfl | rfl | rfl | rfl <;> exact ⟨_, rfl, by decide, by decide⟩
  obtain ⟨xs, hx, hxl, hxa⟩ := hx
  refine draw (z := 6) hb3 ⟨by decide, by decide⟩ fun j3 m3 H4 hj3 b4 hb4 => ?_
  obtain ⟨v, hv⟩ := Xk.lt_at (xs := xs) (j := j3) (by omega)
  refine Xk.x_ixL (Xk.sq_of (b4 _ _ npb hx)) (Xk.at_nat rfl hv) ?_
  obtain ⟨i, rfl, hi1, hi2⟩ := hxa v (List.mem_of_getElem? hv)
  wtm_at "xs"
  intro p2 H5 _ s5 h5
  exact fin (.add k i) p2 H4 m3 (Xk.but_trans (Xk.but_trans b02 (Xk.but_same s3)) b4) hb4 ⟨hkk, hi1, hi2⟩ hkm H5 s5 h5
--CUT--
def sp__law_deal (K : PySem.W.Frag) : Sp := fun vs H Q _ => ∃ (b a r : Addr) (n : Int) (ks : List Str) (kvs : Kvs), vs = [.ref b, .ref a, .ref r] ∧ H b = some (.lst [.int n]) ∧ H a = some (.lst (ks.map V.str)) ∧ a ≠ b ∧ (∀ k ∈ ks, Ok k) ∧ 1 ≤ ks.length ∧ ks.length ≤ 5 ∧ H r = some (.dK kvs) ∧ KvOk ks kvs ∧
  ∀ H' (m : Int) p C D, Xk.But b H H' → H' b = some (.lst [.int m]) → DlAt H' p C D → (∀ e ∈ D, e.2.key ∈ ks) → 1 ≤ D.length → Q (.ref p) H'
theorem ok__law_deal (T : Txt K mg) : FnOk P w K mg base CX0 4 T.f__law_deal T.d__law_deal ["box", "keys", "rows"] (sp__law_deal K) := by
  refine T.F__law_deal.ok sc__law_deal (fun vs H Q E h => ?_) (fun cdv A outer s H vs Q E hr h => ?_)
  · obtain ⟨b, a, r, n, ks, kvs, rfl, _⟩ := h
    rfl
  obtain ⟨b, a, r, n, ks, kvs, rfl, hb, ha, nab, hok, hl1, hl2, hrw, hkv, q⟩ := h
  have nrb : r ≠ b := ne_of_obj hrw hb (fun z => by cases z)
  refine ⟨_, (pss_cons (ps_set (i := 3) sc__law_deal.nd rfl (Or.inl rfl) (pe_lst pa_nil))
      (pss_cons (ps_for PassesOwn.never rfl (pi_range1 (by rfl) T.m_range (pa_cons (pe_ix (Xk.k_ixL (K := K) (by rfl)) (pe_lst (pa_cons (pe_int) (pa_cons (pe_int) (pa_cons (pe_int) (pa_cons (pe_int) (pa_cons (pe_int) (pa_cons (pe_int) (pa_cons (pe_int) pa_nil)))))))) (pe_call (ok__law_take T) (hr.mono (by decide)) (by rfl) T.g__law_take T.F__law_take.kp T.b__law_take .nil pass0 (pa_cons (pv 0) (pa_cons (pe_int) pa_nil))) (fun _ _ => rfl)) pa_nil)) (pg_name (i := 4) sc__law_deal.nd rfl (Or.inl rfl)) (pss_cons (ps_set (i := 5) sc__law_deal.nd rfl (Or.inl rfl) (pe_ix (Xk.k_ixL (K := K) (by rfl)) (pv 1) (pe_call (ok__law_take T) (hr.mono (by decide)) (by rfl) T.g__law_take T.F__law_take.kp T.b__law_take .nil pass0 (pa_cons (pv 0) (pa_cons (pe_callB (Xk.k_len (K := K) (by rfl)) (by rfl) T.m_len PySem.boot_len (pa_cons (pv 1) pa_nil)) pa_nil))) (fun _ _ => rfl)))
      (pss_cons (ps_set (i := 6) sc__law_deal.nd rfl (Or.inl rfl) (pe_dget1 (hu_of hr) (pv 2) (pv 5) ⟨by rfl, by rfl, by rfl, by rfl⟩))
      (Evl.pss_cut (ps_if (pt_cmpR op_eq (pe_call (ok__law_take T) (hr.mono (by decide)) (by rfl) T.g__law_take T.F__law_take.kp T.b__law_take .nil pass0 (pa_cons (pv 0) (pa_cons (pe_int) pa_nil))) (pe_int) (nomark _)) (pss_one (ps_set (i := 6) sc__law_deal.nd rfl (Or.inl rfl) (pe_call (ok__law_maybe T) (hr.mono (by decide)) (by rfl) T.g__law_maybe T.F__law_maybe.kp T.b__law_maybe .nil pass0 (pa_cons (pv 0) pa_nil)))) pss_nil)
      (pss_one (ps_expr (pe_bm PySem.F.plainAttrs_list PySem.F.slot_list_append PySem.F.type_list_append mt_append (pv 3) (pa_cons (pe_tup (pa_cons (pv 5) (pa_cons (pv 6) pa_nil))) pa_nil))))))))
      (pss_cons (ps_setLc (i := 7) (own := [("k", 4)]) (g := gName 4) (tt := tYes) rfl sc__law_deal.nd rfl rfl (sw_true rfl rfl rfl (by decide +kernel)) (pi_range1 (by rfl) T.m_range (pa_cons (pe_ix (Xk.k_ixL (K := K) (by rfl)) (pe_lst (pa_cons (pe_int) (pa_cons (pe_int) (pa_cons (pe_int) (pa_cons (pe_int) (pa_cons (pe_int) (pa_cons (pe_int) pa_nil))))))) (pe_call (ok__law_take T) (hr.mono (by decide)) (by rfl) T.g__law_take T.F__law_take.kp T.b__law_take .nil pass0 (pa_cons (pv 0) (pa_cons (pe_int) pa_nil))) (fun _ _ => rfl)) pa_nil)) (blkOk_by (N := N__law_deal) (sc := defScope s__law_deal) (own := [("k", 4)]) (by decide +kernel)) (fun _ _ _ _ _ => pg_name (i := 4) sc__law_deal.nd rfl (Or.inl rfl)) (fun _ _ _ _ _ => pts_nil) (fun _ _ _ _ _ => (pe_call (ok__law_deed T) (hr.mono (by decide)) (by rfl) T.g__law_deed T.F__law_deed.kp T.b__law_deed .nil pass0 (pa_cons (pv 0) (pa_cons (pv 1) pa_nil)))))
      (pss_one (ps_ret (pe_tup (pa_cons (pe_callTy (Xk.k_tuple (K := K) (by rfl)) (by rfl) T.m_tuple (by decide +kernel) (pa_cons (pv 3) pa_nil)) (pa_cons (pe_callTy (Xk.k_tuple (K := K) (by rfl)) (by rfl) T.m_tuple (by decide +kernel) (pa_cons (pv 7) pa_nil)) pa_nil)))))))), ?_⟩
  wtm_at "x0"
  wtm_at "xs"
  intro ck H1 hck s1 h1
  have hb1 := s1 _ _ hb
  have nck : ck ≠ b := (Xk.ne_new hck hb).symm
  have b01 : Xk.But b H H1 := Xk.but_same s1
  wtm_at "xs"
  intro p H2 hp s2 h2
  have npb : p ≠ b := (Xk.ne_new hp hb1).symm
  have hb2 := s2 _ _ hb1
  have hck2 := s2 _ _ h1
  have hx : ∃ xs : List V, H2 p = some (.lst xs) ∧ xs.length = 7 ∧ ∀ x ∈ xs, ∃ i : Int, x = .int i ∧ 0 ≤ i ∧ i ≤ 4 := by
    refine ⟨_, h2, rfl, fun x hx => ?_⟩
    simp only [List.mem_cons, List.not_mem_nil, or_false] at hx
    rcases hx with rfl | rfl | rfl | rfl | rfl | rfl | rfl <;> exact ⟨_, rfl, by decide, by decide⟩
  obtain ⟨xs, hx, hxl, hxa⟩ := hx
  wtm_at "xs"
  refine draw (z := 7) hb2 ⟨by decide, by decide⟩ fun j m H3 hj b3 hb3 => ?_
  obtain ⟨v, hv⟩ := Xk.lt_at (xs := xs) (j := j) (by omega)
  refine Xk.x_ixL (Xk.sq_of (b3 _ _ npb hx)) (Xk.at_nat rfl hv) ?_
  obtain ⟨c, rfl, hc0, hc4⟩ := hxa v (List.mem_of_getElem? hv)
  have b03 := Xk.but_trans (Xk.but_trans b01 (Xk.but_same s2)) b3
  have hck3 := b3 _ _ nck hck2
  clear hb1 hb2 hck2 h1 h2 hx b3 s1 s2 b01 hxa hv
  wtm_at "xs"
  refine Xk.x_range (fun i σ' H' => ∃ (y4 y5 y6 : Option V) (C : List (Addr × Ck)) (m : Int), σ' = [some (.ref b), some (.ref a), some (.ref r), some (.ref ck), y4, y5, y6, none] ∧ Xk.But b H H' ∧ H' b = some (.lst [.int m]) ∧ H' ck = some (.lst (C.map fun e => V.ref e.1)) ∧ (∀ e ∈ C, H' e.1 = some (.tup [.str e.2.1, e.2.2])) ∧ (∀ e ∈ C, Ok e.2.1 ∧ FV e.2.2) ∧ C.length ≤ i)
    ⟨hc0, by omega⟩ ⟨_, _, _, [], m, rfl, b03, hb3, hck3, fun e he => (by cases he), fun e he => (by cases he), Nat.le_refl _⟩ ?_ ?_
  · clear b03 hck3 hb3 hj
    rintro i σ' H1' hi ⟨y4, y5, y6, C, m, rfl, b1, hb1, hck1, hCt, hCo, hCl⟩
    have ha1 := b1 _ _ nab ha
    wtm_at "xs"
    rw [List.length_map]
    refine draw hb1 ⟨by omega, by omega⟩ fun j m2 H2 hj b2 hb2 => ?_
    obtain ⟨k, hk⟩ := Xk.lt_at (xs := ks) (j := j) (by omega)
    refine Xk.x_ixL (Xk.sq_of (b2 _ _ nab ha1)) (Xk.at_nat rfl (show (ks.map V.str)[j]? = _ from Xk.map_at hk)) ?_
    have hkk := hok k (List.mem_of_getElem? hk)
    have b02 := Xk.but_trans b1 b2
    have hck2 := b2 _ _ nck hck1
    have hCt2 : ∀ e ∈ C, H2 e.1 = some (.tup [.str e.2.1, e.2.2]) := fun e he => b2 _ _ (ne_of_obj (hCt e he) hb1 (fun z => by cases z)) (hCt e he)
    have hr2 := b02 _ _ nrb hrw
    clear b1 b2 hb1 hck1 hCt ha1
    wtm_at "xs"
    refine Xk.x_cut (fun σ' H' => ∃ (v : V) (m : Int), σ' = [some (.ref b), some (.ref a), some (.ref r), some (.ref ck), some (.int i), some (.str k), some v, none] ∧ FV v ∧ Xk.But b H2 H' ∧ H' b = some (.lst [.int m])) ?_ ?_
    · wtm_at "xs"
      refine draw (z := 4) hb2 ⟨by decide, by decide⟩ fun j3 m3 H3' hj3 b3 hb3 => ?_
      wtm_at "xs"
      refine Xk.x_itd (fun c => ?_) (fun c => ?_)
      · wtm_at "xs"
        refine ⟨b, m3, rfl, hb3, fun H4 m4 v b4 hb4 hv => ?_⟩
        wtm_at "xs"
        exact ⟨v, m4, rfl, hv, Xk.but_trans b3 b4, hb4⟩
      · wtm_at "xs"
        exact ⟨_, m3, rfl, gv_fv hkv k, b3, hb3⟩
    rintro σ' H3' ⟨v, m3, rfl, hv, b3, hb3⟩
    have hck3 := b3 _ _ nck hck2
    have hCt3 : ∀ e ∈ C, H3' e.1 = some (.tup [.str e.2.1, e.2.2]) := fun e he => b3 _ _ (ne_of_obj (hCt2 e he) hb2 (fun z => by cases z)) (hCt2 e he)
    have b03 := Xk.but_trans b02 b3
    clear b02 b3 hck2 hCt2 hr2 hb2
    wtm_at "xs"
    intro t H4 ht s4 h4
    have hck4 := s4 _ _ hck3
    have hz : (C.map fun e => V.ref e.1).length < 100000 := by rw [List.length_map]; omega
    wtm_at "xs"
    refine ⟨_, _, _, C ++ [(t, k, v)], m3, rfl, Xk.but_new (Xk.but_trans b03 (Xk.but_same s4)) hck, (upd_ne nck.symm).trans (s4 _ _ hb3), by rw [upd_same, List.map_append]; rfl, fun e he => ?_, fun e he => ?_, by rw [List.length_append]; exact Nat.succ_le_succ hCl⟩
    · rcases List.mem_append.mp he with he | he
      · exact keep_tup (s4 _ _ (hCt3 e he)) hck4
      · rw [List.mem_singleton.mp he]
        exact keep_tup h4 hck4
    · rcases List.mem_append.mp he with he | he
      · exact hCo e he
      · rw [List.mem_singleton.mp he]
        exact ⟨hkk, hv⟩
  · clear b03 hck3 hb3 hj
    rintro σ' H1' ⟨y4, y5, y6, C, m, rfl, b1, hb1, hck1, hCt, hCo, hCl⟩
    wtm_at "xs"
    intro p2 H2 hp2 s2 h2
    have npb2 : p2 ≠ b := (Xk.ne_new hp2 hb1).symm
    have hb2 := s2 _ _ hb1
    have hck2 := s2 _ _ hck1
    have hx : ∃ xs : List V, H2 p2 = some (.lst xs) ∧ xs.length = 6 ∧ ∀ x ∈ xs, ∃ i : Int, x = .int i ∧ 1 ≤ i ∧ i ≤ 6 := by
      refine ⟨_, h2, rfl, fun x hx => ?_⟩
      simp only [List.mem_cons, List.not_mem_nil, or_false] at hx
      rcases hx with rfl | rfl | rfl | rfl | rfl | rfl <;> exact ⟨_, rfl, by decide, by decide⟩
    obtain ⟨xs, hx, hxl, hxa⟩ := hx
    have hCt2 : ∀ e ∈ C, H2 e.1 = some (.tup [.str e.2.1, e.2.2]) := fun e he => s2 _ _ (hCt e he)
    have b02 := Xk.but_trans b1 (Xk.but_same s2)
    clear b1 s2 hb1 hck1 hCt h2
    wtm_at "xs"
    refine draw (z := 6) hb2 ⟨by decide, by decide⟩ fun j3 m3 H3' hj3 b3 hb3 => ?_
    obtain ⟨v, hv⟩ := Xk.lt_at (xs := xs) (j := j3) (by omega)
    refine Xk.x_ixL (Xk.sq_of (b3 _ _ npb2 hx)) (Xk.at_nat rfl hv) ?_
    obtain ⟨c2, rfl, hd0, hd4⟩ := hxa v (List.mem_of_getElem? hv)
    have hck3 := b3 _ _ nck hck2
    have hCt3 : ∀ e ∈ C, H3' e.1 = some (.tup [.str e.2.1, e.2.2]) := fun e he => b3 _ _ (ne_of_obj (hCt2 e he) hb2 (fun z => by cases z)) (hCt2 e he)
    have b03 := Xk.but_trans b02 b3
    have ha3 := b03 _ _ nab ha
    clear b02 b3 hb2 hck2 hCt2 hx hxa hv
    wtm_at "xs"
    refine Xk.x_lcR (fun Dl i H' => ∃ (D : List (Addr × Dd)) (m : Int), Xk.But b H3' H' ∧ H' b = some (.lst [.int m]) ∧ H' Dl = some (.lst (D.map fun e => V.ref e.1)) ∧ (∀ e ∈ D, H' e.1 = some (.tup e.2.xs)) ∧ (∀ e ∈ D, e.2.ok) ∧ (∀ e ∈ D, e.2.key ∈ ks) ∧ D.length = i) ⟨by omega, by omega⟩ ?_ ?_ ?_
    · intro Dl hD
      exact ⟨[], m3, Xk.but_same (Xk.same_fr hD), (upd_ne (Xk.ne_new hD hb3)).trans hb3, upd_same, fun e he => (by cases he), fun e he => (by cases he), fun e he => (by cases he), rfl⟩
    · rintro Dl hD i H' hi ⟨D, m, b4, hb4, hD4, hDt, hDo, hDk, hDl⟩
      have nDb : Dl ≠ b := (Xk.ne_new hD hb3).symm
      wtm_at "xs"
      refine ⟨rfl, ?_⟩
      wtm_at "xs"
      refine ⟨b, a, m, ks, rfl, hb4, b4 _ _ nab ha3, nab, hok, hl1, hl2, fun H5 m5 t d b5 hb5 ht hd hdk => ?_⟩
      have hD5 := b5 _ _ nDb hD4
      refine ⟨_, hD5, Xk.size_lt (by rw [List.length_map]; omega), D ++ [(t, d)], m5, Xk.but_new (Xk.but_trans b4 b5) hD, (upd_ne nDb.symm).trans hb5, by rw [upd_same, List.map_append]; rfl, fun e he => ?_, fun e he => ?_, fun e he => ?_, by rw [List.length_append, hDl]; rfl⟩
      · rcases List.mem_append.mp he with he | he
        · exact keep_tup (b5 _ _ (ne_of_obj (hDt e he) hb4 (fun z => by cases z)) (hDt e he)) hD5
        · rw [List.mem_singleton.mp he]
          exact keep_tup ht hD5
      · rcases List.mem_append.mp he with he | he
        · exact hDo e he
        · rw [List.mem_singleton.mp he]
          exact hd
      · rcases List.mem_append.mp he with he | he
        · exact hDk e he
        · rw [List.mem_singleton.mp he]
          exact hdk
    · rintro Dl H4 hD ⟨D, m, b4, hb4, hD4, hDt, hDo, hDk, hDl⟩
      have hck4 := b4 _ _ nck hck3
      have hCt4 : ∀ e ∈ C, H4 e.1 = some (.tup [.str e.2.1, e.2.2]) := fun e he => b4 _ _ (ne_of_obj (hCt3 e he) hb3 (fun z => by cases z)) (hCt3 e he)
      have b04 := Xk.but_trans b03 b4
      clear b03 b4 hck3 hCt3 hb3 ha3
      wtm_at "xs"
      intro u1 H5 hu1 s5 h5
      have hD5 := s5 _ _ hD4
      wtm_at "xs"
      intro u2 H6 hu2 s6 h6
      wtm_at "xs"
      intro u3 H7 hu3 s7 h7
      have s57 := s5.trans (s6.trans s7)
      exact q H7 m u3 C D (Xk.but_trans b04 (Xk.but_same s57)) (s57 _ _ hb4) ⟨⟨u1, u2, h7, (s6.trans s7) _ _ h5, s7 _ _ h6⟩, fun e he => s57 _ _ (hCt4 e he), fun e he => s57 _ _ (hDt e he), hCo, hDo, by omega, by omega⟩ hDk (by omega)
--CUT--
def sp__law_done (K : PySem.W.Frag) : Sp := fun vs H Q _ => ∃ r a kvs d, vs = [.ref r, .ref a] ∧ H r = some (.dK kvs) ∧ H a = some (.tup (Dd.xs d)) ∧ (∀ k v, valV kvs k = some v → VOk v) ∧ kvs.length ≤ 500 ∧ d.ok ∧
  ∀ H', Xk.But r H H' → H' r = some (.dK (app kvs d).1) → Q (app kvs d).2 H'
theorem ok__law_done (T : Txt K mg) : FnOk P w K mg base CX0 1 T.f__law_done T.d__law_done ["rows", "deed"] (sp__law_done K) := by
  refine T.F__law_done.ok sc__law_done (fun vs H Q E h => ?_) (fun cdv A outer s H vs Q E hr h => ?_)
  · obtain ⟨r, a, kvs, d, rfl, _⟩ := h
    rfl
  obtain ⟨r, a, kvs, d, rfl, hr0, ha, hv, hl, hd, q⟩ := h
  refine ⟨_, (pss_cons (ps_set (i := 2) sc__law_done.nd rfl (Or.inl rfl) (pe_ix (Xk.k_ixT (K := K) (by rfl)) (pv 1) (pe_int) (fun _ _ => rfl)))
      (pss_cons (ps_set (i := 3) sc__law_done.nd rfl (Or.inl rfl) (pe_dget1 (hu_of hr) (pv 0) (pv 2) ⟨by rfl, by rfl, by rfl, by rfl⟩))
      (Evl.pss_cut (ps_if (pt_cmpR op_eq (pe_ix (Xk.k_ixT (K := K) (by rfl)) (pv 1) (pe_int) (fun _ _ => rfl)) (pe_str) (nomark _)) (pss_one (ps_dput (hu_of hr) (pv 0) (pv 2) (pe_ix (Xk.k_ixT (K := K) (by rfl)) (pv 1) (pe_int) (fun _ _ => rfl)) rfl)) pss_nil)
      (Evl.pss_cut (ps_if (PW.pt (pw_and (pt_cmpR op_eq (pe_ix (Xk.k_ixT (K := K) (by rfl)) (pv 1) (pe_int) (fun _ _ => rfl)) (pe_str) (nomark _)) (pw_and1 (pt_cmpR Xk.op_nNotN (pv 3) (pe_non) (nomark _))))) (pss_one (ps_expr (pe_dpop1 (pv 0) (pv 2) ⟨by rfl, by rfl, by rfl, by rfl⟩))) pss_nil)
      (Evl.pss_cut (ps_if (pt_cmpR op_ne (pe_ix (Xk.k_ixT (K := K) (by rfl)) (pv 1) (pe_int) (fun _ _ => rfl)) (pe_str) (nomark _)) (pss_one (ps_ret (pv 3))) pss_nil)
      (pss_cons (ps_set (i := 4) sc__law_done.nd rfl (Or.inl rfl) (pe_ix (Xk.k_ixT (K := K) (by rfl)) (pv 1) (pe_int) (fun _ _ => rfl)))
      (Evl.pss_cut (ps_if (pt_cmpR Xk.op_nNotN (pv 3) (pe_non) (nomark _)) (Evl.pss_cut (ps_if (PW.pt (pw_or (pt_not (pt_val (pe_callB (Xk.k_isi (K := K) (by rfl)) (by rfl) T.m_isinstance (by decide +kernel) (pa_cons (pv 3) (pa_cons (pe_bltn (v := .ty "int") (u := .type "int") (by rfl) T.m_int (by decide +kernel) Xk.rel_ty) pa_nil))))) (pw_or1 (pt_cmpR op_gt (pe_callB call_abs (by rfl) T.m_abs (by decide +kernel) (pa_cons (pe_op op_add (pv 3) (pv 4)) pa_nil)) (pe_op op_pow (pe_int) (pe_int)) (nomark _))))) (pss_one (ps_ret (pe_non))) pss_nil)
      (pss_one (ps_set (i := 4) sc__law_done.nd rfl (Or.inl rfl) (pe_op op_add (pv 3) (pv 4))))) pss_nil)
      (pss_cons (ps_dput (hu_of hr) (pv 0) (pv 2) (pv 4) rfl)
      (pss_one (ps_ret (pv 4))))))))))), ?_⟩
  have hl2 : kvs.length < 1000 := by omega
  wtm_at "x0"
  cases d with
  | get k =>
    have ha1 : H a = some (.tup [.str "get", .str k]) := ha
    wtm_at "xs"
    refine Xk.x_nocut ?_
    wtm_at "xs"
    refine Xk.x_nocut ?_
    wtm_at "xs"
    refine Xk.x_nocut ?_
    wtm_at "xs"
    exact q _ (Xk.But.refl _ _) hr0
  | put k v =>
    have ha1 : H a = some (.tup [.str "put", .str k, v]) := ha
    have nra : a ≠ r := fun z => by
      subst z
      rw [hr0] at ha1
      cases ha1
    wtm_at "xs"
    refine Xk.x_nocut ?_
    wtm_at "xs"
    refine Xk.x_nocut ?_
    wtm_at "xs"
    refine Xk.x_nocut ?_
    wtm_at "xs"
    exact q _ (Xk.but_mut (Xk.But.refl _ _)) upd_same
  | del k =>
    have ha1 : H a = some (.tup [.str "del", .str k]) := ha
    have nra : a ≠ r := fun z => by
      subst z
      rw [hr0] at ha1
      cases ha1
    have q0 : ∀ H', Xk.But r H H' → H' r = some (.dK (if (valV kvs (Sum.inr k)).isSome = true then dropK kvs (Sum.inr k) else kvs)) → Q (gv kvs k) H' := q
    cases hb : valV kvs (Sum.inr k) with
    | none =>
      have hg : gv kvs k = .non := by
        unfold gv
        rw [hb]
        rfl
      rw [hg, hb] at q0
      wtm_at "xs"
      rw [hb]
      dsimp only [Option.getD]
      refine Xk.x_nocut ?_
      wtm_at "xs"
      refine Xk.x_nocut ?_
      wtm_at "xs"
      refine Xk.x_nocut ?_
      wtm_at "xs"
      exact q0 _ (Xk.But.refl _ _) hr0
    | some v =>
      have hg : gv kvs k = v := by
        unfold gv
        rw [hb]
        rfl
      have vn : v ≠ .non := fun z => by
        rcases hv _ v hb with ⟨i, rfl⟩ | ⟨s', rfl, _⟩ <;> cases z
      rw [hg, hb] at q0
      wtm_at "xs"
      rw [hb]
      dsimp only [Option.getD]
      refine Xk.x_nocut ?_
      wtm_at "xs"
      refine Xk.x_nocut ?_
      wtm_at "xs"
      refine Xk.x_rPop1 hr0 hb ?_
      wtm_at "xs"
      refine Xk.x_nocut ?_
      wtm_at "xs"
      exact q0 _ (Xk.but_mut (Xk.But.refl _ _)) upd_same
  | add k n =>
    have ha1 : H a = some (.tup [.str "add", .str k, .int n]) := ha
    have nra : a ≠ r := fun z => by
      subst z
      rw [hr0] at ha1
      cases ha1
    wtm_at "xs"
    refine Xk.x_nocut ?_
    wtm_at "xs"
    refine Xk.x_nocut ?_
    wtm_at "xs"
    refine Xk.x_nocut ?_
    wtm_at "xs"
    cases hb : valV kvs (Sum.inr k) with
    | none =>
      have e : app kvs (.add k n) = (putK kvs (Sum.inr k) (.int n), .int n) := by
        show addR kvs k n (valV kvs (Sum.inr k)) = _
        rw [hb]
        rfl
      rw [e] at q
      dsimp only [Option.getD]
      refine Xk.x_nocut ?_
      wtm_at "xs"
      exact q _ (Xk.but_mut (Xk.But.refl _ _)) upd_same
    | some v =>
      rcases hv _ v hb with ⟨i, rfl⟩ | ⟨s', rfl, h1, h2⟩
      · have e : app kvs (.add k n) = if -1000000000000000 ≤ i + n ∧ i + n ≤ 1000000000000000 then (putK kvs (Sum.inr k) (.int (i + n)), .int (i + n)) else (kvs, .non) := by
          show addR kvs k n (valV kvs (Sum.inr k)) = _
          rw [hb]
          rfl
        rw [e] at q
        dsimp only [Option.getD]
        refine Xk.x_nocut ?_
        wtm_at "xs"
        refine Xk.x_nocut ?_
        wtm_at "xs"
        refine ⟨_, rfl, ?_⟩
        wtm_at "xs"
        refine Xk.x_itd (fun h3 => ?_) (fun h3 => ?_)
        · have h4 : 1000000000000000 < (if i + n < 0 then -(i + n) else i + n) := h3
          rw [if_neg (by split at h4 <;> omega)] at q
          wtm_at "xs"
          exact q _ (Xk.But.refl _ _) hr0
        · have h4 : ¬ 1000000000000000 < (if i + n < 0 then -(i + n) else i + n) := h3
          rw [if_pos (by split at h4 <;> omega)] at q
          wtm_at "xs"
          exact q _ (Xk.but_mut (Xk.But.refl _ _)) upd_same
      · have e : app kvs (.add k n) = (kvs, .non) := by
          show addR kvs k n (valV kvs (Sum.inr k)) = _
          rw [hb]
          rfl
        rw [e] at q
        dsimp only [Option.getD]
        refine Xk.x_nocut ?_
        wtm_at "xs"
        refine Xk.x_nocut ?_
        wtm_at "xs"
        exact q _ (Xk.But.refl _ _) hr0
theorem x_neFv {H : Hp} {Q : VK} {x y : V} (hx : FV x) (hy : FV y) (q : Q (.bl (!decide (x = y))) H) : rNeD K x y H Q := by
  have k1 := pk_fv (K := K) (H := H) (n := 1) hx
  have k2 := pk_fv (K := K) (H := H) (n := 1) hy
  refine ⟨_, _, k1.1, k2.1, Xk.shaped_of k1.lay (Nat.le_trans k1.2.2 (by decide)), Xk.shaped_of k2.lay (Nat.le_trans k2.2.2 (by decide)), ?_⟩
  rw [eqv_fv hx hy]
  exact q
def sp__law_do (K : PySem.W.Frag) : Sp := fun vs H Q _ => ∃ r p kvs C D ks, vs = [.ref r, .ref p] ∧ H r = some (.dK kvs) ∧ KvOk ks kvs ∧ ks.length ≤ 100 ∧ DlAt H p C D ∧ (∀ e ∈ D, e.2.key ∈ ks) ∧
  ∀ H' q t, Xk.But r H H' → Xk.Fr q H → Xk.Fr t H → H' r = some (.dK (dealW kvs (C.map (·.2)) (D.map (·.2))).1) → H' q = some (.tup [.str (dealW kvs (C.map (·.2)) (D.map (·.2))).2.1, .ref t]) → H' t = some (.tup (dealW kvs (C.map (·.2)) (D.map (·.2))).2.2) → Q (.ref q) H'
theorem ok__law_do (T : Txt K mg) : FnOk P w K mg base CX0 2 T.f__law_do T.d__law_do ["rows", "deal"] (sp__law_do K) := by
  refine T.F__law_do.ok sc__law_do (fun vs H Q E h => ?_) (fun cdv A outer s H vs Q E hr h => ?_)
  · obtain ⟨r, p, kvs, C, D, ks, rfl, _⟩ := h
    rfl
  obtain ⟨r, p, kvs, C, D, ks, rfl, hr0, hkv, hkl, hD, hk, q⟩ := h
  refine ⟨_, (pss_cons (ps_set (i := 2) sc__law_do.nd rfl (Or.inl rfl) (pe_callTy (Xk.k_tuple (K := K) (by rfl)) (by rfl) T.m_tuple (by decide +kernel) (pa_cons (pe_lc (own := [("check", 3)]) (g := gName 3) (tt := tYes) rfl sc__law_do.nd  (pi_tup (pe_ix (Xk.k_ixT (K := K) (by rfl)) (pv 1) (pe_int) (fun _ _ => rfl))) (blkOk_by (N := N__law_do) (sc := defScope s__law_do) (own := [("check", 3)]) (by decide +kernel)) (fun _ _ _ _ _ => pg_name (i := 3) sc__law_do.nd rfl (Or.inl rfl)) (fun _ _ _ _ _ => pts_nil) (fun _ _ _ _ _ => (pe_dget1 (hu_of hr) (pv 0) (pe_ix (Xk.k_ixT (K := K) (by rfl)) (pv 3) (pe_int) (fun _ _ => rfl)) ⟨by rfl, by rfl, by rfl, by rfl⟩))) pa_nil)))
      (pss_cons (ps_for PassesOwn.never rfl (pi_tup (pe_ix (Xk.k_ixT (K := K) (by rfl)) (pv 1) (pe_int) (fun _ _ => rfl))) (pg_name (i := 3) sc__law_do.nd rfl (Or.inl rfl)) (pss_one (ps_if (pt_cmpR (Xk.k_neD (K := K) hr.units (by rfl)) (pe_dget1 (hu_of hr) (pv 0) (pe_ix (Xk.k_ixT (K := K) (by rfl)) (pv 3) (pe_int) (fun _ _ => rfl)) ⟨by rfl, by rfl, by rfl, by rfl⟩) (pe_ix (Xk.k_ixT (K := K) (by rfl)) (pv 3) (pe_int) (fun _ _ => rfl)) (nomark _)) (pss_one (ps_ret (pe_tup (pa_cons (pe_str) (pa_cons (pv 2) pa_nil))))) pss_nil)))
      (pss_one (ps_ret (pe_tup (pa_cons (pe_str) (pa_cons (pe_callTy (Xk.k_tuple (K := K) (by rfl)) (by rfl) T.m_tuple (by decide +kernel) (pa_cons (pe_lc (own := [("deed", 4)]) (g := gName 4) (tt := tYes) rfl sc__law_do.nd  (pi_tup (pe_ix (Xk.k_ixT (K := K) (by rfl)) (pv 1) (pe_int) (fun _ _ => rfl))) (blkOk_by (N := N__law_do) (sc := defScope s__law_do) (own := [("deed", 4)]) (by decide +kernel)) (fun _ _ _ _ _ => pg_name (i := 4) sc__law_do.nd rfl (Or.inl rfl)) (fun _ _ _ _ _ => pts_nil) (fun _ _ _ _ _ => (pe_call (ok__law_done T) (hr.mono (by decide)) (by rfl) T.g__law_done T.F__law_done.kp T.b__law_done .nil pass0 (pa_cons (pv 0) (pa_cons (pv 4) pa_nil))))) pa_nil)) pa_nil))))))), ?_⟩
  obtain ⟨pc, pd', h1, h2, h3⟩ := hD.tp
  have few := hkv.few
  wtm_at "x0"
  wtm_at "xs"
  refine Xk.x_lcT (xs := C.map fun e => V.ref e.1) (fun Dl i H' => Same H H' ∧ H' Dl = some (.lst ((C.take i).map fun e => gv kvs e.2.1))) (Xk.st_of h2) ?_ ?_ ?_ ?_
  · intro Dl hDl
    exact ⟨Xk.same_fr hDl, upd_same⟩
  · rintro Dl i H' hDl ⟨s2, _⟩
    exact Xk.st_of (s2 _ _ h2)
  · rintro Dl hDl i x H' hi ⟨s2, hb⟩
    obtain ⟨e, he, rfl⟩ := Xk.of_map_at hi
    have he2 := s2 _ _ (hD.ck e (List.mem_of_getElem? he))
    have hr2 := s2 _ _ hr0
    have sz : ((C.take i).map fun e => gv kvs e.2.1).length < sizeLine := Xk.size_lt (by have := hD.cl; simp only [List.length_map, List.length_take]; omega)
    wtm_at "xs"
    refine ⟨rfl, ?_⟩
    wtm_at "xs"
    refine ⟨_, hb, sz, by wtm_at "sm", ?_⟩
    rw [upd_same, List.take_add_one, he, List.map_append]
    rfl
  · rintro Dl H1 hDl ⟨s1, hb⟩
    rw [List.take_of_length_le (by rw [List.length_map]; exact Nat.le_refl _)] at hb
    have hD1 := hD.same s1
    have hr1 := s1 _ _ hr0
    have h11 := s1 _ _ h1
    have h21 := s1 _ _ h2
    have h31 := s1 _ _ h3
    clear h2 h3
    wtm_at "xs"
    intro t1 H2 ht1 s2 hv1
    have hD2 := hD1.same s2
    have h12 := s2 _ _ h11
    have h22 := s2 _ _ h21
    have h32 := s2 _ _ h31
    have hr2 := s2 _ _ hr1
    have f1 : Xk.Fr t1 H := Xk.free_back ht1 s1
    have s02 := s1.trans s2
    clear hb h21 h31 hr1 hD1 h11 ht1 s1 s2 hDl
    wtm_at "xs"
    have eh : held kvs (C.map (·.2)) = decide (C.map (fun e => gv kvs e.2.1) = C.map fun e => e.2.2) := by
      unfold held
      rw [List.map_map, List.map_map]
      rfl
    refine Xk.x_forT (xs := C.map fun e => V.ref e.1) (fun i σ' H' => ∃ y3 y4 : Option V, σ' = [some (.ref r), some (.ref p), some (.ref t1), y3, y4] ∧ H' = H2 ∧ ∀ e ∈ C.take i, gv kvs e.2.1 = e.2.2) (Xk.st_of h22)
      ⟨_, _, rfl, rfl, fun e he => (by cases he)⟩ (fun i σ' H' _ ⟨_, _, _, e, _⟩ => by rw [e]; exact Xk.st_of h22) ?_ ?_
    · rintro i x σ' H' hi ⟨y3, y4, rfl, rfl, hall⟩
      obtain ⟨e, he, rfl⟩ := Xk.of_map_at hi
      have hem := List.mem_of_getElem? he
      have he2 := hD2.ck e hem
      wtm_at "xs"
      refine x_neFv (gv_fv hkv _) (hD.fv e hem).2 ?_
      wtm_at "xs"
      refine Xk.x_itn (fun h5 => ?_) (fun h5 => ?_)
      · have e2 : dealW kvs (C.map (·.2)) (D.map (·.2)) = (kvs, ("unheld" : Str), C.map fun e => gv kvs e.2.1) := by
          have hne : ¬ C.map (fun e => gv kvs e.2.1) = C.map fun e => e.2.2 := fun z => h5 (List.map_inj_left.mp z e hem)
          unfold dealW
          rw [eh, decide_eq_false hne, if_neg (by simp), List.map_map]
          rfl
        rw [e2] at q
        wtm_at "xs"
        intro p5 H5 hp5 s5 h5'
        exact q H5 p5 t1 (Xk.but_same (s02.trans s5)) (Xk.free_back hp5 s02) f1 (s5 _ _ hr2) h5' (s5 _ _ hv1)
      · wtm_at "xs"
        refine ⟨_, _, rfl, rfl, fun e' he' => ?_⟩
        rw [List.take_add_one, he] at he'
        rcases List.mem_append.mp he' with z | z
        · exact hall e' z
        · rw [List.mem_singleton.mp z]
          exact h5
    · rintro σ' H4 ⟨y3, y4, rfl, rfl, hall⟩
      rw [List.length_map, List.take_length] at hall
      have h5 : C.map (fun e => gv kvs e.2.1) = C.map fun e => e.2.2 := List.map_congr_left hall
      have e2 : dealW kvs (C.map (·.2)) (D.map (·.2)) = ((doAll kvs (D.map (·.2))).1, ("done" : Str), (doAll kvs (D.map (·.2))).2) := by
        unfold dealW
        rw [eh, decide_eq_true h5, if_pos rfl]
      rw [e2] at q
      have hD4 := hD2
      have hr4 := hr2
      have h34 := h32
      have h14 := h12
      have s04 := s02
      clear hD2 hr2 h32 h12 s02 h22
      wtm_at "xs"
      refine Xk.x_lcT (xs := D.map fun e => V.ref e.1) (fun Dl i H' => Xk.But r H4 H' ∧ H' r = some (.dK (doAll kvs ((D.take i).map (·.2))).1) ∧ H' Dl = some (.lst (doAll kvs ((D.take i).map (·.2))).2)) (Xk.st_of h34) ?_ ?_ ?_ ?_
      · intro Dl hDl
        exact ⟨Xk.but_new (Xk.But.refl _ _) hDl, (upd_ne (Xk.ne_new hDl hr4)).trans hr4, upd_same⟩
      · rintro Dl i H' hDl ⟨s3, _⟩
        exact Xk.st_of (but_tup s3 hr4 h34)
      · rintro Dl hDl i x H' hi ⟨b3, hr5, hb⟩
        obtain ⟨e, he, rfl⟩ := Xk.of_map_at hi
        have he2 := but_tup b3 hr4 (hD4.dd e (List.mem_of_getElem? he))
        have hok : ∀ d ∈ (D.take i).map (·.2), Dd.ok d ∧ d.key ∈ ks := fun d hd => by
          obtain ⟨e', he', rfl⟩ := List.mem_map.mp hd
          have := List.mem_of_mem_take he'
          exact ⟨hD.ok _ this, hk _ this⟩
        have hA := doAll_ok _ kvs hkv hok
        have hf := hA.1.few
        have hDl' := hD.dl
        have sz : (doAll kvs ((D.take i).map (·.2))).2.length < sizeLine := Xk.size_lt (by rw [hA.2.2]; simp only [List.length_map, List.length_take]; omega)
        have nDl : Dl ≠ r := (Xk.ne_new hDl hr4).symm
        wtm_at "xs"
        refine ⟨rfl, ?_⟩
        wtm_at "xs"
        refine ⟨r, e.1, _, e.2, rfl, hr5, he2, fun k v e => hA.1.val e, by omega, hD.ok _ (List.mem_of_getElem? he), fun H6 b6 hr6 => ?_⟩
        refine ⟨_, Xk.but_at b6 nDl hb, sz, ?_, ?_, ?_⟩
        · exact fun b o n h => (upd_ne (Xk.ne_new hDl h)).trans (b6 b o n (b3 b o n h))
        · rw [upd_ne nDl.symm, hr6, List.take_add_one, he]
          show _ = some (HO.dK (doAll kvs (((D.take i) ++ [e]).map (·.2))).1)
          rw [List.map_append, List.map_singleton, doAll_snoc]
        · rw [upd_same, List.take_add_one, he]
          show _ = some (HO.lst (doAll kvs (((D.take i) ++ [e]).map (·.2))).2)
          rw [List.map_append, List.map_singleton, doAll_snoc]
      · rintro Dl H5 hDl ⟨b5, hr5, hb⟩
        rw [List.take_of_length_le (by rw [List.length_map]; exact Nat.le_refl _)] at hb hr5
        wtm_at "xs"
        intro t3 H6 ht3 s6 hv3
        wtm_at "xs"
        intro p7 H7 hp7 s7 h7
        have b7 : Xk.But r H H7 := Xk.but_trans (Xk.but_same s04) (Xk.but_trans b5 (Xk.but_same (s6.trans s7)))
        have hr6 := s6 _ _ hr5
        exact q H7 p7 t3 b7 (fr_but hp7 (Xk.but_trans (Xk.but_same s04) (Xk.but_trans b5 (Xk.but_same s6))) hr6) (fr_but ht3 (Xk.but_trans (Xk.but_same s04) b5) hr5) (s7 _ _ hr6) h7 (s7 _ _ hv3)
--CUT--
/-! ### records and orders -/
def kd : HO → Nat
  | .tup _ => 0
  | .frz _ _ => 1
  | .lst _ => 3
  | .dK _ => 4
  | .dT _ => 5
  | .ins _ _ _ => 6
  | _ => 7
theorem nk {H : Hp} {a b : Addr} {o o' : HO} (h : H a = some o) (h' : H b = some o') (n : kd o ≠ kd o') : a ≠ b := fun z => by
  rw [z, h'] at h
  exact n (congrArg kd (Option.some.inj h)).symm
/-- what never changes stays -/
def KT (H H' : Hp) : Prop := ∀ a o, kd o ≤ 1 → H a = some o → H' a = some o
theorem KT.refl (H : Hp) : KT H H := fun _ _ _ h => h
theorem KT.trans {H H1 H2 : Hp} (k : KT H H1) (k' : KT H1 H2) : KT H H2 := fun a o n h => k' a o n (k a o n h)
theorem KT.same {H H' : Hp} (s : Same H H') : KT H H' := fun a o _ h => s a o h
theorem KT.but {H H' : Hp} {p : Addr} {o : HO} (b : Xk.But p H H') (h : H p = some o) (n : 2 ≤ kd o) : KT H H' := fun a u k e => b _ _ (nk e h (by omega)) e
theorem KT.tup {H H' : Hp} (k : KT H H') {a : Addr} {xs : List V} (h : H a = some (.tup xs)) : H' a = some (.tup xs) := k _ _ (Nat.zero_le _) h
theorem KT.st {H H' : Hp} (k : KT H H') : Xk.St K H H' := by
  refine ⟨fun b xs h => ?_⟩
  rcases h with (h | ⟨u, h⟩) | h
  · exact .inl (.inl (k.tup h))
  · exact .inl (.inr ⟨u, k _ _ (Nat.le_refl _) h⟩)
  · exact .inr h
theorem DlAt.kt {H H' : Hp} {p : Addr} {C : List (Addr × Ck)} {D : List (Addr × Dd)} (h : DlAt H p C D) (k : KT H H') : DlAt H' p C D := by
  obtain ⟨pc, pd, h1, h2, h3⟩ := h.tp
  exact ⟨⟨pc, pd, k.tup h1, k.tup h2, k.tup h3⟩, fun e he => k.tup (h.ck e he), fun e he => k.tup (h.dd e he), h.fv, h.ok, h.cl, h.dl⟩
/-- an answer: its word, and the data behind it -/
structure AnAt (K : PySem.W.Frag) (H : Hp) (p : Addr) (w : Str) (ds : List PyData) : Prop where
  tp : ∃ vs, H p = some (.tup (.str w :: vs)) ∧ Xk.PkAll K H 2 vs ds
  ok : (PyData.str w).canLay0 = true
theorem AnAt.kt {H H' : Hp} {p : Addr} {w : Str} {ds : List PyData} (h : AnAt K H p w ds) (k : KT H H') : AnAt K H' p w ds := by
  obtain ⟨vs, h1, h2⟩ := h.tp
  exact ⟨⟨vs, k.tup h1, h2.st k.st⟩, h.ok⟩
def anD (w : Str) (ds : List PyData) : PyData := .tuple (.str w :: ds)
theorem AnAt.pk {H : Hp} {p : Addr} {w : Str} {ds : List PyData} (h : AnAt K H p w ds) : Xk.Pk K H 3 (.ref p) (anD w ds) := by
  obtain ⟨vs, h1, h2⟩ := h.tp
  exact Xk.pk_tup (n := 2) (Xk.st_of h1) (Xk.pk_cons (Xk.pk_str h.ok) h2)
structure Rc where
  c : Int
  n : Int
  da : Addr
  C : List (Addr × Ck)
  D : List (Addr × Dd)
  k : Int
  e : Option Int
  v : V
  w : Option (Str × List PyData)
def oi : Option Int → V
  | none => .non
  | some i => .int i
def Rc.xs (r : Rc) : List V := [.int r.c, .int r.n, .ref r.da, .int r.k, oi r.e, r.v]
/-- perhaps an answer -/
def AnO (K : PySem.W.Frag) (H : Hp) (v : V) (w : Option (Str × List PyData)) : Prop := (v = .non ∧ w = none) ∨ ∃ p u ds, v = .ref p ∧ w = some (u, ds) ∧ AnAt K H p u ds
theorem AnO.kt {H H' : Hp} {v : V} {w : Option (Str × List PyData)} (h : AnO K H v w) (k : KT H H') : AnO K H' v w := by
  rcases h with h | ⟨p, u, ds, h1, h2, h3⟩
  · exact .inl h
  · exact .inr ⟨p, u, ds, h1, h2, h3.kt k⟩
structure RcAt (K : PySem.W.Frag) (ks : List Str) (H : Hp) (a : Addr) (r : Rc) : Prop where
  tp : H a = some (.tup r.xs)
  dl : DlAt H r.da r.C r.D
  kk : ∀ e ∈ r.D, e.2.key ∈ ks
  an : AnO K H r.v r.w
  k0 : 0 ≤ r.k
  e0 : ∀ e, r.e = some e → 0 ≤ e
theorem RcAt.kt {ks : List Str} {H H' : Hp} {a : Addr} {r : Rc} (h : RcAt K ks H a r) (k : KT H H') : RcAt K ks H' a r := ⟨k.tup h.tp, h.dl.kt k, h.kk, h.an.kt k, h.k0, h.e0⟩
structure Oe where
  c : Int
  n : Int
  p : Addr
  w : Str
  ds : List PyData
structure OeAt (K : PySem.W.Frag) (H : Hp) (a : Addr) (o : Oe) : Prop where
  tp : H a = some (.tup [.int o.c, .int o.n, .ref o.p])
  an : AnAt K H o.p o.w o.ds
theorem OeAt.kt {H H' : Hp} {a : Addr} {o : Oe} (h : OeAt K H a o) (k : KT H H') : OeAt K H' a o := ⟨k.tup h.tp, h.an.kt k⟩
abbrev Rs := List (Addr × Rc)
abbrev Os := List (Addr × Oe)
structure HsAt (K : PySem.W.Frag) (ks : List Str) (H : Hp) (h : Addr) (R : Rs) : Prop where
  lst : H h = some (.lst (R.map fun e => V.ref e.1))
  it : ∀ e ∈ R, RcAt K ks H e.1 e.2
structure OrAt (K : PySem.W.Frag) (H : Hp) (o : Addr) (O : Os) : Prop where
  lst : H o = some (.lst (O.map fun e => V.ref e.1))
  it : ∀ e ∈ O, OeAt K H e.1 e.2
theorem HsAt.same {ks : List Str} {H H' : Hp} {h : Addr} {R : Rs} (g : HsAt K ks H h R) (s : Same H H') : HsAt K ks H' h R := ⟨s _ _ g.lst, fun e he => (g.it e he).kt (.same s)⟩
theorem OrAt.same {H H' : Hp} {h : Addr} {R : Os} (g : OrAt K H h R) (s : Same H H') : OrAt K H' h R := ⟨s _ _ g.lst, fun e he => (g.it e he).kt (.same s)⟩
/-- the record of a name -/
def fnd (c n : Int) (R : Rs) : Option (Addr × Rc) := R.find? fun e => decide (e.2.c = c ∧ e.2.n = n)
def ky (c n : Int) : List Key := [Sum.inl c, Sum.inl n]
theorem ky_inj {c n c' n' : Int} (h : ky c n = ky c' n') : c = c' ∧ n = n' := by
  injection h with z1 z2
  injection z2 with z2 _
  injection z1 with z1
  injection z2 with z2
  exact ⟨z1, z2⟩
/-- no name twice -/
def Nn (R : Rs) : Prop := R.Pairwise fun a b => ¬ (a.2.c = b.2.c ∧ a.2.n = b.2.n)
theorem fnd_some {c n : Int} {R : Rs} {e : Addr × Rc} (h : fnd c n R = some e) : e ∈ R ∧ e.2.c = c ∧ e.2.n = n := by
  have h2 := List.find?_some h
  exact ⟨List.mem_of_find?_eq_some h, (of_decide_eq_true h2).1, (of_decide_eq_true h2).2⟩
theorem fnd_none {c n : Int} {R : Rs} (h : fnd c n R = none) : ∀ e ∈ R, ¬ (e.2.c = c ∧ e.2.n = n) := fun e he z => by
  have h2 := List.find?_eq_none.mp h e he
  exact h2 (decide_eq_true z)
theorem fnd_snoc {c n : Int} {R : Rs} {e : Addr × Rc} : fnd c n (R ++ [e]) = (fnd c n R).or (if e.2.c = c ∧ e.2.n = n then some e else none) := by
  unfold fnd
  rw [List.find?_append]
  congr 1
  show (match decide (e.2.c = c ∧ e.2.n = n) with | true => some e | false => none) = _
  by_cases h : e.2.c = c ∧ e.2.n = n
  · rw [if_pos h, decide_eq_true h]
  · rw [if_neg h, decide_eq_false h]
theorem fnd_cons {c n : Int} {R : Rs} {e : Addr × Rc} : fnd c n (e :: R) = if e.2.c = c ∧ e.2.n = n then some e else fnd c n R := by
  show (match decide (e.2.c = c ∧ e.2.n = n) with | true => some e | false => fnd c n R) = _
  by_cases h : e.2.c = c ∧ e.2.n = n
  · rw [if_pos h, decide_eq_true h]
  · rw [if_neg h, decide_eq_false h]
theorem fnd_of : ∀ {R : Rs}, Nn R → ∀ e ∈ R, fnd e.2.c e.2.n R = some e
  | [], _, _, he => by cases he
  | a :: r, h, e, he => by
    have h2 := List.pairwise_cons.mp h
    rw [fnd_cons]
    rcases List.mem_cons.mp he with rfl | he
    · exact if_pos ⟨rfl, rfl⟩
    · rw [if_neg (h2.1 e he)]
      exact fnd_of h2.2 e he
/-- a table of records -/
structure TbAt (H : Hp) (d : Addr) (R : Rs) : Prop where
  at_ : ∃ kvs, H d = some (.dT kvs) ∧ kvs.length ≤ R.length ∧ ∀ c n, valV kvs (ky c n) = (fnd c n R).map fun e => V.ref e.1
theorem TbAt.same {H H' : Hp} {d : Addr} {R : Rs} (h : TbAt H d R) (s : Same H H') : TbAt H' d R := by
  obtain ⟨kvs, h1, h2⟩ := h.at_
  exact ⟨kvs, s _ _ h1, h2⟩
theorem kV_ky (c n : Int) : (ky c n).map kV = [V.int c, V.int n] := rfl
def sp__by_name (K : PySem.W.Frag) : Sp := fun vs H Q _ => ∃ h R ks, vs = [.ref h] ∧ HsAt K ks H h R ∧ Nn R ∧ R.length ≤ 100 ∧ ∀ H' d, Same H H' → TbAt H' d R → Q (.ref d) H'
theorem ok__by_name (T : Txt K mg) : FnOk P w K mg base CX0 1 T.f__by_name T.d__by_name ["history"] (sp__by_name K) := by
  refine T.F__by_name.ok sc__by_name (fun vs H Q E h => ?_) (fun cdv A outer s H vs Q E hr h => ?_)
  · obtain ⟨h, R, ks, rfl, _⟩ := h
    rfl
  obtain ⟨h, R, ks, rfl, hH, hN, hl, q⟩ := h
  refine ⟨_, (pss_one (ps_ret (Xk.pe_dcT (own := [("record", 1)]) (g := gName 1) (tt := tYes) rfl (hu_of hr) sc__by_name.nd  (pi_list (pv 0)) (blkOk_by (N := N__by_name) (sc := defScope s__by_name) (own := [("record", 1)]) (by decide +kernel)) (fun _ _ _ _ _ => pg_name (i := 1) sc__by_name.nd rfl (Or.inl rfl)) (fun _ _ _ _ _ => pts_nil) (fun _ _ _ _ _ => (pe_tup (pa_cons (pe_ix (Xk.k_ixT (K := K) (by rfl)) (pv 1) (pe_int) (fun _ _ => rfl)) (pa_cons (pe_ix (Xk.k_ixT (K := K) (by rfl)) (pv 1) (pe_int) (fun _ _ => rfl)) pa_nil)))) (fun _ _ _ _ _ => (pv 1))))), ?_⟩
  wtm_at "x0"
  wtm_at "xs"
  refine Xk.x_dcTL (xs := R.map fun e => V.ref e.1) (fun d i H' => Same H H' ∧ TbAt H' d (R.take i)) (Xk.sq_of hH.lst) ?_ ?_ ?_ ?_
  · intro d hd
    exact ⟨Xk.same_fr hd, [], upd_same, Nat.zero_le _, fun c n => rfl⟩
  · rintro d i H' hd ⟨s1, _⟩
    exact Xk.sq_of (s1 _ _ hH.lst)
  · rintro d hd i x H' hi ⟨s1, kvs, k1, k2, k3⟩
    obtain ⟨e, he, rfl⟩ := Xk.of_map_at hi
    have hem := List.mem_of_getElem? he
    have r1 := s1 _ _ (hH.it e hem).tp
    unfold Rc.xs at r1
    show Xk.DcTurn _ _ _ _ _ _ _ _ _ _
    unfold Xk.DcTurn
    wtm_at "xs"
    refine ⟨rfl, ?_⟩
    wtm_at "xs"
    intro t H2 ht s2 h2
    wtm_at "xs"
    have et : R.take (i + 1) = R.take i ++ [e] := by
      rw [List.take_add_one, he]
      rfl
    have hlen : (R.take i).length ≤ i := by rw [List.length_take]; omega
    have hi2 := Xk.at_lt he
    refine Xk.x_putT (k := ky e.2.c e.2.n) (s2 _ _ k1) h2 (by omega) ⟨Xk.same_mut (s1.trans s2) hd, _, upd_same, ?_, fun c n => ?_⟩
    · rw [et, List.length_append]
      exact Nat.le_trans (length_putK _ _ _) (Nat.succ_le_succ k2)
    · rw [valV_put, et, fnd_snoc]
      by_cases z : c = e.2.c ∧ n = e.2.n
      · obtain ⟨rfl, rfl⟩ := z
        rw [if_pos rfl, if_pos ⟨rfl, rfl⟩]
        have hno : fnd e.2.c e.2.n (R.take i) = none := by
          cases c : fnd e.2.c e.2.n (R.take i) with
          | none => rfl
          | some e' =>
            obtain ⟨m1, m2, m3⟩ := fnd_some c
            have hN2 : Nn (R.take (i + 1)) := List.Pairwise.sublist (List.take_sublist _ _) hN
            rw [et] at hN2
            exact absurd ⟨m2, m3⟩ ((List.pairwise_append.mp hN2).2.2 e' m1 e (List.mem_singleton.mpr rfl))
        rw [hno]
        rfl
      · rw [if_neg (fun w => z (ky_inj w)), if_neg (fun w => z ⟨w.1.symm, w.2.symm⟩), k3, Option.or_none]
  · rintro d H' hd ⟨s1, tb⟩
    rw [List.length_map, List.take_length] at tb
    exact q H' d s1 tb
--CUT--
/-! ### faults -/
def firstF (f : Nat → Option Str) : Nat → Option (Str × Nat)
  | 0 => none
  | n + 1 => (firstF f n).or ((f n).map fun w => (w, n))
theorem firstF_none {f : Nat → Option Str} : ∀ {n : Nat}, (∀ j, j < n → f j = none) → firstF f n = none
  | 0, _ => rfl
  | n + 1, h => by
    show (firstF f n).or ((f n).map fun w => (w, n)) = none
    rw [firstF_none fun j hj => h j (by omega), h n (by omega)]
    rfl
theorem firstF_some {f : Nat → Option Str} {k : Nat} {w : Str} (h : ∀ j, j < k → f j = none) (e : f k = some w) : ∀ {n : Nat}, k < n → firstF f n = some (w, k)
  | n + 1, hk => by
    show (firstF f n).or ((f n).map fun w => (w, n)) = _
    by_cases c : k = n
    · subst c
      rw [firstF_none h, e]
      rfl
    · rw [firstF_some h e (n := n) (by omega)]
      rfl
theorem firstF_nones {f : Nat → Option Str} : ∀ {n : Nat}, firstF f n = none → ∀ j, j < n → f j = none
  | n + 1, h, j, hj => by
    have h : (firstF f n).or ((f n).map fun w => (w, n)) = none := h
    have h2 := Option.or_eq_none_iff.mp h
    by_cases c : j = n
    · subst c
      exact Option.map_eq_none_iff.mp h2.2
    · exact firstF_nones h2.1 j (by omega)
/-- a fault in the heap -/
def FtAt (H : Hp) (v : V) : Option (Str × Nat) → Prop
  | none => v = .non
  | some (w, k) => ∃ p, v = .ref p ∧ H p = some (.tup [.str w, .int (k : Int)])
theorem FtAt.same {H H' : Hp} {v : V} {f : Option (Str × Nat)} (h : FtAt H v f) (s : Same H H') : FtAt H' v f := by
  cases f with
  | none => exact h
  | some f =>
    obtain ⟨p, h1, h2⟩ := h
    exact ⟨p, h1, s _ _ h2⟩
def nameIn (c n : Int) (O : Os) : Bool := O.any fun e => decide (e.2.c = c ∧ e.2.n = n)
theorem nameIn_snoc {c n : Int} {O : Os} {e : Addr × Oe} : nameIn c n (O ++ [e]) = (nameIn c n O || decide (e.2.c = c ∧ e.2.n = n)) := by
  unfold nameIn
  rw [List.any_append]
  show (_ || (decide (e.2.c = c ∧ e.2.n = n) || false)) = _
  rw [Bool.or_false]
def f1 (R : Rs) (O : Os) (k : Nat) : Option Str := match O[k]? with
  | none => none
  | some o => if (fnd o.2.c o.2.n R).isSome = true then (if nameIn o.2.c o.2.n (O.take k) = true then some (Str.ofString "twice") else none) else some (Str.ofString "unknown")
theorem f1_at {R : Rs} {O : Os} {k : Nat} {o : Addr × Oe} (h : O[k]? = some o) : f1 R O k = if (fnd o.2.c o.2.n R).isSome = true then (if nameIn o.2.c o.2.n (O.take k) = true then some (Str.ofString "twice") else none) else some (Str.ofString "unknown") := by
  unfold f1
  rw [h]
/-- a set of names, as a dict -/
structure NmAt (H : Hp) (d : Addr) (O : Os) : Prop where
  at_ : ∃ kvs, H d = some (.dT kvs) ∧ kvs.length ≤ O.length ∧ ∀ c n, (valV kvs (ky c n)).isSome = nameIn c n O
theorem NmAt.same {H H' : Hp} {d : Addr} {O : Os} (h : NmAt H d O) (s : Same H H') : NmAt H' d O := by
  obtain ⟨kvs, h1, h2⟩ := h.at_
  exact ⟨kvs, s _ _ h1, h2⟩
theorem NmAt.put {H : Hp} {d : Addr} {O : Os} {kvs : List (List Key × V)} {o : Addr × Oe} {v : V} (k2 : kvs.length ≤ O.length) (k3 : ∀ c n, (valV kvs (ky c n)).isSome = nameIn c n O) : NmAt (upd H d (.dT (putK kvs (ky o.2.c o.2.n) v))) d (O ++ [o]) := by
  refine ⟨_, upd_same, by rw [List.length_append]; exact Nat.le_trans (length_putK _ _ _) (Nat.succ_le_succ k2), fun c n => ?_⟩
  rw [valV_put, nameIn_snoc, ← k3]
  by_cases z : c = o.2.c ∧ n = o.2.n
  · obtain ⟨rfl, rfl⟩ := z
    rw [if_pos rfl, decide_eq_true ⟨rfl, rfl⟩, Bool.or_true]
    rfl
  · rw [if_neg (fun w => z (ky_inj w)), decide_eq_false (fun w => z ⟨w.1.symm, w.2.symm⟩), Bool.or_false]
def sp__fault_of_names (K : PySem.W.Frag) : Sp := fun vs H Q _ => ∃ d o R O, vs = [.ref d, .ref o] ∧ TbAt H d R ∧ OrAt K H o O ∧ R.length ≤ 100 ∧ O.length ≤ 100 ∧ ∀ H' v, Same H H' → FtAt H' v (firstF (f1 R O) O.length) → Q v H'
theorem ok__fault_of_names (T : Txt K mg) : FnOk P w K mg base CX0 1 T.f__fault_of_names T.d__fault_of_names ["records", "order"] (sp__fault_of_names K) := by
  refine T.F__fault_of_names.ok sc__fault_of_names (fun vs H Q E h => ?_) (fun cdv A outer s H vs Q E hr h => ?_)
  · obtain ⟨d, o, R, O, rfl, _⟩ := h
    rfl
  obtain ⟨d, o, R, O, rfl, hT, hO, hl1, hl2, q⟩ := h
  refine ⟨_, (pss_cons (ps_set (i := 2) sc__fault_of_names.nd rfl (Or.inl rfl) (pe_dnewT))
      (pss_cons (ps_for PassesOwn.never rfl (Xk.k_enum (K := K) (by rfl) (by rfl) T.m_enumerate (pa_cons (pv 1) pa_nil)) (pg_tup rfl (pgs_cons (pg_name (i := 3) sc__fault_of_names.nd rfl (Or.inl rfl)) (pgs_cons (Xk.k_gtup (K := K) (by rfl) rfl (pgs_cons (pg_name (i := 4) sc__fault_of_names.nd rfl (Or.inl rfl)) (pgs_cons (pg_name (i := 5) sc__fault_of_names.nd rfl (Or.inl rfl)) (pgs_cons (pg_name (i := 6) sc__fault_of_names.nd rfl (Or.inl rfl)) pgs_nil)))) pgs_nil))) (Evl.pss_cut (ps_if (pt_cmp (pc_dnotin (hu_of hr) (pe_tup (pa_cons (pv 4) (pa_cons (pv 5) pa_nil))) (pv 0))) (pss_one (ps_ret (pe_tup (pa_cons (pe_str) (pa_cons (pv 3) pa_nil))))) pss_nil)
      (Evl.pss_cut (ps_if (pt_cmp (pc_din (hu_of hr) (pe_tup (pa_cons (pv 4) (pa_cons (pv 5) pa_nil))) (pv 2))) (pss_one (ps_ret (pe_tup (pa_cons (pe_str) (pa_cons (pv 3) pa_nil))))) pss_nil)
      (pss_one (ps_dput (hu_of hr) (pv 2) (pe_tup (pa_cons (pv 4) (pa_cons (pv 5) pa_nil))) (pe_bl) rfl)))))
      (pss_one (ps_ret (pe_non))))), ?_⟩
  wtm_at "x0"
  wtm_at "xs"
  intro nm H1 hnm s1 h1
  have hO1 := hO.same s1
  have hT1 := hT.same s1
  wtm_at "xs"
  refine Xk.x_forE (xs := O.map fun e => V.ref e.1) (fun i σ' H' => ∃ y3 y4 y5 y6 : Option V, σ' = [some (.ref d), some (.ref o), some (.ref nm), y3, y4, y5, y6] ∧ Same H H' ∧ NmAt H' nm (O.take i) ∧ ∀ j, j < i → f1 R O j = none) (Xk.sq_of hO1.lst)
    ⟨_, _, _, _, rfl, s1, ⟨[], h1, Nat.le_refl _, fun c n => rfl⟩, fun j hj => absurd hj (Nat.not_lt_zero _)⟩ (fun i σ' H' _ ⟨_, _, _, _, _, s, _⟩ => Xk.sq_of (s _ _ hO.lst)) ?_ ?_
  · rintro i x σ' H2 T H3 hi ⟨y3, y4, y5, y6, rfl, s2, hNm, hf⟩ hT' s3 hTt
    obtain ⟨e, he, rfl⟩ := Xk.of_map_at hi
    have hem := List.mem_of_getElem? he
    have s23 := s2.trans s3
    have hoe := (hO.it e hem).tp
    have hoe3 := s23 _ _ hoe
    have hil := Xk.at_lt he
    obtain ⟨kvs, k1, k2, k3⟩ := (hNm.same s3).at_
    obtain ⟨tvs, t1, t2, t3⟩ := (hT.same s23).at_
    wtm_at "xs"
    refine Xk.x_nocut ?_
    wtm_at "xs"
    intro p1 H4 hp1 s4 h4
    wtm_at "xs"
    refine Xk.x_dninT (k := ky e.2.c e.2.n) (s4 _ _ t1) h4 ?_
    wtm_at "xs"
    have ft := f1_at (R := R) he
    have hil' : i < O.length := hil
    have ets : (valV tvs (ky e.2.c e.2.n)).isSome = (fnd e.2.c e.2.n R).isSome := by rw [t3, Option.isSome_map]
    have s24 := s23.trans s4
    have et : O.take (i + 1) = O.take i ++ [e] := by
      rw [List.take_add_one, he]
      rfl
    rw [ets]
    cases hs : (fnd e.2.c e.2.n R).isSome with
    | false =>
      rw [hs, if_neg (by decide)] at ft
      rw [show (!false) = true from rfl]
      wtm_at "xs"
      intro p5 H5 hp5 s5 h5
      exact q H5 _ (s24.trans s5) (by rw [firstF_some hf ft hil']; exact ⟨p5, rfl, h5⟩)
    | true =>
      rw [hs, if_pos rfl] at ft
      rw [show (!true) = false from rfl]
      wtm_at "xs"
      refine Xk.x_nocut ?_
      wtm_at "xs"
      intro p5 H5 hp5 s5 h5
      have k1' := (s4.trans s5) _ _ k1
      wtm_at "xs"
      refine Xk.x_dinT (k := ky e.2.c e.2.n) k1' h5 ?_
      wtm_at "xs"
      rw [k3]
      cases hn : nameIn e.2.c e.2.n (O.take i) with
      | true =>
        rw [hn, if_pos rfl] at ft
        wtm_at "xs"
        intro p6 H6 hp6 s6 h6
        exact q H6 _ (s24.trans (s5.trans s6)) (by rw [firstF_some hf ft hil']; exact ⟨p6, rfl, h6⟩)
      | false =>
        rw [hn, if_neg (by decide)] at ft
        wtm_at "xs"
        intro p6 H6 hp6 s6 h6
        have k16 := s6 _ _ k1'
        refine ⟨nm, _, rfl, DPut.t (k := ky e.2.c e.2.n) k16 h6 (Xk.size_lt (by rw [List.length_take] at k2; omega)), _, _, _, _, rfl, Xk.same_mut (s24.trans (s5.trans s6)) (Xk.free_back hnm (.refl _)), ?_, fun j hj => ?_⟩
        · rw [et]
          exact NmAt.put k2 k3
        · rcases Nat.lt_succ_iff_lt_or_eq.mp hj with z | rfl
          · exact hf j z
          · exact ft
  · rintro σ' H2 ⟨y3, y4, y5, y6, rfl, s2, hNm, hf⟩
    wtm_at "xs"
    rw [List.length_map] at hf
    exact q H2 .non s2 (by rw [firstF_none hf]; rfl)
--CUT--
theorem x_neAn {H : Hp} {Q : VK} {x y : V} {n m : Nat} {d e : PyData} (h : Xk.Pk K H n x d) (h' : Xk.Pk K H m y e) (q : Q (.bl (!PyData.eqv d e)) H) (l : n ≤ 64 := by decide) (l' : m ≤ 64 := by decide) : rNeD K x y H Q :=
  ⟨_, _, h.1, h'.1, Xk.shaped_of h.lay (Nat.le_trans h.2.2 l), Xk.shaped_of h'.lay (Nat.le_trans h'.2.2 l'), q⟩
theorem dealW_fine {ks : List Str} {kvs : Kvs} {cs : List Ck} {ds : List Dd} (h : KvOk ks kvs) (hd : ∀ d ∈ ds, d.ok ∧ d.key ∈ ks) :
    KvOk ks (dealW kvs cs ds).1 ∧ (∀ v ∈ (dealW kvs cs ds).2.2, FV v) ∧ ((dealW kvs cs ds).2.1 = Str.ofString "done" ∨ (dealW kvs cs ds).2.1 = Str.ofString "unheld") := by
  unfold dealW
  split
  · have h2 := doAll_ok ds kvs h hd
    exact ⟨h2.1, h2.2.1, .inl rfl⟩
  · refine ⟨h, fun v hv => ?_, .inr rfl⟩
    obtain ⟨c, _, rfl⟩ := List.mem_map.mp hv
    exact gv_fv h _
def dlD (x : Kvs × Str × List V) : PyData := anD x.2.1 [.tuple (x.2.2.map pd)]
theorem an_of {H : Hp} {q t : Addr} {x : Kvs × Str × List V} (h1 : H q = some (.tup [.str x.2.1, .ref t])) (h2 : H t = some (.tup x.2.2)) (hf : ∀ v ∈ x.2.2, FV v) (hw : x.2.1 = Str.ofString "done" ∨ x.2.1 = Str.ofString "unheld") :
    AnAt K H q x.2.1 [.tuple (x.2.2.map pd)] := by
  refine ⟨⟨[.ref t], h1, Xk.pk_cons (Xk.pk_tup (n := 1) (Xk.st_of h2) (pk_fvs _ hf)) Xk.pk_nil⟩, ?_⟩
  rcases hw with e | e <;> rw [e] <;> decide +kernel
def stp (R : Rs) (s : Kvs) (o : Addr × Oe) : Kvs := match fnd o.2.c o.2.n R with
  | none => s
  | some e => (dealW s (e.2.C.map (·.2)) (e.2.D.map (·.2))).1
def stB (R : Rs) (O : Os) : Kvs := O.foldl (stp R) []
theorem stB_snoc {R : Rs} {O : Os} {o : Addr × Oe} {e : Addr × Rc} (h : fnd o.2.c o.2.n R = some e) : stB R (O ++ [o]) = (dealW (stB R O) (e.2.C.map (·.2)) (e.2.D.map (·.2))).1 := by
  unfold stB
  rw [List.foldl_append]
  show stp R _ o = _
  unfold stp
  rw [h]
/-- deeds that may be done -/
def RcOk (ks : List Str) (r : Rc) : Prop := ∀ d ∈ r.D.map (·.2), Dd.ok d ∧ d.key ∈ ks
theorem RcAt.rok {ks : List Str} {H : Hp} {a : Addr} {r : Rc} (h : RcAt K ks H a r) : RcOk ks r := fun d hd => by
  obtain ⟨e, he, rfl⟩ := List.mem_map.mp hd
  exact ⟨h.dl.ok e he, h.kk e he⟩
theorem nil_ok (ks : List Str) : KvOk ks [] := ⟨.nil, fun p hp => by cases hp⟩
theorem stB_ok {ks : List Str} {R : Rs} (hR : ∀ e ∈ R, RcOk ks e.2) (O : Os) : KvOk ks (stB R O) := by
  unfold stB
  have key : ∀ (O : Os) (s : Kvs), KvOk ks s → KvOk ks (O.foldl (stp R) s) := by
    intro O
    induction O with
    | nil => exact fun s h => h
    | cons o r ih =>
      intro s h
      refine ih _ ?_
      unfold stp
      cases c : fnd o.2.c o.2.n R with
      | none => exact h
      | some e => exact (dealW_fine h (hR e (fnd_some c).1)).1
  exact key O [] (nil_ok ks)
def f2 (R : Rs) (O : Os) (k : Nat) : Option Str := match O[k]? with
  | none => none
  | some o => match fnd o.2.c o.2.n R with
    | none => none
    | some e => if PyData.eqv (dlD (dealW (stB R (O.take k)) (e.2.C.map (·.2)) (e.2.D.map (·.2)))) (anD o.2.w o.2.ds) = true then
        (match e.2.w with
          | none => none
          | some (w, ds) => if PyData.eqv (anD w ds) (anD o.2.w o.2.ds) = true then none else some (Str.ofString "other")) else some (Str.ofString "wrong")
theorem f2_at {R : Rs} {O : Os} {k : Nat} {o : Addr × Oe} {e : Addr × Rc} (h : O[k]? = some o) (h' : fnd o.2.c o.2.n R = some e) : f2 R O k = if PyData.eqv (dlD (dealW (stB R (O.take k)) (e.2.C.map (·.2)) (e.2.D.map (·.2)))) (anD o.2.w o.2.ds) = true then
        (match e.2.w with
          | none => none
          | some (w, ds) => if PyData.eqv (anD w ds) (anD o.2.w o.2.ds) = true then none else some (Str.ofString "other")) else some (Str.ofString "wrong") := by
  unfold f2
  rw [h]
  dsimp only
  rw [h']
theorem known {R : Rs} {O : Os} (h : firstF (f1 R O) O.length = none) {k : Nat} {o : Addr × Oe} (ho : O[k]? = some o) : ∃ e, fnd o.2.c o.2.n R = some e := by
  have z := firstF_nones h k (Xk.at_lt ho)
  rw [f1_at ho] at z
  cases c : fnd o.2.c o.2.n R with
  | some e => exact ⟨e, rfl⟩
  | none =>
    rw [c, if_neg (by decide)] at z
    cases z
def sp__fault_of_answers (K : PySem.W.Frag) (C : Addr) : Sp := fun vs H Q _ => ∃ d o R O ks h, vs = [.ref d, .ref o] ∧ TbAt H d R ∧ HsAt K ks H h R ∧ OrAt K H o O ∧ ks.length ≤ 100 ∧ R.length ≤ 100 ∧ O.length ≤ 100 ∧ firstF (f1 R O) O.length = none ∧ ∀ H' v, Same H H' → FtAt H' v (firstF (f2 R O) O.length) → Q v H'
theorem ok__fault_of_answers (T : Txt K mg) : FnOk P w K mg base CX0 8 T.f__fault_of_answers T.d__fault_of_answers ["records", "order"] (sp__fault_of_answers K T.C_Store) := by
  refine T.F__fault_of_answers.ok sc__fault_of_answers (fun vs H Q E h => ?_) (fun cdv A outer s H vs Q E hr h => ?_)
  · obtain ⟨d, o, R, O, ks, h, rfl, _⟩ := h
    rfl
  obtain ⟨d, o, R, O, ks, h, rfl, hT, hH, hO, hk, hl1, hl2, hf1, q⟩ := h
  have c0 := T.Cls_Store
  have hRok : ∀ e ∈ R, RcOk ks e.2 := fun e he => (hH.it e he).rok
  refine ⟨_, (pss_cons (ps_set (i := 2) sc__fault_of_answers.nd rfl (Or.inl rfl) (pe_make0 T.Mk_Store (ok_Store___init__ T) (hr.mono (by decide)) (by rfl) T.g_Store T.b0_Store___init__ T.V0_Store___init__ pass0))
      (pss_cons (ps_for PassesOwn.never rfl (Xk.k_enum (K := K) (by rfl) (by rfl) T.m_enumerate (pa_cons (pv 1) pa_nil)) (pg_tup rfl (pgs_cons (pg_name (i := 3) sc__fault_of_answers.nd rfl (Or.inl rfl)) (pgs_cons (Xk.k_gtup (K := K) (by rfl) rfl (pgs_cons (pg_name (i := 4) sc__fault_of_answers.nd rfl (Or.inl rfl)) (pgs_cons (pg_name (i := 5) sc__fault_of_answers.nd rfl (Or.inl rfl)) (pgs_cons (pg_name (i := 6) sc__fault_of_answers.nd rfl (Or.inl rfl)) pgs_nil)))) pgs_nil))) (pss_cons (ps_set (i := 7) sc__fault_of_answers.nd rfl (Or.inl rfl) (pe_dget (hu_of hr) (pv 0) (pe_tup (pa_cons (pv 4) (pa_cons (pv 5) pa_nil))) (fun _ _ => rfl)))
      (Evl.pss_cut (ps_if (pt_cmpR (Xk.k_neD (K := K) hr.units (by rfl)) (pe_meth (pv 2) T.Cls_Store T.M_Store_do (ok_Store_do T) (hr.mono (by decide)) T.b_Store_do .nil pass0 (pa_cons (pe_ix (Xk.k_ixT (K := K) (by rfl)) (pv 7) (pe_glob (by rfl) T.g_DEAL Xk.rel_int) (fun _ _ => rfl)) pa_nil)) (pv 6) (nomark _)) (pss_one (ps_ret (pe_tup (pa_cons (pe_str) (pa_cons (pv 3) pa_nil))))) pss_nil)
      (pss_one (ps_if (PW.pt (pw_and (pt_cmpR Xk.op_nNotN (pe_ix (Xk.k_ixT (K := K) (by rfl)) (pv 7) (pe_glob (by rfl) T.g_ANSWER Xk.rel_int) (fun _ _ => rfl)) (pe_non) (nomark _)) (pw_and1 (pt_cmpR (Xk.k_neD (K := K) hr.units (by rfl)) (pe_ix (Xk.k_ixT (K := K) (by rfl)) (pv 7) (pe_glob (by rfl) T.g_ANSWER Xk.rel_int) (fun _ _ => rfl)) (pv 6) (nomark _))))) (pss_one (ps_ret (pe_tup (pa_cons (pe_str) (pa_cons (pv 3) pa_nil))))) pss_nil)))))
      (pss_one (ps_ret (pe_non))))), ?_⟩
  wtm_at "x0"
  wtm_at "xs"
  refine Xk.x_rMake fun x dx H1 hx hdx hn s1 h1 h2 => ?_
  refine ⟨x, dx, .non, [], rfl, h2, .inl ⟨rfl, rfl⟩, fun H2 r hr b2 h3 h4 => ⟨rfl, ?_⟩⟩
  have s2 : Same H H2 := Xk.same_but b2 hx s1
  have hO2 := hO.same s2
  replace hr := Xk.free_back hr s1
  wtm_at "xs"
  refine Xk.x_forE (xs := O.map fun e => V.ref e.1) (fun i σ' H' => ∃ y3 y4 y5 y6 y7 : Option V, σ' = [some (.ref d), some (.ref o), some (.ref x), y3, y4, y5, y6, y7] ∧ Same H H' ∧ StAt T.C_Store H' x r (stB R (O.take i)) ∧ ∀ j, j < i → f2 R O j = none) (Xk.sq_of hO2.lst)
    ⟨_, _, _, _, _, rfl, s2, ⟨⟨dx, h3⟩, h4⟩, fun j hj => absurd hj (Nat.not_lt_zero _)⟩ (fun i σ' H' _ ⟨_, _, _, _, _, _, s, _⟩ => Xk.sq_of (s _ _ hO.lst)) ?_ ?_
  · rintro i y σ' H3 Tp H4 hi ⟨y3, y4, y5, y6, y7, rfl, s3, hS, hf⟩ hT' s4 hTt
    obtain ⟨o', he, rfl⟩ := Xk.of_map_at hi
    have hem := List.mem_of_getElem? he
    have hil : i < O.length := Xk.at_lt he
    obtain ⟨e, hfe⟩ := known hf1 he
    obtain ⟨me, _, _⟩ := fnd_some hfe
    have s34 := s3.trans s4
    have hoe := (hO.it o' hem).kt (.same s34)
    have hre := (hH.it e me).kt (.same s34)
    obtain ⟨tvs, t1, t2, t3⟩ := (hT.same s34).at_
    have ft := f2_at he hfe
    have et : O.take (i + 1) = O.take i ++ [o'] := by
      rw [List.take_add_one, he]
      rfl
    have hot := hoe.tp
    have hS4 : StAt T.C_Store H4 x r (stB R (O.take i)) := by
      obtain ⟨dx', z⟩ := hS.ins
      exact ⟨⟨dx', s4 _ _ z⟩, s4 _ _ hS.rows⟩
    wtm_at "xs"
    intro p1 H5 hp1 s5 h5
    wtm_at "xs"
    refine ⟨d, _, rfl, (by
      have z := t3 o'.2.c o'.2.n
      rw [hfe] at z
      exact z ▸ DGet.t (k := ky o'.2.c o'.2.n) (s5 _ _ t1) h5), ?_⟩
    wtm_at "xs"
    have hS5 : StAt T.C_Store H5 x r (stB R (O.take i)) := by
      obtain ⟨dx', z⟩ := hS4.ins
      exact ⟨⟨dx', s5 _ _ z⟩, s5 _ _ hS4.rows⟩
    have s35 := s34.trans s5
    have re5 := hre.kt (.same s5)
    have rt5 := re5.tp
    unfold Rc.xs at rt5
    obtain ⟨dx5, hS5i⟩ := hS5.ins
    refine Xk.x_nocut ?_
    wtm_at "xs"
    refine ⟨x, r, e.2.da, _, e.2.C, e.2.D, ks, rfl, hS5, stB_ok hRok _, hk, re5.dl, re5.kk, fun H6 q6 t6 b6 fq6 ft6 hr6 hq6 ht6 => ?_⟩
    have fine := dealW_fine (cs := e.2.C.map (·.2)) (stB_ok hRok (O.take i)) re5.rok
    have an6 := an_of (K := K) hq6 ht6 fine.2.1 fine.2.2
    have k6 : KT H5 H6 := .but b6 hS5.rows (by show 2 ≤ 4; decide)
    have s36 : Same H H6 := Xk.same_but b6 hr s35
    have oe6 := (hoe.kt (.same s5)).kt k6
    have re6 := re5.kt k6
    have rt6 := k6.tup rt5
    have hS6 : StAt T.C_Store H6 x r (stB R (O.take (i + 1))) := by
      rw [et, stB_snoc hfe]
      exact ⟨⟨dx5, b6 _ _ (nk hS5i hS5.rows (by show ¬ (6 = 4); decide)) hS5i⟩, hr6⟩
    wtm_at "xs"
    refine x_neAn an6.pk oe6.an.pk ?_
    wtm_at "xs"
    have last : f2 R O i = none → ∀ j, j < i + 1 → f2 R O j = none := fun z j hj => by
      rcases Nat.lt_succ_iff_lt_or_eq.mp hj with y | rfl
      · exact hf j y
      · exact z
    cases hv : PyData.eqv (anD (dealW (stB R (O.take i)) (e.2.C.map (·.2)) (e.2.D.map (·.2))).2.1 [.tuple ((dealW (stB R (O.take i)) (e.2.C.map (·.2)) (e.2.D.map (·.2))).2.2.map pd)]) (anD o'.2.w o'.2.ds) with
    | false =>
      have ft' : f2 R O i = some (Str.ofString "wrong") := ft.trans (if_neg (by
        show ¬ PyData.eqv (anD _ _) _ = true
        rw [hv]
        decide))
      rw [show (!false) = true from rfl]
      wtm_at "xs"
      intro p7 H7 hp7 s7 h7
      exact q H7 _ (s36.trans s7) (by rw [firstF_some hf ft' hil]; exact ⟨p7, rfl, h7⟩)
    | true =>
      replace ft := ft.trans (if_pos (show PyData.eqv (dlD (dealW (stB R (O.take i)) (e.2.C.map (·.2)) (e.2.D.map (·.2)))) (anD o'.2.w o'.2.ds) = true from hv))
      rw [show (!true) = false from rfl]
      wtm_at "xs"
      rcases re6.an with ⟨v1, v2⟩ | ⟨pa, w, ds, v1, v2, v3⟩
      · rw [v1] at rt6 ⊢
        rw [v2] at ft
        wtm_at "xs"
        exact ⟨_, _, _, _, _, rfl, s36, hS6, last ft⟩
      · rw [v1] at rt6 ⊢
        rw [v2] at ft
        wtm_at "xs"
        refine x_neAn v3.pk oe6.an.pk ?_
        wtm_at "xs"
        cases hv2 : PyData.eqv (anD w ds) (anD o'.2.w o'.2.ds) with
        | false =>
          have ft' : f2 R O i = some (Str.ofString "other") := ft.trans (if_neg (by rw [hv2]; decide))
          rw [show (!false) = true from rfl]
          wtm_at "xs"
          intro p7 H7 hp7 s7 h7
          exact q H7 _ (s36.trans s7) (by rw [firstF_some hf ft' hil]; exact ⟨p7, rfl, h7⟩)
        | true =>
          have ft' : f2 R O i = none := ft.trans (if_pos hv2)
          rw [show (!true) = false from rfl]
          wtm_at "xs"
          exact ⟨_, _, _, _, _, rfl, s36, hS6, last ft'⟩
  · rintro σ' H3 ⟨y3, y4, y5, y6, y7, rfl, s3, hS, hf⟩
    wtm_at "xs"
    rw [List.length_map] at hf
    exact q H3 .non s3 (by rw [firstF_none hf]; rfl)
--CUT--
def decd : Option (Str × List PyData) → Bool
  | none => false
  | some (u, _) => decide (u = Str.ofString "done") || decide (u = Str.ofString "unheld")
def sp_is_decided (K : PySem.W.Frag) : Sp := fun vs H Q _ => ∃ v w, vs = [v] ∧ AnO K H v w ∧ ∀ H', Same H H' → Q (.bl (decd w)) H'
theorem ok_is_decided (T : Txt K mg) : FnOk P w K mg base CX0 1 T.f_is_decided T.d_is_decided ["answer"] (sp_is_decided K) := by
  refine T.F_is_decided.ok sc_is_decided (fun vs H Q E h => ?_) (fun cdv A outer s H vs Q E hr h => ?_)
  · obtain ⟨v, w, rfl, _⟩ := h
    rfl
  obtain ⟨v, w, rfl, hv, q⟩ := h
  refine ⟨_, (pss_one (ps_ret ((pe_and (pe_cmpR Xk.op_nNotN (pv 0) (pe_non) (nomark _)) (pe_one (pe_cmpR (Xk.k_in (K := K) (by rfl)) (pe_ix (Xk.k_ixT (K := K) (by rfl)) (pv 0) (pe_int) (fun _ _ => rfl)) (pe_tup (pa_cons (pe_str) (pa_cons (pe_str) pa_nil))) (by rfl))))))), ?_⟩
  wtm_at "x0"
  rcases hv with ⟨rfl, rfl⟩ | ⟨p, u, ds, rfl, rfl, hA⟩
  · wtm_at "xs"
    exact q H (.refl _)
  · obtain ⟨ws, h1, h2⟩ := hA.tp
    wtm_at "xs"
    have i0 : atI (V.str u :: ws) 0 = some (V.str u) := atI_nat (xs := V.str u :: ws) (j := 0) rfl
    refine Xk.x_ixT (Xk.st_of h1) i0 ?_
    wtm_at "xs"
    intro p2 H2 hp2 s2 h2'
    refine Xk.x_inT (Xk.st_of h2') rfl rfl ?_
    have e : inV (.str u) [.str (Str.ofString "done"), .str (Str.ofString "unheld")] = decd (some (u, ds)) := by
      show (eqV (.str (Str.ofString "done")) (.str u) || (eqV (.str (Str.ofString "unheld")) (.str u) || false)) = (decide (u = Str.ofString "done") || decide (u = Str.ofString "unheld"))
      have k : ∀ a b : Str, eqV (.str a) (.str b) = decide (b = a) := fun a b => by
        by_cases c : b = a
        · subst c
          simp [eqV]
        · have c' : ¬ a = b := fun z => c z.symm
          simp [eqV, c, c']
      rw [k, k, Bool.or_false]
    rw [e]
    exact q H2 s2
def f3 (R : Rs) (O : Os) (k : Nat) : Option Str := match R[k]? with
  | none => none
  | some e => if (decd e.2.w && !nameIn e.2.c e.2.n O) = true then some (Str.ofString "missing") else none
theorem f3_at {R : Rs} {O : Os} {k : Nat} {e : Addr × Rc} (h : R[k]? = some e) : f3 R O k = if (decd e.2.w && !nameIn e.2.c e.2.n O) = true then some (Str.ofString "missing") else none := by
  unfold f3
  rw [h]
def sp__missing (K : PySem.W.Frag) : Sp := fun vs H Q _ => ∃ h o R O ks, vs = [.ref h, .ref o] ∧ HsAt K ks H h R ∧ OrAt K H o O ∧ R.length ≤ 100 ∧ O.length ≤ 100 ∧ ∀ H' v, Same H H' → FtAt H' v (firstF (f3 R O) R.length) → Q v H'
theorem ok__missing (T : Txt K mg) : FnOk P w K mg base CX0 2 T.f__missing T.d__missing ["history", "order"] (sp__missing K) := by
  refine T.F__missing.ok sc__missing (fun vs H Q E h => ?_) (fun cdv A outer s H vs Q E hr h => ?_)
  · obtain ⟨h, o, R, O, ks, rfl, _⟩ := h
    rfl
  obtain ⟨h, o, R, O, ks, rfl, hH, hO, hl1, hl2, q⟩ := h
  refine ⟨_, (pss_cons (Xk.ps_setDcT (i := 2) (own := [("client", 5), ("number", 6), ("_", 7)]) (g := gTup K 3 (gCons (gName 5) (gCons (gName 6) (gCons (gName 7) gNil)))) (tt := tYes) rfl (hu_of hr) sc__missing.nd rfl rfl (Xk.sw_trueD rfl rfl rfl (by decide +kernel)) (pi_list (pv 1)) (blkOk_by (N := N__missing) (sc := defScope s__missing) (own := [("client", 5), ("number", 6), ("_", 7)]) (by decide +kernel)) (fun _ _ _ _ _ => Xk.k_gtup (K := K) (by rfl) rfl (pgs_cons (pg_name (i := 5) sc__missing.nd rfl (Or.inl rfl)) (pgs_cons (pg_name (i := 6) sc__missing.nd rfl (Or.inl rfl)) (pgs_cons (pg_name (i := 7) sc__missing.nd rfl (Or.inl rfl)) pgs_nil)))) (fun _ _ _ _ _ => pts_nil) (fun _ _ _ _ _ => (pe_tup (pa_cons (pv 5) (pa_cons (pv 6) pa_nil)))) (fun _ _ _ _ _ => (pe_bl)))
      (pss_cons (ps_for PassesOwn.never rfl (Xk.k_enum (K := K) (by rfl) (by rfl) T.m_enumerate (pa_cons (pv 0) pa_nil)) (pg_tup rfl (pgs_cons (pg_name (i := 3) sc__missing.nd rfl (Or.inl rfl)) (pgs_cons (pg_name (i := 4) sc__missing.nd rfl (Or.inl rfl)) pgs_nil))) (pss_one (ps_if (PW.pt (pw_and (pt_val (pe_call (ok_is_decided T) (hr.mono (by decide)) (by rfl) T.g_is_decided T.F_is_decided.kp T.b_is_decided .nil pass0 (pa_cons (pe_ix (Xk.k_ixT (K := K) (by rfl)) (pv 4) (pe_glob (by rfl) T.g_ANSWER Xk.rel_int) (fun _ _ => rfl)) pa_nil))) (pw_and1 (pt_cmp (pc_dnotin (hu_of hr) (pe_tup (pa_cons (pe_ix (Xk.k_ixT (K := K) (by rfl)) (pv 4) (pe_int) (fun _ _ => rfl)) (pa_cons (pe_ix (Xk.k_ixT (K := K) (by rfl)) (pv 4) (pe_int) (fun _ _ => rfl)) pa_nil))) (pv 2)))))) (pss_one (ps_ret (pe_tup (pa_cons (pe_str) (pa_cons (pv 3) pa_nil))))) pss_nil)))
      (pss_one (ps_ret (pe_non))))), ?_⟩
  wtm_at "x0"
  wtm_at "xs"
  refine Xk.x_dcTL (xs := O.map fun e => V.ref e.1) (fun d i H' => Same H H' ∧ NmAt H' d (O.take i)) (Xk.sq_of hO.lst) ?_ ?_ ?_ ?_
  · intro d hd
    exact ⟨Xk.same_fr hd, [], upd_same, Nat.zero_le _, fun c n => rfl⟩
  · rintro d i H' hd ⟨s1, _⟩
    exact Xk.sq_of (s1 _ _ hO.lst)
  · rintro d hd i x H' hi ⟨s1, kvs, k1, k2, k3⟩
    obtain ⟨e, he, rfl⟩ := Xk.of_map_at hi
    have r1 := s1 _ _ (hO.it e (List.mem_of_getElem? he)).tp
    show Xk.DcTurn _ _ _ _ _ _ _ _ _ _
    unfold Xk.DcTurn
    wtm_at "xs"
    refine ⟨rfl, ?_⟩
    wtm_at "xs"
    intro t H2 ht s2 h2
    wtm_at "xs"
    have et : O.take (i + 1) = O.take i ++ [e] := by
      rw [List.take_add_one, he]
      rfl
    have hlen : (O.take i).length ≤ i := by rw [List.length_take]; omega
    have hi2 := Xk.at_lt he
    refine Xk.x_putT (k := ky e.2.c e.2.n) (s2 _ _ k1) h2 (by omega) ⟨Xk.same_mut (s1.trans s2) hd, ?_⟩
    rw [et]
    exact NmAt.put k2 k3
  · rintro d H1 hd ⟨s1, hNm⟩
    rw [List.length_map, List.take_length] at hNm
    have hH1 := hH.same s1
    wtm_at "xs"
    refine Xk.x_forE (xs := R.map fun e => V.ref e.1) (fun i σ' H' => ∃ y3 y4 y5 y6 y7 : Option V, σ' = [some (.ref h), some (.ref o), some (.ref d), y3, y4, y5, y6, y7] ∧ Same H1 H' ∧ ∀ j, j < i → f3 R O j = none) (Xk.sq_of hH1.lst)
      ⟨_, _, _, _, _, rfl, .refl _, fun j hj => absurd hj (Nat.not_lt_zero _)⟩ (fun i σ' H' _ ⟨_, _, _, _, _, _, s, _⟩ => Xk.sq_of (s _ _ hH1.lst)) ?_ ?_
    · rintro i y σ' H2 Tp H3 hi ⟨y3, y4, y5, y6, y7, rfl, s2, hf⟩ hT' s3 hTt
      obtain ⟨e, he, rfl⟩ := Xk.of_map_at hi
      have s23 := s2.trans s3
      have re := (hH1.it e (List.mem_of_getElem? he)).kt (.same s23)
      have rt := re.tp
      unfold Rc.xs at rt
      obtain ⟨kvs, k1, k2, k3⟩ := (hNm.same s23).at_
      have ft := f3_at (O := O) he
      have hil : i < R.length := Xk.at_lt he
      wtm_at "xs"
      refine ⟨_, _, rfl, re.an, fun H4 s4 => ?_⟩
      wtm_at "xs"
      have s14 := s23.trans s4
      have rt4 := s4 _ _ rt
      have k14 := s4 _ _ k1
      have last : f3 R O i = none → ∀ j, j < i + 1 → f3 R O j = none := fun z j hj => by
        rcases Nat.lt_succ_iff_lt_or_eq.mp hj with y | rfl
        · exact hf j y
        · exact z
      cases hd2 : decd e.2.w with
      | false =>
        rw [hd2, Bool.false_and, if_neg (by decide)] at ft
        wtm_at "xs"
        exact ⟨_, _, _, _, _, rfl, s14, last ft⟩
      | true =>
        rw [hd2, Bool.true_and] at ft
        wtm_at "xs"
        intro p5 H5 hp5 s5 h5
        have k15 := s5 _ _ k14
        wtm_at "xs"
        refine Xk.x_dninT (k := ky e.2.c e.2.n) k15 h5 ?_
        wtm_at "xs"
        rw [k3]
        cases hn : nameIn e.2.c e.2.n O with
        | true =>
          rw [hn, if_neg (by decide)] at ft
          rw [show (!true) = false from rfl]
          wtm_at "xs"
          exact ⟨_, _, _, _, _, rfl, s14.trans s5, last ft⟩
        | false =>
          rw [hn, if_pos (by decide)] at ft
          rw [show (!false) = true from rfl]
          wtm_at "xs"
          intro p6 H6 hp6 s6 h6
          exact q H6 _ (s1.trans (s14.trans (s5.trans s6))) (by rw [firstF_some hf ft hil]; exact ⟨p6, rfl, h6⟩)
    · rintro σ' H2 ⟨y3, y4, y5, y6, y7, rfl, s2, hf⟩
      wtm_at "xs"
      rw [List.length_map] at hf
      exact q H2 .non (s1.trans s2) (by rw [firstF_none hf]; rfl)
def lateB (R : Rs) (O : Os) (e : Int) : Bool := O.any fun o => match fnd o.2.c o.2.n R with
  | none => false
  | some r => decide (e < r.2.k)
def f4 (R : Rs) (O : Os) (k : Nat) : Option Str := match O[k]? with
  | none => none
  | some o => match fnd o.2.c o.2.n R with
    | none => none
    | some r => match r.2.e with
      | none => none
      | some e => if lateB R (O.take k) e = true then some (Str.ofString "late") else none
theorem f4_at {R : Rs} {O : Os} {k : Nat} {o : Addr × Oe} {r : Addr × Rc} (h : O[k]? = some o) (h' : fnd o.2.c o.2.n R = some r) : f4 R O k = match r.2.e with
      | none => none
      | some e => if lateB R (O.take k) e = true then some (Str.ofString "late") else none := by
  unfold f4
  rw [h]
  dsimp only
  rw [h']
theorem lateB_snoc {R : Rs} {O : Os} {o : Addr × Oe} {r : Addr × Rc} {e : Int} (h : fnd o.2.c o.2.n R = some r) : lateB R (O ++ [o]) e = (lateB R O e || decide (e < r.2.k)) := by
  unfold lateB
  rw [List.any_append]
  show (_ || ((match fnd o.2.c o.2.n R with
    | none => false
    | some r => decide (e < r.2.k)) || false)) = _
  rw [h, Bool.or_false]
def sp__late (K : PySem.W.Frag) : Sp := fun vs H Q _ => ∃ d o R O ks h, vs = [.ref d, .ref o] ∧ TbAt H d R ∧ HsAt K ks H h R ∧ OrAt K H o O ∧ R.length ≤ 100 ∧ O.length ≤ 100 ∧ firstF (f1 R O) O.length = none ∧ ∀ H' v, Same H H' → FtAt H' v (firstF (f4 R O) O.length) → Q v H'
theorem ok__late (T : Txt K mg) : FnOk P w K mg base CX0 1 T.f__late T.d__late ["records", "order"] (sp__late K) := by
  refine T.F__late.ok sc__late (fun vs H Q E h => ?_) (fun cdv A outer s H vs Q E hr h => ?_)
  · obtain ⟨d, o, R, O, ks, h, rfl, _⟩ := h
    rfl
  obtain ⟨d, o, R, O, ks, h, rfl, hT, hH, hO, hl1, hl2, hf1, q⟩ := h
  refine ⟨_, (pss_cons (ps_set (i := 2) sc__late.nd rfl (Or.inl rfl) (pe_un un_neg (pe_int)))
      (pss_cons (ps_for PassesOwn.never rfl (Xk.k_enum (K := K) (by rfl) (by rfl) T.m_enumerate (pa_cons (pv 1) pa_nil)) (pg_tup rfl (pgs_cons (pg_name (i := 3) sc__late.nd rfl (Or.inl rfl)) (pgs_cons (Xk.k_gtup (K := K) (by rfl) rfl (pgs_cons (pg_name (i := 4) sc__late.nd rfl (Or.inl rfl)) (pgs_cons (pg_name (i := 5) sc__late.nd rfl (Or.inl rfl)) (pgs_cons (pg_name (i := 6) sc__late.nd rfl (Or.inl rfl)) pgs_nil)))) pgs_nil))) (pss_cons (ps_set (i := 7) sc__late.nd rfl (Or.inl rfl) (pe_dget (hu_of hr) (pv 0) (pe_tup (pa_cons (pv 4) (pa_cons (pv 5) pa_nil))) (fun _ _ => rfl)))
      (Evl.pss_cut (ps_if (PW.pt (pw_and (pt_cmpR Xk.op_nNotN (pe_ix (Xk.k_ixT (K := K) (by rfl)) (pv 7) (pe_glob (by rfl) T.g_ANSWERED Xk.rel_int) (fun _ _ => rfl)) (pe_non) (nomark _)) (pw_and1 (pt_cmpR op_lt (pe_ix (Xk.k_ixT (K := K) (by rfl)) (pv 7) (pe_glob (by rfl) T.g_ANSWERED Xk.rel_int) (fun _ _ => rfl)) (pv 2) (nomark _))))) (pss_one (ps_ret (pe_tup (pa_cons (pe_str) (pa_cons (pv 3) pa_nil))))) pss_nil)
      (pss_one (ps_set (i := 2) sc__late.nd rfl (Or.inl rfl) (pe_callB (Xk.call_nMax2 rfl) (by rfl) T.m_max (by decide +kernel) (pa_cons (pv 2) (pa_cons (pe_ix (Xk.k_ixT (K := K) (by rfl)) (pv 7) (pe_glob (by rfl) T.g_ASKED Xk.rel_int) (fun _ _ => rfl)) pa_nil))))))))
      (pss_one (ps_ret (pe_non))))), ?_⟩
  wtm_at "x0"
  wtm_at "xs"
  refine Xk.x_forE (xs := O.map fun e => V.ref e.1) (fun i σ' H' => ∃ (y3 y4 y5 y6 y7 : Option V) (L : Int), σ' = [some (.ref d), some (.ref o), some (.int L), y3, y4, y5, y6, y7] ∧ Same H H' ∧ (∀ e : Int, 0 ≤ e → decide (e < L) = lateB R (O.take i) e) ∧ ∀ j, j < i → f4 R O j = none) (Xk.sq_of hO.lst)
    ⟨_, _, _, _, _, _, rfl, .refl _, fun e he => decide_eq_false (by omega), fun j hj => absurd hj (Nat.not_lt_zero _)⟩ (fun i σ' H' _ ⟨_, _, _, _, _, _, _, s, _⟩ => Xk.sq_of (s _ _ hO.lst)) ?_ ?_
  · rintro i y σ' H3 Tp H4 hi ⟨y3, y4, y5, y6, y7, L, rfl, s3, hL, hf⟩ hT' s4 hTt
    obtain ⟨o', he, rfl⟩ := Xk.of_map_at hi
    have hem := List.mem_of_getElem? he
    have hil : i < O.length := Xk.at_lt he
    obtain ⟨e, hfe⟩ := known hf1 he
    obtain ⟨me, _, _⟩ := fnd_some hfe
    have s34 := s3.trans s4
    have hot := ((hO.it o' hem).kt (.same s34)).tp
    have hre := (hH.it e me).kt (.same s34)
    obtain ⟨tvs, t1, t2, t3⟩ := (hT.same s34).at_
    have ft := f4_at he hfe
    have et : O.take (i + 1) = O.take i ++ [o'] := by
      rw [List.take_add_one, he]
      rfl
    wtm_at "xs"
    intro p1 H5 hp1 s5 h5
    wtm_at "xs"
    refine ⟨d, _, rfl, (by
      have z := t3 o'.2.c o'.2.n
      rw [hfe] at z
      exact z ▸ DGet.t (k := ky o'.2.c o'.2.n) (s5 _ _ t1) h5), ?_⟩
    have s35 := s34.trans s5
    have rt5 := s5 _ _ hre.tp
    unfold Rc.xs at rt5
    have last : f4 R O i = none → ∀ j, j < i + 1 → f4 R O j = none := fun z j hj => by
      rcases Nat.lt_succ_iff_lt_or_eq.mp hj with y | rfl
      · exact hf j y
      · exact z
    have hL' : ∀ u : Int, 0 ≤ u → decide (u < max L e.2.k) = lateB R (O.take (i + 1)) u := fun u hu => by
      rw [et, lateB_snoc hfe, ← hL u hu]
      by_cases c1 : u < L <;> by_cases c2 : u < e.2.k
      · rw [decide_eq_true c1, decide_eq_true (by omega)]; rfl
      · rw [decide_eq_true c1, decide_eq_true (by omega)]; rfl
      · rw [decide_eq_false c1, decide_eq_true c2, decide_eq_true (by omega)]; rfl
      · rw [decide_eq_false c1, decide_eq_false c2, decide_eq_false (by omega)]; rfl
    wtm_at "xs"
    have e0 := hre.e0
    cases ee : e.2.e with
    | none =>
      rw [ee] at ft
      rw [ee, show oi none = V.non from rfl] at rt5
      refine Xk.x_nocut ?_
      wtm_at "xs"
      exact ⟨_, _, _, _, _, _, rfl, s35, hL', last ft⟩
    | some u =>
      rw [ee] at ft
      rw [ee, show oi (some u) = V.int u from rfl] at rt5
      refine Xk.x_nocut ?_
      wtm_at "xs"
      rw [hL u (e0 u ee)]
      cases hl : lateB R (O.take i) u with
      | true =>
        have ft' : f4 R O i = some (Str.ofString "late") := ft.trans (if_pos hl)
        wtm_at "xs"
        intro p6 H6 hp6 s6 h6
        exact q H6 _ (s35.trans s6) (by rw [firstF_some hf ft' hil]; exact ⟨p6, rfl, h6⟩)
      | false =>
        have ft' : f4 R O i = none := ft.trans (if_neg (by rw [hl]; decide))
        wtm_at "xs"
        exact ⟨_, _, _, _, _, _, rfl, s35, hL', last ft'⟩
  · rintro σ' H3 ⟨y3, y4, y5, y6, y7, L, rfl, s3, hL, hf⟩
    wtm_at "xs"
    rw [List.length_map] at hf
    exact q H3 .non s3 (by rw [firstF_none hf]; rfl)
--CUT--
def pfault (R : Rs) (O : Os) : Option (Str × Nat) := (((firstF (f1 R O) O.length).or (firstF (f2 R O) O.length)).or (firstF (f3 R O) R.length)).or (firstF (f4 R O) O.length)
theorem ft_iff {H : Hp} {v : V} {f : Option (Str × Nat)} (h : FtAt H v f) : v = .non ↔ f = none := by
  cases f with
  | none => exact ⟨fun _ => rfl, fun _ => h⟩
  | some f =>
    obtain ⟨p, rfl, _⟩ := h
    exact ⟨fun z => (by cases z), fun z => (by cases z)⟩
theorem ft_or {f g : Option (Str × Nat)} (h : ¬ f = none) : f.or g = f := by
  cases f with
  | none => exact absurd rfl h
  | some f => rfl
def sp_fault_of (K : PySem.W.Frag) (C : Addr) : Sp := fun vs H Q _ => ∃ h o R O ks, vs = [.ref h, .ref o] ∧ HsAt K ks H h R ∧ OrAt K H o O ∧ Nn R ∧ ks.length ≤ 100 ∧ R.length ≤ 100 ∧ O.length ≤ 100 ∧ ∀ H' v, Same H H' → FtAt H' v (pfault R O) → Q v H'
theorem ok_fault_of (T : Txt K mg) : FnOk P w K mg base CX0 9 T.f_fault_of T.d_fault_of ["history", "order"] (sp_fault_of K T.C_Store) := by
  refine T.F_fault_of.ok sc_fault_of (fun vs H Q E h => ?_) (fun cdv A outer s H vs Q E hr h => ?_)
  · obtain ⟨h, o, R, O, ks, rfl, _⟩ := h
    rfl
  obtain ⟨h, o, R, O, ks, rfl, hH, hO, hN, hk, hl1, hl2, q⟩ := h
  refine ⟨_, (pss_cons (ps_set (i := 2) sc_fault_of.nd rfl (Or.inl rfl) (pe_call (ok__by_name T) (hr.mono (by decide)) (by rfl) T.g__by_name T.F__by_name.kp T.b__by_name .nil pass0 (pa_cons (pv 0) pa_nil)))
      (pss_cons (ps_set (i := 3) sc_fault_of.nd rfl (Or.inl rfl) (pe_call (ok__fault_of_names T) (hr.mono (by decide)) (by rfl) T.g__fault_of_names T.F__fault_of_names.kp T.b__fault_of_names .nil pass0 (pa_cons (pv 2) (pa_cons (pv 1) pa_nil))))
      (Evl.pss_cut (ps_if (pt_cmpR Xk.op_nIsN (pv 3) (pe_non) (nomark _)) (pss_one (ps_set (i := 3) sc_fault_of.nd rfl (Or.inl rfl) (pe_call (ok__fault_of_answers T) (hr.mono (by decide)) (by rfl) T.g__fault_of_answers T.F__fault_of_answers.kp T.b__fault_of_answers .nil pass0 (pa_cons (pv 2) (pa_cons (pv 1) pa_nil))))) pss_nil)
      (Evl.pss_cut (ps_if (pt_cmpR Xk.op_nIsN (pv 3) (pe_non) (nomark _)) (pss_one (ps_set (i := 3) sc_fault_of.nd rfl (Or.inl rfl) (pe_call (ok__missing T) (hr.mono (by decide)) (by rfl) T.g__missing T.F__missing.kp T.b__missing .nil pass0 (pa_cons (pv 0) (pa_cons (pv 1) pa_nil))))) pss_nil)
      (Evl.pss_cut (ps_if (pt_cmpR Xk.op_nIsN (pv 3) (pe_non) (nomark _)) (pss_one (ps_set (i := 3) sc_fault_of.nd rfl (Or.inl rfl) (pe_call (ok__late T) (hr.mono (by decide)) (by rfl) T.g__late T.F__late.kp T.b__late .nil pass0 (pa_cons (pv 2) (pa_cons (pv 1) pa_nil))))) pss_nil)
      (pss_one (ps_ret (pv 3)))))))), ?_⟩
  wtm_at "x0"
  wtm_at "xs"
  refine ⟨h, R, ks, rfl, hH, hN, hl1, fun H1 d s1 hT => ?_⟩
  wtm_at "xs"
  refine ⟨d, o, R, O, rfl, hT, hO.same s1, hl1, hl2, fun H2 v s2 hv => ?_⟩
  have s02 := s1.trans s2
  refine Xk.x_cut (fun σ' H' => ∃ v : V, σ' = [some (.ref h), some (.ref o), some (.ref d), some v] ∧ Same H H' ∧ FtAt H' v ((firstF (f1 R O) O.length).or (firstF (f2 R O) O.length)) ∧ TbAt H' d R) ?_ ?_
  · wtm_at "xs"
    refine Xk.x_itd (fun c => ?_) (fun c => ?_)
    · have f0 := (ft_iff hv).mp c
      wtm_at "xs"
      refine ⟨d, o, R, O, ks, h, rfl, hT.same s2, hH.same s02, hO.same s02, hk, hl1, hl2, f0, fun H3 v3 s3 hv3 => ?_⟩
      exact ⟨v3, rfl, s02.trans s3, by rw [f0]; exact hv3, hT.same (s2.trans s3)⟩
    · wtm_at "xs"
      exact ⟨v, rfl, s02, by rw [ft_or (fun z => c ((ft_iff hv).mpr z))]; exact hv, hT.same s2⟩
  rintro σ' H3 ⟨v3, rfl, s3, hv3, hT3⟩
  refine Xk.x_cut (fun σ' H' => ∃ v : V, σ' = [some (.ref h), some (.ref o), some (.ref d), some v] ∧ Same H H' ∧ FtAt H' v (((firstF (f1 R O) O.length).or (firstF (f2 R O) O.length)).or (firstF (f3 R O) R.length)) ∧ (v = .non → firstF (f1 R O) O.length = none) ∧ TbAt H' d R) ?_ ?_
  · wtm_at "xs"
    refine Xk.x_itd (fun c => ?_) (fun c => ?_)
    · have f0 := (ft_iff hv3).mp c
      wtm_at "xs"
      refine ⟨h, o, R, O, ks, rfl, hH.same s3, hO.same s3, hl1, hl2, fun H4 v4 s4 hv4 => ?_⟩
      exact ⟨v4, rfl, s3.trans s4, by rw [f0]; exact hv4, fun _ => (Option.or_eq_none_iff.mp f0).1, hT3.same s4⟩
    · wtm_at "xs"
      exact ⟨v3, rfl, s3, by rw [ft_or (fun z => c ((ft_iff hv3).mpr z))]; exact hv3, fun z => absurd z c, hT3⟩
  rintro σ' H4 ⟨v4, rfl, s4, hv4, hn4, hT4⟩
  refine Xk.x_cut (fun σ' H' => ∃ v : V, σ' = [some (.ref h), some (.ref o), some (.ref d), some v] ∧ Same H H' ∧ FtAt H' v (pfault R O)) ?_ ?_
  · wtm_at "xs"
    refine Xk.x_itd (fun c => ?_) (fun c => ?_)
    · have f0 := (ft_iff hv4).mp c
      wtm_at "xs"
      refine ⟨d, o, R, O, ks, h, rfl, hT4, hH.same s4, hO.same s4, hl1, hl2, hn4 c, fun H5 v5 s5 hv5 => ?_⟩
      exact ⟨v5, rfl, s4.trans s5, by unfold pfault; rw [f0]; exact hv5⟩
    · wtm_at "xs"
      exact ⟨v4, rfl, s4, by unfold pfault; rw [ft_or (fun z => c ((ft_iff hv4).mpr z))]; exact hv4⟩
  rintro σ' H5 ⟨v5, rfl, s5, hv5⟩
  wtm_at "xs"
  exact q H5 v5 s5 hv5
def sp_store_behind (K : PySem.W.Frag) (C : Addr) : Sp := fun vs H Q _ => ∃ h o R O ks, vs = [.ref h, .ref o] ∧ HsAt K ks H h R ∧ OrAt K H o O ∧ Nn R ∧ ks.length ≤ 100 ∧ R.length ≤ 100 ∧ O.length ≤ 100 ∧ firstF (f1 R O) O.length = none ∧
  ∀ H' x r, Same H H' → Xk.Fr r H → StAt C H' x r (stB R O) → Q (.ref x) H'
theorem ok_store_behind (T : Txt K mg) : FnOk P w K mg base CX0 8 T.f_store_behind T.d_store_behind ["history", "order"] (sp_store_behind K T.C_Store) := by
  refine T.F_store_behind.ok sc_store_behind (fun vs H Q E h => ?_) (fun cdv A outer s H vs Q E hr h => ?_)
  · obtain ⟨h, o, R, O, ks, rfl, _⟩ := h
    rfl
  obtain ⟨h, o, R, O, ks, rfl, hH, hO, hN, hk, hl1, hl2, hf1, q⟩ := h
  have c0 := T.Cls_Store
  have hRok : ∀ e ∈ R, RcOk ks e.2 := fun e he => (hH.it e he).rok
  refine ⟨_, (pss_cons (ps_set (i := 2) sc_store_behind.nd rfl (Or.inl rfl) (pe_call (ok__by_name T) (hr.mono (by decide)) (by rfl) T.g__by_name T.F__by_name.kp T.b__by_name .nil pass0 (pa_cons (pv 0) pa_nil)))
      (pss_cons (ps_set (i := 3) sc_store_behind.nd rfl (Or.inl rfl) (pe_make0 T.Mk_Store (ok_Store___init__ T) (hr.mono (by decide)) (by rfl) T.g_Store T.b0_Store___init__ T.V0_Store___init__ pass0))
      (pss_cons (ps_for PassesOwn.never rfl (pi_list (pv 1)) (pg_tup rfl (pgs_cons (pg_name (i := 4) sc_store_behind.nd rfl (Or.inl rfl)) (pgs_cons (pg_name (i := 5) sc_store_behind.nd rfl (Or.inl rfl)) (pgs_cons (pg_name (i := 6) sc_store_behind.nd rfl (Or.inl rfl)) pgs_nil)))) (pss_one (ps_expr (pe_meth (pv 3) T.Cls_Store T.M_Store_do (ok_Store_do T) (hr.mono (by decide)) T.b_Store_do .nil pass0 (pa_cons (pe_ix (Xk.k_ixT (K := K) (by rfl)) (pe_dget (hu_of hr) (pv 2) (pe_tup (pa_cons (pv 4) (pa_cons (pv 5) pa_nil))) (fun _ _ => rfl)) (pe_glob (by rfl) T.g_DEAL Xk.rel_int) (fun _ _ => rfl)) pa_nil)))))
      (pss_one (ps_ret (pv 3)))))), ?_⟩
  wtm_at "x0"
  wtm_at "xs"
  refine ⟨h, R, ks, rfl, hH, hN, hl1, fun H0 d s0 hT => ?_⟩
  wtm_at "xs"
  refine Xk.x_rMake fun x dx H1 hx hdx hn s1 h1 h2 => ?_
  refine ⟨x, dx, .non, [], rfl, h2, .inl ⟨rfl, rfl⟩, fun H2 r hr b2 h3 h4 => ⟨rfl, ?_⟩⟩
  have s2 : Same H0 H2 := Xk.same_but b2 hx s1
  have s02 := s0.trans s2
  have hO2 := (hO.same s02).lst
  replace hr := Xk.free_back (Xk.free_back hr s1) s0
  wtm_at "xs"
  refine Xk.x_forL (xs := O.map fun e => V.ref e.1) (fun i σ' H' => ∃ y4 y5 y6 : Option V, σ' = [some (.ref h), some (.ref o), some (.ref d), some (.ref x), y4, y5, y6] ∧ Same H H' ∧ TbAt H' d R ∧ StAt T.C_Store H' x r (stB R (O.take i))) (Xk.sq_of hO2)
    ⟨_, _, _, rfl, s02, hT.same s2, ⟨⟨dx, h3⟩, h4⟩⟩ (fun i σ' H' _ ⟨_, _, _, _, s, _⟩ => Xk.sq_of (s _ _ hO.lst)) ?_ ?_
  · rintro i y σ' H3 hi ⟨y4, y5, y6, rfl, s3, hT3, hS⟩
    obtain ⟨o', he, rfl⟩ := Xk.of_map_at hi
    have hem := List.mem_of_getElem? he
    have hil : i < O.length := Xk.at_lt he
    obtain ⟨e, hfe⟩ := known hf1 he
    obtain ⟨me, _, _⟩ := fnd_some hfe
    have hot := ((hO.it o' hem).kt (.same s3)).tp
    have hre := (hH.it e me).kt (.same s3)
    obtain ⟨tvs, t1, t2, t3⟩ := hT3.at_
    have et : O.take (i + 1) = O.take i ++ [o'] := by
      rw [List.take_add_one, he]
      rfl
    obtain ⟨dx', hSi⟩ := hS.ins
    wtm_at "xs"
    intro p1 H5 hp1 s5 h5
    have hS5i := s5 _ _ hSi
    have hS5 : StAt T.C_Store H5 x r (stB R (O.take i)) := ⟨⟨dx', hS5i⟩, s5 _ _ hS.rows⟩
    have s35 := s3.trans s5
    have re5 := hre.kt (.same s5)
    have rt5 := re5.tp
    unfold Rc.xs at rt5
    wtm_at "xs"
    refine ⟨d, _, rfl, (by
      have z := t3 o'.2.c o'.2.n
      rw [hfe] at z
      exact z ▸ DGet.t (k := ky o'.2.c o'.2.n) (s5 _ _ t1) h5), ?_⟩
    wtm_at "xs"
    refine ⟨x, r, e.2.da, _, e.2.C, e.2.D, ks, rfl, hS5, stB_ok hRok _, hk, re5.dl, re5.kk, fun H6 q6 t6 b6 fq6 ft6 hr6 hq6 ht6 => ?_⟩
    have s36 : Same H H6 := Xk.same_but b6 hr s35
    have hS6 : StAt T.C_Store H6 x r (stB R (O.take (i + 1))) := by
      rw [et, stB_snoc hfe]
      exact ⟨⟨dx', b6 _ _ (nk hS5i hS5.rows (by show ¬ (6 = 4); decide)) hS5i⟩, hr6⟩
    have hT6 : TbAt H6 d R := ⟨tvs, b6 _ _ (nk (s5 _ _ t1) hS5.rows (by show ¬ (5 = 4); decide)) (s5 _ _ t1), t2, t3⟩
    wtm_at "xs"
    exact ⟨_, _, _, rfl, s36, hT6, hS6⟩
  · rintro σ' H3 ⟨y4, y5, y6, rfl, s3, hT3, hS⟩
    rw [List.length_map, List.take_length] at hS
    wtm_at "xs"
    exact q H3 x r s3 hr hS
--CUT--
theorem fnd_filter (c n : Int) (R : Rs) : (R.filter fun e => decide (e.2.c = c ∧ e.2.n = n))[0]? = fnd c n R := by
  induction R with
  | nil => rfl
  | cons e r ih =>
    rw [fnd_cons, List.filter_cons]
    by_cases h : e.2.c = c ∧ e.2.n = n
    · rw [if_pos h, if_pos (decide_eq_true h)]
      rfl
    · rw [if_neg h, if_neg (by rw [decide_eq_false h]; decide), ih]
def sp__law_record (K : PySem.W.Frag) : Sp := fun vs H Q _ => ∃ h t R ks c n, vs = [.ref h, .ref t] ∧ HsAt K ks H h R ∧ R.length ≤ 100 ∧ H t = some (.tup [.int c, .int n]) ∧ ∀ H' v, Same H H' → (fnd c n R = none ∧ v = .non ∨ ∃ e, fnd c n R = some e ∧ v = .ref e.1) → Q v H'
theorem ok__law_record (T : Txt K mg) : FnOk P w K mg base CX0 1 T.f__law_record T.d__law_record ["history", "name"] (sp__law_record K) := by
  refine T.F__law_record.ok sc__law_record (fun vs H Q E h => ?_) (fun cdv A outer s H vs Q E hr h => ?_)
  · obtain ⟨h, t, R, ks, c, n, rfl, _⟩ := h
    rfl
  obtain ⟨h, t, R, ks, c, n, rfl, hH, hl, ht, q⟩ := h
  refine ⟨_, (pss_cons (ps_setLc (i := 2) (own := [("row", 3)]) (g := gName 3) rfl sc__law_record.nd rfl rfl (sw_true rfl rfl rfl (by decide +kernel)) (pi_list (pv 0)) (blkOk_by (N := N__law_record) (sc := defScope s__law_record) (own := [("row", 3)]) (by decide +kernel)) (fun _ _ _ _ _ => pg_name (i := 3) sc__law_record.nd rfl (Or.inl rfl)) (fun _ _ _ _ _ => pts_one (pt_cmpR (Xk.k_eqD (K := K) hr.units (by rfl)) (pe_slice (Xk.k_slT (K := K) (by rfl)) (pv 3) po_none (po_some (pe_int))) (pv 1) (nomark _))) (fun _ _ _ _ _ => (pv 3)))
      (Evl.pss_cut (ps_if (pt_cmpR op_eq (pe_callB (Xk.k_len (K := K) (by rfl)) (by rfl) T.m_len PySem.boot_len (pa_cons (pv 2) pa_nil)) (pe_int) (nomark _)) (pss_one (ps_ret (pe_non))) pss_nil)
      (pss_one (ps_ret (pe_ix (Xk.k_ixL (K := K) (by rfl)) (pv 2) (pe_int) (fun _ _ => rfl)))))), ?_⟩
  wtm_at "x0"
  wtm_at "xs"
  refine Xk.x_lcL (xs := R.map fun e => V.ref e.1) (fun d i H' => Same H H' ∧ H' d = some (.lst (((R.take i).filter fun e => decide (e.2.c = c ∧ e.2.n = n)).map fun e => V.ref e.1))) (Xk.sq_of hH.lst) ?_ ?_ ?_ ?_
  · intro d hd
    exact ⟨Xk.same_fr hd, upd_same⟩
  · rintro d i H' hd ⟨s1, _⟩
    exact Xk.sq_of (s1 _ _ hH.lst)
  · rintro d hd i x H' hi ⟨s1, g1⟩
    obtain ⟨e, he, rfl⟩ := Xk.of_map_at hi
    have r1 := s1 _ _ (hH.it e (List.mem_of_getElem? he)).tp
    have t1 := s1 _ _ ht
    have et : R.take (i + 1) = R.take i ++ [e] := by
      rw [List.take_add_one, he]
      rfl
    wtm_at "xs"
    refine ⟨rfl, ?_⟩
    wtm_at "xs"
    refine Xk.x_slA r1 fun p2 H2 s2 h2 => ?_
    have ec : cutV e.2.xs none (some 2) = [e.2.c, e.2.n].map V.int := rfl
    rw [ec] at h2
    have t2 := s2 _ _ t1
    have g2 := s2 _ _ g1
    wtm_at "xs"
    refine Xk.x_eqTInts (ns := [e.2.c, e.2.n]) (ms := [c, n]) (Xk.st_of h2) (Xk.st_of t2) ?_
    wtm_at "xs"
    refine Xk.x_itd (fun z => ?_) (fun z => ?_)
    · have z' : e.2.c = c ∧ e.2.n = n := by
        injection z with z1 z2
        injection z2 with z2 _
        exact ⟨z1, z2⟩
      wtm_at "xs"
      have sz : ((R.take i).filter fun e => decide (e.2.c = c ∧ e.2.n = n)).length ≤ i := Nat.le_trans (List.length_filter_le _ _) (List.length_take_le _ _)
      have hil := Xk.at_lt he
      refine ⟨_, g2, Xk.size_lt (by rw [List.length_map]; omega), Xk.same_mut (s1.trans s2) hd, ?_⟩
      rw [upd_same, et, List.filter_append, List.map_append, List.filter_cons, if_pos (decide_eq_true z')]
      rfl
    · have z' : ¬ (e.2.c = c ∧ e.2.n = n) := fun y => z (by rw [y.1, y.2])
      wtm_at "xs"
      refine ⟨s1.trans s2, ?_⟩
      rw [et, List.filter_append, List.filter_cons, if_neg (by rw [decide_eq_false z']; decide), List.filter_nil, List.append_nil]
      exact g2
  · rintro d H1 hd ⟨s1, g1⟩
    rw [List.length_map, List.take_length] at g1
    have e0 := fnd_filter c n R
    have sz : (R.filter fun e => decide (e.2.c = c ∧ e.2.n = n)).length ≤ R.length := List.length_filter_le _ _
    wtm_at "xs"
    refine Xk.x_nocut ?_
    wtm_at "xs"
    rw [List.length_map]
    cases hf : R.filter fun e => decide (e.2.c = c ∧ e.2.n = n) with
    | nil =>
      rw [hf] at e0
      refine Xk.x_itd (fun z => ?_) (fun z => absurd rfl z)
      wtm_at "xs"
      exact q H1 _ s1 (.inl ⟨e0.symm, rfl⟩)
    | cons e r =>
      rw [hf] at e0 g1
      refine Xk.x_itd (fun z => ?_) (fun z => ?_)
      · injection z with z
        rw [List.length_cons] at z
        omega
      · wtm_at "xs"
        refine Xk.x_ixL (Xk.sq_of g1) (show atI _ ((0 : Nat) : Int) = _ from atI_nat rfl) ?_
        exact q H1 _ s1 (.inr ⟨e, e0.symm, rfl⟩)
theorem eqv_pair (c n c' n' : Int) : PyData.eqv (.tuple [.int c, .int n]) (.tuple [.int c', .int n']) = decide (c = c' ∧ n = n') := by
  show ((c == c') && ((n == n') && true)) = _
  by_cases h1 : c = c' <;> by_cases h2 : n = n' <;> simp [h1, h2]
theorem inD_names (c n : Int) (O : Os) : Xk.inD (.tuple [.int c, .int n]) (O.map fun e => PyData.tuple [.int e.2.c, .int e.2.n]) = nameIn c n O := by
  unfold Xk.inD nameIn
  rw [List.any_map]
  congr 1
  funext e
  exact eqv_pair _ _ _ _
theorem pk_names {H : Hp} : ∀ {T : List (Addr × Int × Int)}, (∀ e ∈ T, H e.1 = some (.tup [.int e.2.1, .int e.2.2])) → Xk.PkAll K H 1 (T.map fun e => V.ref e.1) (T.map fun e => PyData.tuple [.int e.2.1, .int e.2.2])
  | [], _ => Xk.pk_nil
  | e :: r, h => Xk.pk_cons (Xk.pk_tup2 (n := 0) (Xk.st_of (h e (List.mem_cons_self ..))) Xk.pk_int Xk.pk_int) (pk_names fun x hx => h x (List.mem_cons_of_mem _ hx))
def sp__law_names_fault (K : PySem.W.Frag) : Sp := fun vs H Q _ => ∃ h o R O ks, vs = [.ref h, .ref o] ∧ HsAt K ks H h R ∧ OrAt K H o O ∧ R.length ≤ 100 ∧ O.length ≤ 100 ∧ ∀ H' v, Same H H' → FtAt H' v (firstF (f1 R O) O.length) → Q v H'
theorem ok__law_names_fault (T : Txt K mg) : FnOk P w K mg base CX0 2 T.f__law_names_fault T.d__law_names_fault ["history", "order"] (sp__law_names_fault K) := by
  refine T.F__law_names_fault.ok sc__law_names_fault (fun vs H Q E h => ?_) (fun cdv A outer s H vs Q E hr h => ?_)
  · obtain ⟨h, o, R, O, ks, rfl, _⟩ := h
    rfl
  obtain ⟨h, o, R, O, ks, rfl, hH, hO, hl1, hl2, q⟩ := h
  refine ⟨_, (pss_cons (ps_for PassesOwn.never rfl (pi_range1 (by rfl) T.m_range (pa_cons (pe_callB (Xk.k_len (K := K) (by rfl)) (by rfl) T.m_len PySem.boot_len (pa_cons (pv 1) pa_nil)) pa_nil)) (pg_name (i := 2) sc__law_names_fault.nd rfl (Or.inl rfl)) (Evl.pss_cut (ps_if (pt_cmpR Xk.op_nIsN (pe_call (ok__law_record T) (hr.mono (by decide)) (by rfl) T.g__law_record T.F__law_record.kp T.b__law_record .nil pass0 (pa_cons (pv 0) (pa_cons (pe_slice sl_tupA (pe_ix (Xk.k_ixL (K := K) (by rfl)) (pv 1) (pv 2) (fun _ _ => rfl)) po_none (po_some (pe_int))) pa_nil))) (pe_non) (nomark _)) (pss_one (ps_ret (pe_tup (pa_cons (pe_str) (pa_cons (pv 2) pa_nil))))) pss_nil)
      (pss_one (ps_if (pt_cmpR (Xk.k_inD (K := K) (Xk.u65 hr) (by rfl)) (pe_slice sl_tupA (pe_ix (Xk.k_ixL (K := K) (by rfl)) (pv 1) (pv 2) (fun _ _ => rfl)) po_none (po_some (pe_int))) (pe_lc (own := [("row", 3)]) (g := gName 3) (tt := tYes) rfl sc__law_names_fault.nd  (pi_list (pe_slice (Xk.k_slL (K := K) (by rfl)) (pv 1) po_none (po_some (pv 2)))) (blkOk_by (N := N__law_names_fault) (sc := defScope s__law_names_fault) (own := [("row", 3)]) (by decide +kernel)) (fun _ _ _ _ _ => pg_name (i := 3) sc__law_names_fault.nd rfl (Or.inl rfl)) (fun _ _ _ _ _ => pts_nil) (fun _ _ _ _ _ => (pe_slice (Xk.k_slT (K := K) (by rfl)) (pv 3) po_none (po_some (pe_int))))) (by rfl)) (pss_one (ps_ret (pe_tup (pa_cons (pe_str) (pa_cons (pv 2) pa_nil))))) pss_nil))))
      (pss_one (ps_ret (pe_non)))), ?_⟩
  have hOl := hO.lst
  wtm_at "x0"
  wtm_at "xs"
  rw [List.length_map]
  refine Xk.x_range (fun i σ' H' => ∃ y2 y3 : Option V, σ' = [some (.ref h), some (.ref o), y2, y3] ∧ Same H H' ∧ ∀ j, j < i → f1 R O j = none) ⟨by omega, by omega⟩
    ⟨_, _, rfl, .refl _, fun j hj => absurd hj (Nat.not_lt_zero _)⟩ ?_ ?_
  · rintro i σ' H1 hi ⟨y2, y3, rfl, s1, hf⟩
    obtain ⟨e, he⟩ := Xk.lt_at (xs := O) (j := i) (by omega)
    have hem := List.mem_of_getElem? he
    have hil : i < O.length := Xk.at_lt he
    have hO1 := (hO.same s1).lst
    have ot1 := (hO.same s1).it e hem |>.tp
    have ft := f1_at (R := R) he
    wtm_at "xs"
    refine Xk.x_nocut ?_
    wtm_at "xs"
    refine Xk.x_slA ot1 fun p2 H2 s2 h2 => ?_
    have ec : cutV [V.int e.2.c, V.int e.2.n, V.ref e.2.p] none (some 2) = [V.int e.2.c, V.int e.2.n] := rfl
    rw [ec] at h2
    have s12 := s1.trans s2
    wtm_at "xs"
    refine ⟨h, p2, R, ks, e.2.c, e.2.n, rfl, hH.same s12, hl1, h2, fun H3 v s3 hv => ?_⟩
    have s13 := s12.trans s3
    rcases hv with ⟨hv, rfl⟩ | ⟨e2, hv, rfl⟩
    · rw [hv, if_neg (by decide)] at ft
      wtm_at "xs"
      intro p4 H4 hp4 s4 h4
      exact q H4 _ (s13.trans s4) (by rw [firstF_some hf ft hil]; exact ⟨p4, rfl, h4⟩)
    · rw [hv, Option.isSome_some, if_pos rfl] at ft
      have hO3 := (hO.same s13).lst
      have ot3 := (hO.same s13).it e hem |>.tp
      wtm_at "xs"
      refine Xk.x_slA ot3 fun p4 H4 s4 h4 => ?_
      have ec : cutV [V.int e.2.c, V.int e.2.n, V.ref e.2.p] none (some 2) = [V.int e.2.c, V.int e.2.n] := rfl
      rw [ec] at h4
      have s14 := s13.trans s4
      have hO4 := (hO.same s14).lst
      wtm_at "xs"
      intro p5 H5 hp5 s5 h5
      rw [Xk.cut_take (n := i) rfl, ← List.map_take] at h5
      have s15 := s14.trans s5
      have hO5 := hO.same s15
      wtm_at "xs"
      refine Xk.x_lcL (xs := (O.take i).map fun e => V.ref e.1) (fun d j H' => Same H5 H' ∧ ∃ U : List (Addr × Int × Int), H' d = some (.lst (U.map fun e => V.ref e.1)) ∧ (∀ u ∈ U, H' u.1 = some (.tup [.int u.2.1, .int u.2.2])) ∧ U.map (·.2) = ((O.take i).take j).map fun e => (e.2.c, e.2.n)) (Xk.sq_of h5) ?_ ?_ ?_ ?_
      · intro d hd
        exact ⟨Xk.same_fr hd, [], upd_same, fun u hu => (by cases hu), rfl⟩
      · rintro d j H' hd ⟨s6, _⟩
        exact Xk.sq_of (s6 _ _ h5)
      · rintro d hd j x H' hj ⟨s6, U, u1, u2, u3⟩
        obtain ⟨u, hu, rfl⟩ := Xk.of_map_at hj
        have ur := (hO5.it u (List.mem_of_mem_take (List.mem_of_getElem? hu))).tp
        have ur6 := s6 _ _ ur
        wtm_at "xs"
        refine ⟨rfl, ?_⟩
        wtm_at "xs"
        refine Xk.x_slA ur6 fun p7 H7 s7 h7 => ?_
        have ec : cutV [V.int u.2.c, V.int u.2.n, V.ref u.2.p] none (some 2) = [V.int u.2.c, V.int u.2.n] := rfl
        rw [ec] at h7
        have hU : U.length ≤ i := by
          have z := congrArg List.length u3
          simp only [List.length_map, List.length_take] at z
          omega
        have t14 := s7 _ _ u1
        refine ⟨_, t14, Xk.size_lt (by rw [List.length_map]; omega), Xk.same_mut (s6.trans s7) hd, U ++ [(p7, u.2.c, u.2.n)], by rw [upd_same, List.map_append]; rfl, fun z hz => ?_, ?_⟩
        · rcases List.mem_append.mp hz with hz | hz
          · exact keep_tup (s7 _ _ (u2 z hz)) t14
          · rw [List.mem_singleton.mp hz]
            exact keep_tup h7 t14
        · rw [List.map_append, u3, List.take_add_one, hu, List.map_append]
          rfl
      · rintro d H6 hd ⟨s6, U, u1, u2, u3⟩
        rw [List.length_map, List.take_length] at u3
        have e3 : (U.map fun e => PyData.tuple [.int e.2.1, .int e.2.2]) = (O.take i).map fun e => PyData.tuple [.int e.2.c, .int e.2.n] := by
          have z := congrArg (List.map fun x : Int × Int => PyData.tuple [.int x.1, .int x.2]) u3
          rw [List.map_map, List.map_map] at z
          exact z
        have pk := pk_names (K := K) u2
        rw [e3] at pk
        have h46 := (s5.trans s6) _ _ h4
        refine Xk.x_inPk (n := 1) (m := 1) (Xk.pk_tup2 (n := 0) (Xk.st_of h46) Xk.pk_int Xk.pk_int) (Xk.sq_of u1) pk ?_
        rw [inD_names]
        wtm_at "xs"
        cases hn : nameIn e.2.c e.2.n (O.take i) with
        | true =>
          have ft' : f1 R O i = some (Str.ofString "twice") := ft.trans (if_pos hn)
          wtm_at "xs"
          intro p8 H8 hp8 s8 h8
          exact q H8 _ (s15.trans (s6.trans s8)) (by rw [firstF_some hf ft' hil]; exact ⟨p8, rfl, h8⟩)
        | false =>
          have ft' : f1 R O i = none := ft.trans (if_neg (by rw [hn]; decide))
          wtm_at "xs"
          refine ⟨_, _, rfl, s15.trans s6, fun j hj => ?_⟩
          rcases Nat.lt_succ_iff_lt_or_eq.mp hj with y | rfl
          · exact hf j y
          · exact ft'
  · rintro σ' H1 ⟨y2, y3, rfl, s1, hf⟩
    wtm_at "xs"
    exact q H1 .non s1 (by rw [firstF_none (n := O.length) fun j hj => hf j (by omega)]; rfl)
--CUT--
def sp__law_answers_fault (K : PySem.W.Frag) : Sp := fun vs H Q _ => ∃ h o R O ks, vs = [.ref h, .ref o] ∧ HsAt K ks H h R ∧ OrAt K H o O ∧ ks.length ≤ 100 ∧ R.length ≤ 100 ∧ O.length ≤ 100 ∧ firstF (f1 R O) O.length = none ∧ ∀ H' v, Same H H' → FtAt H' v (firstF (f2 R O) O.length) → Q v H'
theorem ok__law_answers_fault (T : Txt K mg) : FnOk P w K mg base CX0 3 T.f__law_answers_fault T.d__law_answers_fault ["history", "order"] (sp__law_answers_fault K) := by
  refine T.F__law_answers_fault.ok sc__law_answers_fault (fun vs H Q E h => ?_) (fun cdv A outer s H vs Q E hr h => ?_)
  · obtain ⟨h, o, R, O, ks, rfl, _⟩ := h
    rfl
  obtain ⟨h, o, R, O, ks, rfl, hH, hO, hk, hl1, hl2, hf1, q⟩ := h
  have hRok : ∀ e ∈ R, RcOk ks e.2 := fun e he => (hH.it e he).rok
  refine ⟨_, (pss_cons (ps_set (i := 2) sc__law_answers_fault.nd rfl (Or.inl rfl) (pe_dnewK))
      (pss_cons (ps_for PassesOwn.never rfl (pi_range1 (by rfl) T.m_range (pa_cons (pe_callB (Xk.k_len (K := K) (by rfl)) (by rfl) T.m_len PySem.boot_len (pa_cons (pv 1) pa_nil)) pa_nil)) (pg_name (i := 3) sc__law_answers_fault.nd rfl (Or.inl rfl)) (pss_cons (ps_set (i := 4) sc__law_answers_fault.nd rfl (Or.inl rfl) (pe_call (ok__law_record T) (hr.mono (by decide)) (by rfl) T.g__law_record T.F__law_record.kp T.b__law_record .nil pass0 (pa_cons (pv 0) (pa_cons (pe_slice sl_tupA (pe_ix (Xk.k_ixL (K := K) (by rfl)) (pv 1) (pv 3) (fun _ _ => rfl)) po_none (po_some (pe_int))) pa_nil))))
      (Evl.pss_cut (ps_if (pt_cmpR (Xk.k_neD (K := K) hr.units (by rfl)) (pe_call (ok__law_do T) (hr.mono (by decide)) (by rfl) T.g__law_do T.F__law_do.kp T.b__law_do .nil pass0 (pa_cons (pv 2) (pa_cons (pe_ix (Xk.k_ixT (K := K) (by rfl)) (pv 4) (pe_int) (fun _ _ => rfl)) pa_nil))) (pe_ix (Xk.k_ixT (K := K) (by rfl)) (pe_ix (Xk.k_ixL (K := K) (by rfl)) (pv 1) (pv 3) (fun _ _ => rfl)) (pe_int) (fun _ _ => rfl)) (nomark _)) (pss_one (ps_ret (pe_tup (pa_cons (pe_str) (pa_cons (pv 3) pa_nil))))) pss_nil)
      (pss_one (ps_if (PW.pt (pw_and (pt_cmpR Xk.op_nNotN (pe_ix (Xk.k_ixT (K := K) (by rfl)) (pv 4) (pe_int) (fun _ _ => rfl)) (pe_non) (nomark _)) (pw_and1 (pt_cmpR (Xk.k_neD (K := K) hr.units (by rfl)) (pe_ix (Xk.k_ixT (K := K) (by rfl)) (pv 4) (pe_int) (fun _ _ => rfl)) (pe_ix (Xk.k_ixT (K := K) (by rfl)) (pe_ix (Xk.k_ixL (K := K) (by rfl)) (pv 1) (pv 3) (fun _ _ => rfl)) (pe_int) (fun _ _ => rfl)) (nomark _))))) (pss_one (ps_ret (pe_tup (pa_cons (pe_str) (pa_cons (pv 3) pa_nil))))) pss_nil)))))
      (pss_one (ps_ret (pe_non))))), ?_⟩
  wtm_at "x0"
  wtm_at "xs"
  intro r H0 hr s0 h0
  have hOl := (hO.same s0).lst
  wtm_at "xs"
  rw [List.length_map]
  refine Xk.x_range (fun i σ' H' => ∃ y3 y4 : Option V, σ' = [some (.ref h), some (.ref o), some (.ref r), y3, y4] ∧ Same H H' ∧ H' r = some (.dK (stB R (O.take i))) ∧ ∀ j, j < i → f2 R O j = none) ⟨by omega, by omega⟩
    ⟨_, _, rfl, s0, h0, fun j hj => absurd hj (Nat.not_lt_zero _)⟩ ?_ ?_
  · rintro i σ' H1 hi ⟨y3, y4, rfl, s1, hr1, hf⟩
    obtain ⟨o', he⟩ := Xk.lt_at (xs := O) (j := i) (by omega)
    have hem := List.mem_of_getElem? he
    have hil : i < O.length := Xk.at_lt he
    obtain ⟨e, hfe⟩ := known hf1 he
    obtain ⟨me, _, _⟩ := fnd_some hfe
    have hO1 := (hO.same s1).lst
    have ot1 := ((hO.same s1).it o' hem).tp
    have ft := f2_at he hfe
    have et : O.take (i + 1) = O.take i ++ [o'] := by
      rw [List.take_add_one, he]
      rfl
    wtm_at "xs"
    refine Xk.x_slA ot1 fun p2 H2 s2 h2 => ?_
    have ec : cutV [V.int o'.2.c, V.int o'.2.n, V.ref o'.2.p] none (some 2) = [V.int o'.2.c, V.int o'.2.n] := rfl
    rw [ec] at h2
    have s12 := s1.trans s2
    wtm_at "xs"
    refine ⟨h, p2, R, ks, o'.2.c, o'.2.n, rfl, hH.same s12, hl1, h2, fun H3 v s3 hv => ?_⟩
    have s13 := s12.trans s3
    obtain rfl : v = .ref e.1 := by
      rcases hv with ⟨z, _⟩ | ⟨e2, z, y⟩
      · rw [hfe] at z
        cases z
      · rw [hfe] at z
        cases z
        exact y
    have hr3 := (s2.trans s3) _ _ hr1
    have re3 := (hH.it e me).kt (.same s13)
    have rt3 := re3.tp
    unfold Rc.xs at rt3
    wtm_at "xs"
    refine Xk.x_nocut ?_
    wtm_at "xs"
    refine ⟨r, e.2.da, _, e.2.C, e.2.D, ks, rfl, hr3, stB_ok hRok _, hk, re3.dl, re3.kk, fun H6 q6 t6 b6 fq6 ft6 hr6 hq6 ht6 => ?_⟩
    have fine := dealW_fine (cs := e.2.C.map (·.2)) (stB_ok hRok (O.take i)) re3.rok
    have an6 := an_of (K := K) hq6 ht6 fine.2.1 fine.2.2
    have k6 : KT H3 H6 := .but b6 hr3 (by show 2 ≤ 4; decide)
    have s36 : Same H H6 := Xk.same_but b6 hr s13
    have oe6 := (hO.same s36).it o' hem
    have hO6 := (hO.same s36).lst
    have ot6 := oe6.tp
    have re6 := re3.kt k6
    have rt6 := k6.tup rt3
    have hr6' : H6 r = some (.dK (stB R (O.take (i + 1)))) := by rw [et, stB_snoc hfe]; exact hr6
    wtm_at "xs"
    refine x_neAn an6.pk oe6.an.pk ?_
    wtm_at "xs"
    have last : f2 R O i = none → ∀ j, j < i + 1 → f2 R O j = none := fun z j hj => by
      rcases Nat.lt_succ_iff_lt_or_eq.mp hj with y | rfl
      · exact hf j y
      · exact z
    cases hv : PyData.eqv (anD (dealW (stB R (O.take i)) (e.2.C.map (·.2)) (e.2.D.map (·.2))).2.1 [.tuple ((dealW (stB R (O.take i)) (e.2.C.map (·.2)) (e.2.D.map (·.2))).2.2.map pd)]) (anD o'.2.w o'.2.ds) with
    | false =>
      have ft' : f2 R O i = some (Str.ofString "wrong") := ft.trans (if_neg (by
        show ¬ PyData.eqv (anD _ _) _ = true
        rw [hv]
        decide))
      rw [show (!false) = true from rfl]
      wtm_at "xs"
      intro p7 H7 hp7 s7 h7
      exact q H7 _ (s36.trans s7) (by rw [firstF_some hf ft' hil]; exact ⟨p7, rfl, h7⟩)
    | true =>
      replace ft := ft.trans (if_pos (show PyData.eqv (dlD (dealW (stB R (O.take i)) (e.2.C.map (·.2)) (e.2.D.map (·.2)))) (anD o'.2.w o'.2.ds) = true from hv))
      rw [show (!true) = false from rfl]
      wtm_at "xs"
      rcases re6.an with ⟨v1, v2⟩ | ⟨pa, w, ds, v1, v2, v3⟩
      · rw [v1] at rt6 ⊢
        rw [v2] at ft
        wtm_at "xs"
        exact ⟨_, _, rfl, s36, hr6', last ft⟩
      · rw [v1] at rt6 ⊢
        rw [v2] at ft
        wtm_at "xs"
        refine x_neAn v3.pk oe6.an.pk ?_
        wtm_at "xs"
        cases hv2 : PyData.eqv (anD w ds) (anD o'.2.w o'.2.ds) with
        | false =>
          have ft' : f2 R O i = some (Str.ofString "other") := ft.trans (if_neg (by rw [hv2]; decide))
          rw [show (!false) = true from rfl]
          wtm_at "xs"
          intro p7 H7 hp7 s7 h7
          exact q H7 _ (s36.trans s7) (by rw [firstF_some hf ft' hil]; exact ⟨p7, rfl, h7⟩)
        | true =>
          have ft' : f2 R O i = none := ft.trans (if_pos hv2)
          rw [show (!true) = false from rfl]
          wtm_at "xs"
          exact ⟨_, _, rfl, s36, hr6', last ft'⟩
  · rintro σ' H1 ⟨y3, y4, rfl, s1, hr1, hf⟩
    wtm_at "xs"
    exact q H1 .non s1 (by rw [firstF_none (n := O.length) fun j hj => hf j (by omega)]; rfl)
--CUT--
theorem in_decd (u : Str) (ds : List PyData) : inV (.str u) [.str (Str.ofString "done"), .str (Str.ofString "unheld")] = decd (some (u, ds)) := by
  show (eqV (.str (Str.ofString "done")) (.str u) || (eqV (.str (Str.ofString "unheld")) (.str u) || false)) = (decide (u = Str.ofString "done") || decide (u = Str.ofString "unheld"))
  have k : ∀ a b : Str, eqV (.str a) (.str b) = decide (b = a) := fun a b => by
    by_cases c : b = a
    · subst c
      simp [eqV]
    · have c' : ¬ a = b := fun z => c z.symm
      simp [eqV, c, c']
  rw [k, k, Bool.or_false]
def sp__law_rest_fault (K : PySem.W.Frag) : Sp := fun vs H Q _ => ∃ h o R O ks, vs = [.ref h, .ref o] ∧ HsAt K ks H h R ∧ OrAt K H o O ∧ R.length ≤ 100 ∧ O.length ≤ 100 ∧ firstF (f1 R O) O.length = none ∧ ∀ H' v, Same H H' → FtAt H' v ((firstF (f3 R O) R.length).or (firstF (f4 R O) O.length)) → Q v H'
theorem ok__law_rest_fault (T : Txt K mg) : FnOk P w K mg base CX0 2 T.f__law_rest_fault T.d__law_rest_fault ["history", "order"] (sp__law_rest_fault K) := by
  refine T.F__law_rest_fault.ok sc__law_rest_fault (fun vs H Q E h => ?_) (fun cdv A outer s H vs Q E hr h => ?_)
  · obtain ⟨h, o, R, O, ks, rfl, _⟩ := h
    rfl
  obtain ⟨h, o, R, O, ks, rfl, hH, hO, hl1, hl2, hf1, q⟩ := h
  refine ⟨_, (pss_cons (ps_for PassesOwn.never rfl (pi_range1 (by rfl) T.m_range (pa_cons (pe_callB (Xk.k_len (K := K) (by rfl)) (by rfl) T.m_len PySem.boot_len (pa_cons (pv 0) pa_nil)) pa_nil)) (pg_name (i := 2) sc__law_rest_fault.nd rfl (Or.inl rfl)) (pss_cons (ps_set (i := 3) sc__law_rest_fault.nd rfl (Or.inl rfl) (pe_ix (Xk.k_ixL (K := K) (by rfl)) (pv 0) (pv 2) (fun _ _ => rfl)))
      (pss_one (ps_if (PW.pt (pw_and (pt_cmpR Xk.op_nNotN (pe_ix (Xk.k_ixT (K := K) (by rfl)) (pv 3) (pe_int) (fun _ _ => rfl)) (pe_non) (nomark _)) (pw_and1 (pt_cmpR (Xk.k_in (K := K) (by rfl)) (pe_ix (Xk.k_ixT (K := K) (by rfl)) (pe_ix (Xk.k_ixT (K := K) (by rfl)) (pv 3) (pe_int) (fun _ _ => rfl)) (pe_int) (fun _ _ => rfl)) (pe_lst (pa_cons (pe_str) (pa_cons (pe_str) pa_nil))) (by rfl))))) (pss_one (ps_if (pt_cmpR (Xk.k_ninD (K := K) (Xk.u65 hr) (by rfl)) (pe_slice sl_tupA (pv 3) po_none (po_some (pe_int))) (pe_lc (own := [("other", 5)]) (g := gName 5) (tt := tYes) rfl sc__law_rest_fault.nd  (pi_list (pv 1)) (blkOk_by (N := N__law_rest_fault) (sc := defScope s__law_rest_fault) (own := [("other", 5)]) (by decide +kernel)) (fun _ _ _ _ _ => pg_name (i := 5) sc__law_rest_fault.nd rfl (Or.inl rfl)) (fun _ _ _ _ _ => pts_nil) (fun _ _ _ _ _ => (pe_slice (Xk.k_slT (K := K) (by rfl)) (pv 5) po_none (po_some (pe_int))))) (by rfl)) (pss_one (ps_ret (pe_tup (pa_cons (pe_str) (pa_cons (pv 2) pa_nil))))) pss_nil)) pss_nil))))
      (pss_cons (ps_for PassesOwn.never rfl (pi_range1 (by rfl) T.m_range (pa_cons (pe_callB (Xk.k_len (K := K) (by rfl)) (by rfl) T.m_len PySem.boot_len (pa_cons (pv 1) pa_nil)) pa_nil)) (pg_name (i := 2) sc__law_rest_fault.nd rfl (Or.inl rfl)) (pss_cons (ps_set (i := 4) sc__law_rest_fault.nd rfl (Or.inl rfl) (pe_call (ok__law_record T) (hr.mono (by decide)) (by rfl) T.g__law_record T.F__law_record.kp T.b__law_record .nil pass0 (pa_cons (pv 0) (pa_cons (pe_slice sl_tupA (pe_ix (Xk.k_ixL (K := K) (by rfl)) (pv 1) (pv 2) (fun _ _ => rfl)) po_none (po_some (pe_int))) pa_nil))))
      (pss_one (ps_for PassesOwn.never rfl (pi_list (pe_slice (Xk.k_slL (K := K) (by rfl)) (pv 1) po_none (po_some (pv 2)))) (pg_name (i := 5) sc__law_rest_fault.nd rfl (Or.inl rfl)) (pss_one (ps_if (PW.pt (pw_and (pt_cmpR Xk.op_nNotN (pe_ix (Xk.k_ixT (K := K) (by rfl)) (pv 4) (pe_int) (fun _ _ => rfl)) (pe_non) (nomark _)) (pw_and1 (pt_cmpR op_lt (pe_ix (Xk.k_ixT (K := K) (by rfl)) (pv 4) (pe_int) (fun _ _ => rfl)) (pe_ix (Xk.k_ixT (K := K) (by rfl)) (pe_call (ok__law_record T) (hr.mono (by decide)) (by rfl) T.g__law_record T.F__law_record.kp T.b__law_record .nil pass0 (pa_cons (pv 0) (pa_cons (pe_slice sl_tupA (pv 5) po_none (po_some (pe_int))) pa_nil))) (pe_int) (fun _ _ => rfl)) (nomark _))))) (pss_one (ps_ret (pe_tup (pa_cons (pe_str) (pa_cons (pv 2) pa_nil))))) pss_nil))))))
      (pss_one (ps_ret (pe_non))))), ?_⟩
  have hHl := hH.lst
  wtm_at "x0"
  wtm_at "xs"
  rw [List.length_map]
  refine Xk.x_range (fun i σ' H' => ∃ y2 y3 y4 y5 : Option V, σ' = [some (.ref h), some (.ref o), y2, y3, y4, y5] ∧ Same H H' ∧ ∀ j, j < i → f3 R O j = none) ⟨by omega, by omega⟩
    ⟨_, _, _, _, rfl, .refl _, fun j hj => absurd hj (Nat.not_lt_zero _)⟩ ?_ ?_
  · rintro i σ' H1 hi ⟨y2, y3, y4, y5, rfl, s1, hf⟩
    obtain ⟨e, he⟩ := Xk.lt_at (xs := R) (j := i) (by omega)
    have hem := List.mem_of_getElem? he
    have hil : i < R.length := Xk.at_lt he
    have hH1 := (hH.same s1).lst
    have re1 := (hH.same s1).it e hem
    have rt1 := re1.tp
    unfold Rc.xs at rt1
    have ft := f3_at (O := O) he
    have last : f3 R O i = none → ∀ j, j < i + 1 → f3 R O j = none := fun z j hj => by
      rcases Nat.lt_succ_iff_lt_or_eq.mp hj with y | rfl
      · exact hf j y
      · exact z
    wtm_at "xs"
    rcases re1.an with ⟨v1, v2⟩ | ⟨pa, w, ds, v1, v2, v3⟩
    · rw [v1] at rt1 ⊢
      rw [v2] at ft
      wtm_at "xs"
      exact ⟨_, _, _, _, rfl, s1, last ft⟩
    · rw [v1] at rt1 ⊢
      rw [v2] at ft
      obtain ⟨ws, g1, g2⟩ := v3.tp
      wtm_at "xs"
      have i0 : atI (V.str w :: ws) 0 = some (V.str w) := atI_nat (xs := V.str w :: ws) (j := 0) rfl
      refine Xk.x_ixT (Xk.st_of g1) i0 ?_
      wtm_at "xs"
      intro l2 H2 hl2' s2 h2
      refine Xk.x_inL (Xk.sq_of h2) rfl rfl ?_
      rw [in_decd w ds]
      have s12 := s1.trans s2
      have rt2 := s2 _ _ rt1
      cases hd2 : decd (some (w, ds)) with
      | false =>
        rw [hd2, Bool.false_and, if_neg (by decide)] at ft
        wtm_at "xs"
        exact ⟨_, _, _, _, rfl, s12, last ft⟩
      | true =>
        rw [hd2, Bool.true_and] at ft
        wtm_at "xs"
        refine Xk.x_slA rt2 fun p4 H4 s4 h4 => ?_
        have ec : cutV [V.int e.2.c, V.int e.2.n, V.ref e.2.da, V.int e.2.k, oi e.2.e, V.ref pa] none (some 2) = [V.int e.2.c, V.int e.2.n] := rfl
        rw [ec] at h4
        have s14 := s12.trans s4
        have hO4 := hO.same s14
        have hO4l := hO4.lst
        wtm_at "xs"
        refine Xk.x_lcL (xs := O.map fun e => V.ref e.1) (fun d j H' => Same H4 H' ∧ ∃ U : List (Addr × Int × Int), H' d = some (.lst (U.map fun e => V.ref e.1)) ∧ (∀ u ∈ U, H' u.1 = some (.tup [.int u.2.1, .int u.2.2])) ∧ U.map (·.2) = (O.take j).map fun e => (e.2.c, e.2.n)) (Xk.sq_of hO4l) ?_ ?_ ?_ ?_
        · intro d hd
          exact ⟨Xk.same_fr hd, [], upd_same, fun u hu => (by cases hu), rfl⟩
        · rintro d j H' hd ⟨s6, _⟩
          exact Xk.sq_of (s6 _ _ hO4l)
        · rintro d hd j x H' hj ⟨s6, U, u1, u2, u3⟩
          obtain ⟨u, hu, rfl⟩ := Xk.of_map_at hj
          have ur6 := s6 _ _ (hO4.it u (List.mem_of_getElem? hu)).tp
          wtm_at "xs"
          refine ⟨rfl, ?_⟩
          wtm_at "xs"
          refine Xk.x_slA ur6 fun p7 H7 s7 h7 => ?_
          have ec : cutV [V.int u.2.c, V.int u.2.n, V.ref u.2.p] none (some 2) = [V.int u.2.c, V.int u.2.n] := rfl
          rw [ec] at h7
          have hU : U.length ≤ O.length := by
            have z := congrArg List.length u3
            simp only [List.length_map, List.length_take] at z
            omega
          have t14 := s7 _ _ u1
          refine ⟨_, t14, Xk.size_lt (by rw [List.length_map]; omega), Xk.same_mut (s6.trans s7) hd, U ++ [(p7, u.2.c, u.2.n)], by rw [upd_same, List.map_append]; rfl, fun z hz => ?_, ?_⟩
          · rcases List.mem_append.mp hz with hz | hz
            · exact keep_tup (s7 _ _ (u2 z hz)) t14
            · rw [List.mem_singleton.mp hz]
              exact keep_tup h7 t14
          · rw [List.map_append, u3, List.take_add_one, hu, List.map_append]
            rfl
        · rintro d H6 hd ⟨s6, U, u1, u2, u3⟩
          rw [List.length_map, List.take_length] at u3
          have e3 : (U.map fun e => PyData.tuple [.int e.2.1, .int e.2.2]) = O.map fun e => PyData.tuple [.int e.2.c, .int e.2.n] := by
            have z := congrArg (List.map fun x : Int × Int => PyData.tuple [.int x.1, .int x.2]) u3
            rw [List.map_map, List.map_map] at z
            exact z
          have pk := pk_names (K := K) u2
          rw [e3] at pk
          have h46 := s6 _ _ h4
          refine Xk.x_ninPk (n := 1) (m := 1) (Xk.pk_tup2 (n := 0) (Xk.st_of h46) Xk.pk_int Xk.pk_int) (Xk.sq_of u1) pk ?_
          rw [inD_names]
          wtm_at "xs"
          cases hn : nameIn e.2.c e.2.n O with
          | true =>
            rw [hn, if_neg (by decide)] at ft
            rw [show (!true) = false from rfl]
            wtm_at "xs"
            exact ⟨_, _, _, _, rfl, s14.trans s6, last ft⟩
          | false =>
            rw [hn, if_pos (by decide)] at ft
            rw [show (!false) = true from rfl]
            wtm_at "xs"
            intro p8 H8 hp8 s8 h8
            exact q H8 _ (s14.trans (s6.trans s8)) (by rw [firstF_some hf ft hil]; exact ⟨p8, rfl, h8⟩)
  · rintro σ' H1 ⟨y2, y3, y4, y5, rfl, s1, hf⟩
    have f30 : firstF (f3 R O) R.length = none := firstF_none fun j hj => hf j (by omega)
    rw [f30, Option.none_or] at q
    have hOl := (hO.same s1).lst
    wtm_at "xs"
    rw [List.length_map]
    refine Xk.x_range (fun i σ' H' => ∃ y2 y3 y4 y5 : Option V, σ' = [some (.ref h), some (.ref o), y2, y3, y4, y5] ∧ Same H H' ∧ ∀ j, j < i → f4 R O j = none) ⟨by omega, by omega⟩
      ⟨_, _, _, _, rfl, s1, fun j hj => absurd hj (Nat.not_lt_zero _)⟩ ?_ ?_
    · clear s1 hf hOl
      rintro i σ' H1 hi ⟨y2, y3, y4, y5, rfl, s1, hf⟩
      obtain ⟨o', he⟩ := Xk.lt_at (xs := O) (j := i) (by omega)
      have hem := List.mem_of_getElem? he
      have hil : i < O.length := Xk.at_lt he
      obtain ⟨e, hfe⟩ := known hf1 he
      obtain ⟨me, _, _⟩ := fnd_some hfe
      have hO1 := (hO.same s1).lst
      have ot1 := ((hO.same s1).it o' hem).tp
      have ft := f4_at he hfe
      have last : f4 R O i = none → ∀ j, j < i + 1 → f4 R O j = none := fun z j hj => by
        rcases Nat.lt_succ_iff_lt_or_eq.mp hj with y | rfl
        · exact hf j y
        · exact z
      wtm_at "xs"
      refine Xk.x_slA ot1 fun p2 H2 s2 h2 => ?_
      have ec : cutV [V.int o'.2.c, V.int o'.2.n, V.ref o'.2.p] none (some 2) = [V.int o'.2.c, V.int o'.2.n] := rfl
      rw [ec] at h2
      have s12 := s1.trans s2
      wtm_at "xs"
      refine ⟨h, p2, R, ks, o'.2.c, o'.2.n, rfl, hH.same s12, hl1, h2, fun H3 v s3 hv => ?_⟩
      have s13 := s12.trans s3
      obtain rfl : v = .ref e.1 := by
        rcases hv with ⟨z, _⟩ | ⟨e2, z, y⟩
        · rw [hfe] at z
          cases z
        · rw [hfe] at z
          cases z
          exact y
      have re3 := (hH.it e me).kt (.same s13)
      have rt3 := re3.tp
      unfold Rc.xs at rt3
      have hO3 := (hO.same s13).lst
      wtm_at "xs"
      intro p5 H5 hp5 s5 h5
      rw [Xk.cut_take (n := i) rfl, ← List.map_take] at h5
      have s15 := s13.trans s5
      have rt5 := s5 _ _ rt3
      refine Xk.x_forL (xs := (O.take i).map fun e => V.ref e.1) (fun j σ' H' => ∃ y5 : Option V, σ' = [some (.ref h), some (.ref o), some (.int i), y3, some (.ref e.1), y5] ∧ Same H5 H' ∧ ∀ u, e.2.e = some u → lateB R ((O.take i).take j) u = false) (Xk.sq_of h5)
        ⟨_, rfl, .refl _, fun u hu => rfl⟩ (fun j σ' H' _ ⟨_, _, s, _⟩ => Xk.sq_of (s _ _ h5)) ?_ ?_
      · rintro j x σ' H6 hj ⟨y5, rfl, s6, hlt⟩
        obtain ⟨u, hu, rfl⟩ := Xk.of_map_at hj
        have hum := List.mem_of_mem_take (List.mem_of_getElem? hu)
        have s16 := s15.trans s6
        have ur6 := ((hO.same s16).it u hum).tp
        have rt6 := s6 _ _ rt5
        obtain ⟨eu, hfu⟩ : ∃ eu, fnd u.2.c u.2.n R = some eu := by
          obtain ⟨k, hk⟩ := List.getElem?_of_mem hum
          exact known hf1 hk
        obtain ⟨mu, _, _⟩ := fnd_some hfu
        have et : (O.take i).take (j + 1) = (O.take i).take j ++ [u] := by
          rw [List.take_add_one, hu]
          rfl
        cases ee : e.2.e with
        | none =>
          rw [ee] at rt6
          change H6 e.1 = some (.tup [.int e.2.c, .int e.2.n, .ref e.2.da, .int e.2.k, .non, e.2.v]) at rt6
          wtm_at "xs"
          exact ⟨_, rfl, s6, fun u hu => (by cases hu)⟩
        | some w =>
          rw [ee] at rt6 ft
          change H6 e.1 = some (.tup [.int e.2.c, .int e.2.n, .ref e.2.da, .int e.2.k, .int w, e.2.v]) at rt6
          wtm_at "xs"
          refine Xk.x_slA ur6 fun p7 H7 s7 h7 => ?_
          have ec : cutV [V.int u.2.c, V.int u.2.n, V.ref u.2.p] none (some 2) = [V.int u.2.c, V.int u.2.n] := rfl
          rw [ec] at h7
          have s17 := s16.trans s7
          wtm_at "xs"
          refine ⟨h, p7, R, ks, u.2.c, u.2.n, rfl, hH.same s17, hl1, h7, fun H8 v s8 hv => ?_⟩
          have s18 := s17.trans s8
          obtain rfl : v = .ref eu.1 := by
            rcases hv with ⟨z, _⟩ | ⟨e2, z, y⟩
            · rw [hfu] at z
              cases z
            · rw [hfu] at z
              cases z
              exact y
          have ru8 := ((hH.it eu mu).kt (.same s18)).tp
          unfold Rc.xs at ru8
          wtm_at "xs"
          have hl3 := hlt w ee
          refine Xk.x_itd (fun c => ?_) (fun c => ?_)
          · have hlate : lateB R (O.take i) w = true := by
              unfold lateB
              refine List.any_eq_true.mpr ⟨u, List.mem_of_getElem? hu, ?_⟩
              rw [hfu]
              exact decide_eq_true c
            have ft' : f4 R O i = some (Str.ofString "late") := ft.trans (if_pos hlate)
            wtm_at "xs"
            intro p9 H9 hp9 s9 h9
            exact q H9 _ (s18.trans s9) (by rw [firstF_some hf ft' hil]; exact ⟨p9, rfl, h9⟩)
          · wtm_at "xs"
            refine ⟨_, rfl, s6.trans (s7.trans s8), fun x hx => ?_⟩
            cases hx
            rw [et, lateB_snoc hfu, hl3, decide_eq_false c]
            rfl
      · rintro σ' H6 ⟨y5, rfl, s6, hlt⟩
        rw [List.length_map, List.take_length] at hlt
        refine ⟨_, _, _, _, rfl, s15.trans s6, last ?_⟩
        cases ee : e.2.e with
        | none =>
          rw [ee] at ft
          exact ft
        | some w =>
          rw [ee] at ft
          exact ft.trans (if_neg (by rw [hlt w ee]; decide))
    · rintro σ' H1' ⟨y2, y3, y4, y5, rfl, s1', hf'⟩
      wtm_at "xs"
      exact q H1' .non s1' (by rw [firstF_none (n := O.length) fun j hj => hf' j (by omega)]; rfl)
def sp__law_fault (K : PySem.W.Frag) : Sp := fun vs H Q _ => ∃ h o R O ks, vs = [.ref h, .ref o] ∧ HsAt K ks H h R ∧ OrAt K H o O ∧ ks.length ≤ 100 ∧ R.length ≤ 100 ∧ O.length ≤ 100 ∧ ∀ H' v, Same H H' → FtAt H' v (pfault R O) → Q v H'
theorem ok__law_fault (T : Txt K mg) : FnOk P w K mg base CX0 4 T.f__law_fault T.d__law_fault ["history", "order"] (sp__law_fault K) := by
  refine T.F__law_fault.ok sc__law_fault (fun vs H Q E h => ?_) (fun cdv A outer s H vs Q E hr h => ?_)
  · obtain ⟨h, o, R, O, ks, rfl, _⟩ := h
    rfl
  obtain ⟨h, o, R, O, ks, rfl, hH, hO, hk, hl1, hl2, q⟩ := h
  refine ⟨_, (pss_cons (ps_set (i := 2) sc__law_fault.nd rfl (Or.inl rfl) (pe_call (ok__law_names_fault T) (hr.mono (by decide)) (by rfl) T.g__law_names_fault T.F__law_names_fault.kp T.b__law_names_fault .nil pass0 (pa_cons (pv 0) (pa_cons (pv 1) pa_nil))))
      (Evl.pss_cut (ps_if (pt_cmpR Xk.op_nIsN (pv 2) (pe_non) (nomark _)) (pss_one (ps_set (i := 2) sc__law_fault.nd rfl (Or.inl rfl) (pe_call (ok__law_answers_fault T) (hr.mono (by decide)) (by rfl) T.g__law_answers_fault T.F__law_answers_fault.kp T.b__law_answers_fault .nil pass0 (pa_cons (pv 0) (pa_cons (pv 1) pa_nil))))) pss_nil)
      (Evl.pss_cut (ps_if (pt_cmpR Xk.op_nIsN (pv 2) (pe_non) (nomark _)) (pss_one (ps_set (i := 2) sc__law_fault.nd rfl (Or.inl rfl) (pe_call (ok__law_rest_fault T) (hr.mono (by decide)) (by rfl) T.g__law_rest_fault T.F__law_rest_fault.kp T.b__law_rest_fault .nil pass0 (pa_cons (pv 0) (pa_cons (pv 1) pa_nil))))) pss_nil)
      (pss_one (ps_ret (pv 2)))))), ?_⟩
  wtm_at "x0"
  wtm_at "xs"
  refine ⟨h, o, R, O, ks, rfl, hH, hO, hl1, hl2, fun H2 v s2 hv => ?_⟩
  wtm_at "xs"
  refine Xk.x_cut (fun σ' H' => ∃ v : V, σ' = [some (.ref h), some (.ref o), some v] ∧ Same H H' ∧ FtAt H' v ((firstF (f1 R O) O.length).or (firstF (f2 R O) O.length))) ?_ ?_
  · wtm_at "xs"
    refine Xk.x_itd (fun c => ?_) (fun c => ?_)
    · have f0 := (ft_iff hv).mp c
      wtm_at "xs"
      refine ⟨h, o, R, O, ks, rfl, hH.same s2, hO.same s2, hk, hl1, hl2, f0, fun H3 v3 s3 hv3 => ?_⟩
      exact ⟨v3, rfl, s2.trans s3, by rw [f0]; exact hv3⟩
    · wtm_at "xs"
      exact ⟨v, rfl, s2, by rw [ft_or (fun z => c ((ft_iff hv).mpr z))]; exact hv⟩
  rintro σ' H3 ⟨v3, rfl, s3, hv3⟩
  have epf : pfault R O = ((firstF (f1 R O) O.length).or (firstF (f2 R O) O.length)).or ((firstF (f3 R O) R.length).or (firstF (f4 R O) O.length)) := Option.or_assoc ..
  refine Xk.x_cut (fun σ' H' => ∃ v : V, σ' = [some (.ref h), some (.ref o), some v] ∧ Same H H' ∧ FtAt H' v (pfault R O)) ?_ ?_
  · wtm_at "xs"
    refine Xk.x_itd (fun c => ?_) (fun c => ?_)
    · have f0 := (ft_iff hv3).mp c
      wtm_at "xs"
      refine ⟨h, o, R, O, ks, rfl, hH.same s3, hO.same s3, hl1, hl2, (Option.or_eq_none_iff.mp f0).1, fun H4 v4 s4 hv4 => ?_⟩
      exact ⟨v4, rfl, s3.trans s4, by rw [epf, f0]; exact hv4⟩
    · wtm_at "xs"
      exact ⟨v3, rfl, s3, by rw [epf, ft_or (fun z => c ((ft_iff hv3).mpr z))]; exact hv3⟩
  rintro σ' H4 ⟨v4, rfl, s4, hv4⟩
  wtm_at "xs"
  exact q H4 v4 s4 hv4
--CUT--
def clR (c n ev : Int) (v : V) (w : Option (Str × List PyData)) (r : Rc) : Rc := if r.c = c ∧ r.n = n then { r with e := some ev, v := v, w := w } else r
theorem clR_eq (c n ev : Int) (v : V) (w : Option (Str × List PyData)) (r : Rc) : (clR c n ev v w r).c = r.c ∧ (clR c n ev v w r).n = r.n ∧ (clR c n ev v w r).C = r.C ∧ (clR c n ev v w r).D = r.D ∧ (clR c n ev v w r).k = r.k ∧ (clR c n ev v w r).da = r.da := by
  unfold clR
  split <;> exact ⟨rfl, rfl, rfl, rfl, rfl, rfl⟩
def sp__law_closed (K : PySem.W.Frag) : Sp := fun vs H Q _ => ∃ a cl ev r c n d fv w, vs = [.ref a, .ref cl, .int ev] ∧ H a = some (.tup (Rc.xs r)) ∧ H cl = some (.lst [.int c, .int n, d, fv]) ∧ ∀ H' a', Same H H' → H' a' = some (.tup (clR c n ev fv w r).xs) → Q (.ref a') H'
theorem ok__law_closed (T : Txt K mg) : FnOk P w K mg base CX0 1 T.f__law_closed T.d__law_closed ["row", "call", "events"] (sp__law_closed K) := by
  refine T.F__law_closed.ok sc__law_closed (fun vs H Q E h => ?_) (fun cdv A outer s H vs Q E hr h => ?_)
  · obtain ⟨a, cl, ev, r, c, n, d, fv, w, rfl, _⟩ := h
    rfl
  obtain ⟨a, cl, ev, r, c, n, d, fv, w, rfl, ha, hc, q⟩ := h
  refine ⟨_, (Evl.pss_cut (ps_if (pt_cmpR (Xk.k_eqD (K := K) hr.units (by rfl)) (pe_slice sl_tupA (pv 0) po_none (po_some (pe_int))) (pe_tup (pa_cons (pe_ix (Xk.k_ixL (K := K) (by rfl)) (pv 1) (pe_int) (fun _ _ => rfl)) (pa_cons (pe_ix (Xk.k_ixL (K := K) (by rfl)) (pv 1) (pe_int) (fun _ _ => rfl)) pa_nil))) (nomark _)) (pss_one (ps_ret (pe_op op_catA (pe_slice sl_tupA (pv 0) po_none (po_some (pe_int))) (pe_tup (pa_cons (pv 2) (pa_cons (pe_ix (Xk.k_ixL (K := K) (by rfl)) (pv 1) (pe_int) (fun _ _ => rfl)) pa_nil)))))) pss_nil)
      (pss_one (ps_ret (pv 0)))), ?_⟩
  have ha' := ha
  unfold Rc.xs at ha'
  wtm_at "x0"
  refine Xk.x_nocut ?_
  wtm_at "xs"
  refine Xk.x_slA ha' fun p2 H2 s2 h2 => ?_
  have ec : cutV [V.int r.c, V.int r.n, V.ref r.da, V.int r.k, oi r.e, r.v] none (some 2) = [r.c, r.n].map V.int := rfl
  rw [ec] at h2
  have hc2 := s2 _ _ hc
  wtm_at "xs"
  intro p3 H3 hp3 s3 h3
  refine Xk.x_eqTInts (ns := [r.c, r.n]) (ms := [c, n]) (Xk.st_of (s3 _ _ h2)) (Xk.st_of h3) ?_
  have s23 := s2.trans s3
  have ha3 := s23 _ _ ha'
  have hc3 := s23 _ _ hc
  wtm_at "xs"
  refine Xk.x_itd (fun z => ?_) (fun z => ?_)
  · have z' : r.c = c ∧ r.n = n := by
      injection z with z1 z2
      injection z2 with z2 _
      exact ⟨z1, z2⟩
    have e : clR c n ev fv w r = { r with e := some ev, v := fv, w := w } := if_pos z'
    rw [e] at q
    wtm_at "xs"
    refine Xk.x_slA ha3 fun p4 H4 s4 h4 => ?_
    have ec : cutV [V.int r.c, V.int r.n, V.ref r.da, V.int r.k, oi r.e, r.v] none (some 4) = [V.int r.c, V.int r.n, V.ref r.da, V.int r.k] := rfl
    rw [ec] at h4
    have hc4 := s4 _ _ hc3
    wtm_at "xs"
    intro p5 H5 hp5 s5 h5
    have h45 := s5 _ _ h4
    refine Xk.x_catB h45 h5 (Nat.le_of_ble_eq_true rfl) fun p6 H6 s6 h6 => ?_
    exact q H6 p6 (s23.trans (s4.trans (s5.trans s6))) h6
  · have z' : ¬ (r.c = c ∧ r.n = n) := fun y => z (by rw [y.1, y.2])
    have e : clR c n ev fv w r = r := if_neg z'
    rw [e] at q
    wtm_at "xs"
    exact q H3 a s23 (s23 _ _ ha)
theorem busy_ok {H : Hp} {p : Addr} (h : H p = some (.tup [.str (Str.ofString "busy")])) : AnAt K H p (Str.ofString "busy") [] := ⟨⟨[], h, Xk.pk_nil⟩, by decide +kernel⟩
theorem moved_ok {H : Hp} {p t : Addr} (h : H p = some (.tup [.str (Str.ofString "moved"), .ref t])) (h' : H t = some (.tup [])) : AnAt K H p (Str.ofString "moved") [.tuple []] := ⟨⟨[.ref t], h, Xk.pk_cons (Xk.pk_tup (n := 1) (Xk.st_of h') Xk.pk_nil) Xk.pk_nil⟩, by decide +kernel⟩
/-- all but three stay -/
def But3 (a b c : Addr) (H H' : Hp) : Prop := ∀ x o, x ≠ a → x ≠ b → x ≠ c → H x = some o → H' x = some o
def sp__law_fate (K : PySem.W.Frag) : Sp := fun vs H Q _ => ∃ (b r cl o : Addr) (n : Int) (kvs : Kvs) (C : List (Addr × Ck)) (D : List (Addr × Dd)) (ks : List Str) (c m : Int) (d : Addr) (fv : V) (O : Os), vs = [.ref b, .ref r, .ref cl, .ref o] ∧ H b = some (.lst [.int n]) ∧ H r = some (.dK kvs) ∧ KvOk ks kvs ∧ ks.length ≤ 100 ∧
  H cl = some (.lst [.int c, .int m, .ref d, fv]) ∧ DlAt H d C D ∧ (∀ e ∈ D, e.2.key ∈ ks) ∧ OrAt K H o O ∧ O.length ≤ 100 ∧ b ≠ o ∧ cl ≠ b ∧ cl ≠ o ∧
  (∀ H' p w ds (n' : Int), Xk.But b H H' → H' b = some (.lst [.int n']) → AnAt K H' p w ds → decd (some (w, ds)) = false → Q (.ref p) H') ∧
  (∀ H' p oe (n' : Int), But3 b r o H H' → H' b = some (.lst [.int n']) → H' r = some (.dK (dealW kvs (C.map (·.2)) (D.map (·.2))).1) → OeAt K H' oe ⟨c, m, p, (dealW kvs (C.map (·.2)) (D.map (·.2))).2.1, [.tuple ((dealW kvs (C.map (·.2)) (D.map (·.2))).2.2.map pd)]⟩ → H' o = some (.lst (O.map (fun e => V.ref e.1) ++ [.ref oe])) → Q (.ref p) H')
theorem ok__law_fate (T : Txt K mg) : FnOk P w K mg base CX0 3 T.f__law_fate T.d__law_fate ["box", "rows", "call", "order"] (sp__law_fate K) := by
  refine T.F__law_fate.ok sc__law_fate (fun vs H Q E h => ?_) (fun cdv A outer s H vs Q E hr h => ?_)
  · obtain ⟨b, r, cl, o, n, kvs, C, D, ks, c, m, d, fv, O, rfl, _⟩ := h
    rfl
  obtain ⟨b, r, cl, o, n, kvs, C, D, ks, c, m, d, fv, O, rfl, hb, hr0, hkv, hk, hc, hD, hDk, hO, hOl, nbo, ncb, nco, q1, q2⟩ := h
  refine ⟨_, (Evl.pss_cut (ps_if (pt_cmpR op_eq (pe_call (ok__law_take T) (hr.mono (by decide)) (by rfl) T.g__law_take T.F__law_take.kp T.b__law_take .nil pass0 (pa_cons (pv 0) (pa_cons (pe_int) pa_nil))) (pe_int) (nomark _)) (pss_one (ps_ret (pe_ix (Xk.k_ixL (K := K) (by rfl)) (pe_lst (pa_cons (pe_tup (pa_cons (pe_str) pa_nil)) (pa_cons (pe_tup (pa_cons (pe_str) (pa_cons (pe_tup pa_nil) pa_nil))) pa_nil))) (pe_call (ok__law_take T) (hr.mono (by decide)) (by rfl) T.g__law_take T.F__law_take.kp T.b__law_take .nil pass0 (pa_cons (pv 0) (pa_cons (pe_int) pa_nil))) (fun _ _ => rfl)))) pss_nil)
      (pss_cons (ps_set (i := 4) sc__law_fate.nd rfl (Or.inl rfl) (pe_call (ok__law_do T) (hr.mono (by decide)) (by rfl) T.g__law_do T.F__law_do.kp T.b__law_do .nil pass0 (pa_cons (pv 1) (pa_cons (pe_ix (Xk.k_ixL (K := K) (by rfl)) (pv 2) (pe_int) (fun _ _ => rfl)) pa_nil))))
      (pss_cons (ps_expr (pe_bm PySem.F.plainAttrs_list PySem.F.slot_list_append PySem.F.type_list_append mt_append (pv 3) (pa_cons (pe_tup (pa_cons (pe_ix (Xk.k_ixL (K := K) (by rfl)) (pv 2) (pe_int) (fun _ _ => rfl)) (pa_cons (pe_ix (Xk.k_ixL (K := K) (by rfl)) (pv 2) (pe_int) (fun _ _ => rfl)) (pa_cons (pv 4) pa_nil)))) pa_nil)))
      (pss_one (ps_ret (pv 4)))))), ?_⟩
  wtm_at "x0"
  refine Xk.x_cut (fun σ' H' => ∃ n' : Int, σ' = [some (.ref b), some (.ref r), some (.ref cl), some (.ref o), none] ∧ Xk.But b H H' ∧ H' b = some (.lst [.int n'])) ?_ ?_
  · wtm_at "xs"
    refine draw (z := 6) hb ⟨by decide, by decide⟩ fun j m1 H1 hj b1 hb1 => ?_
    wtm_at "xs"
    refine Xk.x_itd (fun z => ?_) (fun z => ?_)
    · wtm_at "xs"
      intro t1 H2 ht1 s2 h2
      wtm_at "xs"
      intro t2 H3 ht2 s3 h3
      wtm_at "xs"
      intro t3 H4 ht3 s4 h4
      wtm_at "xs"
      intro l5 H5 hl5 s5 h5
      have s35 := s4.trans s5
      have s25 := s3.trans s35
      have hb5 := (s2.trans s25) _ _ hb1
      have nl5 : l5 ≠ b := (Xk.ne_new hl5 ((s2.trans (s3.trans s4)) _ _ hb1)).symm
      wtm_at "xs"
      refine draw (z := 2) hb5 ⟨by decide, by decide⟩ fun j2 m2 H6 hj2 b6 hb6 => ?_
      have b06 : Xk.But b H H6 := Xk.but_trans b1 (Xk.but_trans (Xk.but_same (s2.trans s25)) b6)
      have h56 := b6 _ _ nl5 h5
      have k1 := b6 _ _ (nk (s25 _ _ h2) hb5 (by show ¬ (0 = 3); decide)) (s25 _ _ h2)
      have k2 := b6 _ _ (nk (s35 _ _ h3) hb5 (by show ¬ (0 = 3); decide)) (s35 _ _ h3)
      have k3 := b6 _ _ (nk (s5 _ _ h4) hb5 (by show ¬ (0 = 3); decide)) (s5 _ _ h4)
      have hj2' : j2 = 0 ∨ j2 = 1 := by omega
      rcases hj2' with rfl | rfl
      · refine Xk.x_ixL (Xk.sq_of h56) (show atI _ ((0 : Nat) : Int) = _ from atI_nat rfl) ?_
        exact q1 H6 _ _ _ m2 b06 hb6 (busy_ok k1) rfl
      · refine Xk.x_ixL (Xk.sq_of h56) (show atI _ ((1 : Nat) : Int) = _ from atI_nat rfl) ?_
        exact q1 H6 _ _ _ m2 b06 hb6 (moved_ok k3 k2) rfl
    · wtm_at "xs"
      exact ⟨m1, rfl, b1, hb1⟩
  rintro σ' H1 ⟨n', rfl, b1, hb1⟩
  have hc1 := b1 _ _ ncb hc
  have hr1 := b1 _ _ (nk hr0 hb (by show ¬ (4 = 3); decide)) hr0
  have k1 : KT H H1 := .but b1 hb (by show 2 ≤ 3; decide)
  have hD1 := hD.kt k1
  wtm_at "xs"
  refine ⟨r, d, kvs, C, D, ks, rfl, hr1, hkv, hk, hD1, hDk, fun H2 q2' t2 b2 fq2 ft2 hr2 hq2 ht2 => ?_⟩
  have k2 : KT H1 H2 := .but b2 hr1 (by show 2 ≤ 4; decide)
  have fine := dealW_fine (cs := C.map (·.2)) (ds := D.map (·.2)) hkv fun e he => by
    obtain ⟨x, hx, rfl⟩ := List.mem_map.mp he
    exact ⟨hD.ok x hx, hDk x hx⟩
  have an2 := an_of (K := K) hq2 ht2 fine.2.1 fine.2.2
  have hc2 := b2 _ _ (nk hc1 hr1 (by show ¬ (3 = 4); decide)) hc1
  have ho1 := b1 _ _ nbo.symm hO.lst
  have ho2 := b2 _ _ (nk ho1 hr1 (by show ¬ (3 = 4); decide)) ho1
  wtm_at "xs"
  intro oe H3 hoe s3 h3
  have ho3 := s3 _ _ ho2
  have hz : (O.map fun e => V.ref e.1).length < 100000 := by rw [List.length_map]; omega
  wtm_at "xs"
  have kf : ∀ (x : Addr) (u : HO), x ≠ o → H3 x = some u → upd H3 o (.lst ((O.map fun e => V.ref e.1) ++ [.ref oe])) x = some u := fun x u n h => (upd_ne n).trans h
  have nro : r ≠ o := nk hr2 ho2 (by show ¬ (4 = 3); decide)
  have kt4 : KT H3 (upd H3 o (.lst ((O.map fun e => V.ref e.1) ++ [.ref oe]))) := .but (Xk.but_mut (Xk.But.refl _ _)) ho3 (by show 2 ≤ 3; decide)
  have hb2 := b2 _ _ (nk hb1 hr1 (by show ¬ (3 = 4); decide)) hb1
  refine q2 _ q2' oe n' (fun x u x1 x2 x3 hx => kf x u x3 (s3 _ _ (b2 _ _ x2 (b1 _ _ x1 hx)))) (kf _ _ nbo (s3 _ _ hb2)) (kf _ _ nro (s3 _ _ hr2)) ⟨kt4.tup h3, (an2.kt (.same s3)).kt kt4⟩ upd_same
--CUT--
structure Tr (R : Rs) (O : Os) (E : Int) (kvs : Kvs) : Prop where
  nn : Nn R
  st : kvs = stB R O
  kn : ∀ o ∈ O, ∃ e, fnd o.2.c o.2.n R = some e
  od : O.Pairwise fun a b => ¬ (a.2.c = b.2.c ∧ a.2.n = b.2.n)
  an : ∀ (k : Nat) o e, O[k]? = some o → fnd o.2.c o.2.n R = some e → dlD (dealW (stB R (O.take k)) (e.2.C.map (·.2)) (e.2.D.map (·.2))) = anD o.2.w o.2.ds
  cl : ∀ o ∈ O, ∀ e w ds, fnd o.2.c o.2.n R = some e → e.2.w = some (w, ds) → anD w ds = anD o.2.w o.2.ds
  ms : ∀ e ∈ R, decd e.2.w = true → nameIn e.2.c e.2.n O = true
  lt : ∀ (k : Nat) o e u, O[k]? = some o → fnd o.2.c o.2.n R = some e → e.2.e = some u → lateB R (O.take k) u = false
  kE : ∀ e ∈ R, e.2.k < E
  ly : ∀ o ∈ O, (anD o.2.w o.2.ds).canLay0 = true
theorem nameIn_mem {c n : Int} {O : Os} : nameIn c n O = true ↔ ∃ o ∈ O, o.2.c = c ∧ o.2.n = n := by
  unfold nameIn
  rw [List.any_eq_true]
  exact ⟨fun ⟨o, ho, h⟩ => ⟨o, ho, of_decide_eq_true h⟩, fun ⟨o, ho, h⟩ => ⟨o, ho, decide_eq_true h⟩⟩
/-- the same deals and times -/
def Ext (R R' : Rs) (O : Os) : Prop := ∀ o ∈ O, ∀ e, fnd o.2.c o.2.n R = some e → ∃ e', fnd o.2.c o.2.n R' = some e' ∧ e'.2.C = e.2.C ∧ e'.2.D = e.2.D ∧ e'.2.k = e.2.k
theorem Ext.take {R R' : Rs} {O : Os} (h : Ext R R' O) (k : Nat) : Ext R R' (O.take k) := fun o ho => h o (List.mem_of_mem_take ho)
theorem stB_ext {R R' : Rs} {O : Os} (h : Ext R R' O) (kn : ∀ o ∈ O, ∃ e, fnd o.2.c o.2.n R = some e) : stB R' O = stB R O := by
  unfold stB
  have key : ∀ (O : Os) (s : Kvs), Ext R R' O → (∀ o ∈ O, ∃ e, fnd o.2.c o.2.n R = some e) → O.foldl (stp R') s = O.foldl (stp R) s := by
    intro O
    induction O with
    | nil => exact fun _ _ _ => rfl
    | cons o r ih =>
      intro s h kn
      obtain ⟨e, he⟩ := kn o (List.mem_cons_self ..)
      obtain ⟨e', he', z1, z2, _⟩ := h o (List.mem_cons_self ..) e he
      have z : stp R' s o = stp R s o := by
        unfold stp
        rw [he, he']
        dsimp only
        rw [z1, z2]
      show r.foldl (stp R') (stp R' s o) = r.foldl (stp R) (stp R s o)
      rw [z]
      exact ih _ (fun x hx => h x (List.mem_cons_of_mem _ hx)) fun x hx => kn x (List.mem_cons_of_mem _ hx)
  exact key O [] h kn
theorem lateB_ext {R R' : Rs} {O : Os} (h : Ext R R' O) (kn : ∀ o ∈ O, ∃ e, fnd o.2.c o.2.n R = some e) (u : Int) : lateB R' O u = lateB R O u := by
  unfold lateB
  refine Bool.eq_iff_iff.mpr ?_
  rw [List.any_eq_true, List.any_eq_true]
  have key : ∀ o ∈ O, (match fnd o.2.c o.2.n R' with
    | none => false
    | some r => decide (u < r.2.k)) = (match fnd o.2.c o.2.n R with
    | none => false
    | some r => decide (u < r.2.k)) := fun o ho => by
    obtain ⟨e, he⟩ := kn o ho
    obtain ⟨e', he', _, _, z⟩ := h o ho e he
    rw [he, he']
    dsimp only
    rw [z]
  exact ⟨fun ⟨o, ho, h⟩ => ⟨o, ho, (key o ho).symm.trans h⟩, fun ⟨o, ho, h⟩ => ⟨o, ho, (key o ho).trans h⟩⟩
theorem take_kn {R : Rs} {O : Os} (kn : ∀ o ∈ O, ∃ e, fnd o.2.c o.2.n R = some e) (k : Nat) : ∀ o ∈ O.take k, ∃ e, fnd o.2.c o.2.n R = some e := fun o ho => kn o (List.mem_of_mem_take ho)
/-- true orders have no fault -/
theorem Tr.fault {R : Rs} {O : Os} {E : Int} {kvs : Kvs} (t : Tr R O E kvs) : pfault R O = none := by
  have e1 : firstF (f1 R O) O.length = none := firstF_none fun j hj => by
    obtain ⟨o, ho⟩ := Xk.lt_at (xs := O) hj
    obtain ⟨e, he⟩ := t.kn o (List.mem_of_getElem? ho)
    rw [f1_at ho, he, Option.isSome_some, if_pos rfl, if_neg]
    intro z
    obtain ⟨o2, ho2, hn⟩ := nameIn_mem.mp z
    obtain ⟨k, hk⟩ := List.getElem?_of_mem ho2
    have hkj : k < j := by have z := Xk.at_lt hk; rw [List.length_take] at z; omega
    rw [List.getElem?_take, if_pos hkj] at hk
    obtain ⟨h1, h2⟩ := List.getElem?_eq_some_iff.mp hk
    obtain ⟨h3, h4⟩ := List.getElem?_eq_some_iff.mp ho
    have z := List.pairwise_iff_getElem.mp t.od k j h1 h3 hkj
    rw [h2, h4] at z
    exact z hn
  have e2 : firstF (f2 R O) O.length = none := firstF_none fun j hj => by
    obtain ⟨o, ho⟩ := Xk.lt_at (xs := O) hj
    have hm := List.mem_of_getElem? ho
    obtain ⟨e, he⟩ := t.kn o hm
    have ly := SeqAt.eqv_refl _ (t.ly o hm)
    rw [f2_at ho he, t.an j o e ho he, ly, if_pos rfl]
    cases hw : e.2.w with
    | none => rfl
    | some x =>
      obtain ⟨w, ds⟩ := x
      dsimp only
      rw [t.cl o hm e w ds he hw, ly, if_pos rfl]
  have e3 : firstF (f3 R O) R.length = none := firstF_none fun j hj => by
    obtain ⟨e, he⟩ := Xk.lt_at (xs := R) hj
    rw [f3_at he, if_neg]
    intro z
    obtain ⟨z1, z2⟩ := Bool.and_eq_true_iff.mp z
    rw [t.ms e (List.mem_of_getElem? he) z1] at z2
    cases z2
  have e4 : firstF (f4 R O) O.length = none := firstF_none fun j hj => by
    obtain ⟨o, ho⟩ := Xk.lt_at (xs := O) hj
    obtain ⟨e, he⟩ := t.kn o (List.mem_of_getElem? ho)
    rw [f4_at ho he]
    cases hu : e.2.e with
    | none => rfl
    | some u =>
      dsimp only
      rw [t.lt j o e u ho he hu, if_neg (by decide)]
  unfold pfault
  rw [e1, e2, e3, e4]
  rfl
theorem Tr.app {R : Rs} {O : Os} {E : Int} {kvs : Kvs} (t : Tr R O E kvs) {x : Addr × Rc} (hn : ∀ e ∈ R, ¬ (e.2.c = x.2.c ∧ e.2.n = x.2.n)) (h1 : x.2.e = none) (h2 : x.2.w = none) (h3 : x.2.k = E) : Tr (R ++ [x]) O (E + 1) kvs := by
  have hf : ∀ o ∈ O, fnd o.2.c o.2.n (R ++ [x]) = fnd o.2.c o.2.n R := fun o ho => by
    obtain ⟨e, he⟩ := t.kn o ho
    rw [fnd_snoc, he]
    rfl
  have hx : Ext R (R ++ [x]) O := fun o ho e he => ⟨e, by rw [hf o ho]; exact he, rfl, rfl, rfl⟩
  refine ⟨?_, ?_, fun o ho => ?_, t.od, fun k o e ho he => ?_, fun o ho e w ds he hw => ?_, fun e he hd => ?_, fun k o e u ho he hu => ?_, fun e he => ?_, t.ly⟩
  · refine List.pairwise_append.mpr ⟨t.nn, List.pairwise_singleton _ _, fun a ha b hb => ?_⟩
    rw [List.mem_singleton.mp hb]
    exact hn a ha
  · rw [stB_ext hx t.kn]
    exact t.st
  · rw [hf o ho]
    exact t.kn o ho
  · rw [hf o (List.mem_of_getElem? ho)] at he
    rw [stB_ext (hx.take k) (take_kn t.kn k)]
    exact t.an k o e ho he
  · rw [hf o ho] at he
    exact t.cl o ho e w ds he hw
  · rcases List.mem_append.mp he with he | he
    · exact t.ms e he hd
    · rw [List.mem_singleton.mp he, h2] at hd
      cases hd
  · rw [hf o (List.mem_of_getElem? ho)] at he
    rw [lateB_ext (hx.take k) (take_kn t.kn k)]
    exact t.lt k o e u ho he hu
  · rcases List.mem_append.mp he with he | he
    · have z := t.kE e he
      omega
    · rw [List.mem_singleton.mp he, h3]
      omega
theorem snoc_at {α : Type} {l : List α} {a x : α} {k : Nat} (h : (l ++ [a])[k]? = some x) : (k < l.length ∧ l[k]? = some x) ∨ (k = l.length ∧ x = a) := by
  by_cases c : k < l.length
  · rw [List.getElem?_append_left c] at h
    exact .inl ⟨c, h⟩
  · rw [List.getElem?_append_right (by omega)] at h
    cases z : k - l.length with
    | zero =>
      rw [z] at h
      cases h
      exact .inr ⟨by omega, rfl⟩
    | succ m =>
      rw [z] at h
      cases h
theorem Tr.dec {R : Rs} {O : Os} {E : Int} {kvs : Kvs} (t : Tr R O E kvs) {o : Addr × Oe} {e : Addr × Rc} (he : fnd o.2.c o.2.n R = some e) (hn : nameIn o.2.c o.2.n O = false) (h1 : e.2.e = none) (h2 : e.2.w = none)
    (ha : dlD (dealW kvs (e.2.C.map (·.2)) (e.2.D.map (·.2))) = anD o.2.w o.2.ds) (hl : (anD o.2.w o.2.ds).canLay0 = true) : Tr R (O ++ [o]) E (dealW kvs (e.2.C.map (·.2)) (e.2.D.map (·.2))).1 := by
  refine ⟨t.nn, ?_, fun o' ho => ?_, ?_, fun k o' e' ho he' => ?_, fun o' ho e' w ds he' hw => ?_, fun e' he' hd => ?_, fun k o' e' u ho he' hu => ?_, t.kE, fun o' ho => ?_⟩
  · rw [stB_snoc he, t.st]
  · rcases List.mem_append.mp ho with ho | ho
    · exact t.kn o' ho
    · rw [List.mem_singleton.mp ho]
      exact ⟨e, he⟩
  · refine List.pairwise_append.mpr ⟨t.od, List.pairwise_singleton _ _, fun a ha b hb z => ?_⟩
    rw [List.mem_singleton.mp hb] at z
    have y := nameIn_mem.mpr ⟨a, ha, z⟩
    rw [hn] at y
    cases y
  · rcases snoc_at ho with ⟨hk, ho⟩ | ⟨rfl, rfl⟩
    · rw [List.take_append_of_le_length (Nat.le_of_lt hk)]
      exact t.an k o' e' ho he'
    · rw [he] at he'
      cases he'
      rw [List.take_append_of_le_length (Nat.le_refl _), List.take_length, ← t.st]
      exact ha
  · rcases List.mem_append.mp ho with ho | ho
    · exact t.cl o' ho e' w ds he' hw
    · rw [List.mem_singleton.mp ho, he] at he'
      cases he'
      rw [h2] at hw
      cases hw
  · rw [nameIn_snoc, t.ms e' he' hd]
    rfl
  · rcases snoc_at ho with ⟨hk, ho⟩ | ⟨rfl, rfl⟩
    · rw [List.take_append_of_le_length (Nat.le_of_lt hk)]
      exact t.lt k o' e' u ho he' hu
    · rw [he] at he'
      cases he'
      rw [h1] at hu
      cases hu
  · rcases List.mem_append.mp ho with ho | ho
    · exact t.ly o' ho
    · rw [List.mem_singleton.mp ho]
      exact hl
theorem fnd_map {c n : Int} {g : Rc → Rc} (hg : ∀ r, (g r).c = r.c ∧ (g r).n = r.n) : ∀ {R R' : Rs}, R'.map (·.2) = (R.map (·.2)).map g → (fnd c n R').map (·.2) = (fnd c n R).map fun e => g e.2
  | [], [], _ => rfl
  | [], _ :: _, h => by cases h
  | _ :: _, [], h => by cases h
  | a :: r, b :: r', h => by
    rw [List.map_cons, List.map_cons, List.map_cons] at h
    injection h with h1 h2
    rw [fnd_cons, fnd_cons, h1, (hg a.2).1, (hg a.2).2]
    by_cases z : a.2.c = c ∧ a.2.n = n
    · rw [if_pos z, if_pos z]
      show some b.2 = some (g a.2)
      rw [h1]
    · rw [if_neg z, if_neg z]
      exact fnd_map hg h2
theorem Tr.close {R R' : Rs} {O : Os} {E : Int} {kvs : Kvs} (t : Tr R O E kvs) {c n : Int} {v : V} {u : Str} {ds : List PyData} (hR : R'.map (·.2) = (R.map (·.2)).map (clR c n E v (some (u, ds))))
    (hf : (decd (some (u, ds)) = false ∧ nameIn c n O = false) ∨ ∃ o ∈ O, (o.2.c = c ∧ o.2.n = n) ∧ anD u ds = anD o.2.w o.2.ds) : Tr R' O E kvs := by
  have hg : ∀ r, (clR c n E v (some (u, ds)) r).c = r.c ∧ (clR c n E v (some (u, ds)) r).n = r.n := fun r => ⟨(clR_eq ..).1, (clR_eq ..).2.1⟩
  have key : ∀ c' n' e', fnd c' n' R' = some e' → ∃ e, fnd c' n' R = some e ∧ e'.2 = clR c n E v (some (u, ds)) e.2 := fun c' n' e' h => by
    have z := fnd_map (c := c') (n := n') hg hR
    rw [h] at z
    cases y : fnd c' n' R with
    | none => rw [y] at z; cases z
    | some e =>
      rw [y] at z
      exact ⟨e, rfl, Option.some.inj z⟩
  have hx : Ext R R' O := fun o ho e he => by
    have z := fnd_map (c := o.2.c) (n := o.2.n) hg hR
    rw [he] at z
    obtain ⟨e', h1, h2⟩ := Option.map_eq_some_iff.mp z
    have q := clR_eq c n E v (some (u, ds)) e.2
    exact ⟨e', h1, by rw [h2]; exact q.2.2.1, by rw [h2]; exact q.2.2.2.1, by rw [h2]; exact q.2.2.2.2.1⟩
  have mem : ∀ e' ∈ R', ∃ e ∈ R, e'.2 = clR c n E v (some (u, ds)) e.2 := fun e' he' => by
    have z : e'.2 ∈ (R.map (·.2)).map (clR c n E v (some (u, ds))) := by rw [← hR]; exact List.mem_map_of_mem he'
    obtain ⟨r, hr, e1⟩ := List.mem_map.mp z
    obtain ⟨e, he, rfl⟩ := List.mem_map.mp hr
    exact ⟨e, he, e1.symm⟩
  have one : ∀ o1 ∈ O, ∀ o2 ∈ O, o1.2.c = o2.2.c ∧ o1.2.n = o2.2.n → o1 = o2 := fun o1 h1 o2 h2 h => by
    obtain ⟨k1, g1⟩ := List.getElem?_of_mem h1
    obtain ⟨k2, g2⟩ := List.getElem?_of_mem h2
    obtain ⟨a1, a2⟩ := List.getElem?_eq_some_iff.mp g1
    obtain ⟨b1, b2⟩ := List.getElem?_eq_some_iff.mp g2
    rcases Nat.lt_trichotomy k1 k2 with l | l | l
    · have z := List.pairwise_iff_getElem.mp t.od k1 k2 a1 b1 l
      rw [a2, b2] at z
      exact absurd h z
    · subst l
      rw [g1] at g2
      exact Option.some.inj g2
    · have z := List.pairwise_iff_getElem.mp t.od k2 k1 b1 a1 l
      rw [a2, b2] at z
      exact absurd ⟨h.1.symm, h.2.symm⟩ z
  refine ⟨?_, ?_, fun o ho => ?_, t.od, fun k o e' ho he' => ?_, fun o ho e' w ds' he' hw => ?_, fun e' he' hd => ?_, fun k o e' u' ho he' hu => ?_, fun e' he' => ?_, t.ly⟩
  · have z : (R'.map (·.2)).Pairwise fun a b => ¬ (a.c = b.c ∧ a.n = b.n) := by
      rw [hR]
      refine List.pairwise_map.mpr (List.pairwise_map.mpr (t.nn.imp fun {a b} h y => h ?_))
      rw [(hg a.2).1, (hg a.2).2, (hg b.2).1, (hg b.2).2] at y
      exact y
    exact List.pairwise_map.mp z
  · rw [stB_ext hx t.kn]
    exact t.st
  · obtain ⟨e, he⟩ := t.kn o ho
    obtain ⟨e', he', _⟩ := hx o ho e he
    exact ⟨e', he'⟩
  · obtain ⟨e, he, q⟩ := key _ _ _ he'
    have q2 := clR_eq c n E v (some (u, ds)) e.2
    rw [stB_ext (hx.take k) (take_kn t.kn k), q, q2.2.2.1, q2.2.2.2.1]
    exact t.an k o e ho he
  · obtain ⟨e, he, q⟩ := key _ _ _ he'
    obtain ⟨_, m1, m2⟩ := fnd_some he
    by_cases z : e.2.c = c ∧ e.2.n = n
    · have y : clR c n E v (some (u, ds)) e.2 = { e.2 with e := some E, v := v, w := some (u, ds) } := if_pos z
      rw [q, y] at hw
      cases hw
      rcases hf with ⟨_, hf⟩ | ⟨o2, ho2, hn2, ha⟩
      · have w := nameIn_mem.mpr ⟨o, ho, m1.symm.trans z.1, m2.symm.trans z.2⟩
        rw [hf] at w
        cases w
      · rw [one o ho o2 ho2 ⟨(m1.symm.trans z.1).trans hn2.1.symm, (m2.symm.trans z.2).trans hn2.2.symm⟩]
        exact ha
    · have y : clR c n E v (some (u, ds)) e.2 = e.2 := if_neg z
      rw [q, y] at hw
      exact t.cl o ho e w ds' he hw
  · obtain ⟨e, he, q⟩ := mem e' he'
    have q2 := hg e.2
    rw [q, q2.1, q2.2]
    rw [q] at hd
    by_cases z : e.2.c = c ∧ e.2.n = n
    · have y : clR c n E v (some (u, ds)) e.2 = { e.2 with e := some E, v := v, w := some (u, ds) } := if_pos z
      rw [y] at hd
      rcases hf with ⟨hf, _⟩ | ⟨o2, ho2, hn2, ha⟩
      · rw [hf] at hd
        cases hd
      · rw [z.1, z.2]
        exact nameIn_mem.mpr ⟨o2, ho2, hn2⟩
    · have y : clR c n E v (some (u, ds)) e.2 = e.2 := if_neg z
      rw [y] at hd
      exact t.ms e he hd
  · obtain ⟨e, he, q⟩ := key _ _ _ he'
    rw [lateB_ext (hx.take k) (take_kn t.kn k)]
    by_cases z : e.2.c = c ∧ e.2.n = n
    · have y : clR c n E v (some (u, ds)) e.2 = { e.2 with e := some E, v := v, w := some (u, ds) } := if_pos z
      rw [q, y] at hu
      cases hu
      unfold lateB
      refine Bool.eq_false_iff.mpr fun w => ?_
      obtain ⟨o2, ho2, h3⟩ := List.any_eq_true.mp w
      obtain ⟨e2, he2⟩ := t.kn o2 (List.mem_of_mem_take ho2)
      rw [he2] at h3
      have h4 : E < e2.2.k := of_decide_eq_true h3
      have h5 := t.kE e2 (fnd_some he2).1
      omega
    · have y : clR c n E v (some (u, ds)) e.2 = e.2 := if_neg z
      rw [q, y] at hu
      exact t.lt k o e u' ho he hu
  · obtain ⟨e, he, q⟩ := mem e' he'
    have q2 := clR_eq c n E v (some (u, ds)) e.2
    rw [q, q2.2.2.2.2.1]
    exact t.kE e he
theorem Tr.le {R : Rs} {O : Os} {E E' : Int} {kvs : Kvs} (t : Tr R O E kvs) (h : E ≤ E') : Tr R O E' kvs := { t with kE := fun e he => by have z := t.kE e he; omega }
--CUT--
structure Oc where
  a : Addr
  c : Int
  n : Int
  da : Addr
  C : List (Addr × Ck)
  D : List (Addr × Dd)
  v : V
  w : Option (Str × List PyData)
def Oc.xs (z : Oc) : List V := [.int z.c, .int z.n, .ref z.da, z.v]
structure OcAt (K : PySem.W.Frag) (ks : List Str) (H : Hp) (z : Oc) : Prop where
  lst : H z.a = some (.lst z.xs)
  dl : DlAt H z.da z.C z.D
  kk : ∀ e ∈ z.D, e.2.key ∈ ks
  an : AnO K H z.v z.w
structure Hw (K : PySem.W.Frag) (ks : List Str) (H0 H : Hp) (r o h oc nm : Addr) (kvs : Kvs) (R : Rs) (O : Os) (Z : List Oc) (ns : List Int) : Prop where
  sm : Same H0 H
  f1 : Xk.Fr r H0
  f2 : Xk.Fr o H0
  f3 : Xk.Fr h H0
  f4 : Xk.Fr oc H0
  f5 : Xk.Fr nm H0
  f6 : ∀ z ∈ Z, Xk.Fr z.a H0
  hr : H r = some (.dK kvs)
  ho : OrAt K H o O
  hh : HsAt K ks H h R
  hoc : H oc = some (.lst (Z.map fun z => V.ref z.a))
  hz : ∀ z ∈ Z, OcAt K ks H z
  hnm : H nm = some (.lst (ns.map V.int))
  ad : (o :: h :: oc :: nm :: Z.map Oc.a).Nodup
structure Op (R : Rs) (O : Os) (Z : List Oc) (ns : List Int) : Prop where
  rc : ∀ z ∈ Z, ∃ e, fnd z.c z.n R = some e ∧ e.2.C = z.C ∧ e.2.D = z.D ∧ e.2.e = none ∧ e.2.w = none
  un : ∀ z ∈ Z, z.w = none → nameIn z.c z.n O = false
  dn : ∀ z ∈ Z, ∀ u ds, z.w = some (u, ds) → (decd (some (u, ds)) = false ∧ nameIn z.c z.n O = false) ∨ ∃ o ∈ O, (o.2.c = z.c ∧ o.2.n = z.n) ∧ anD u ds = anD o.2.w o.2.ds
  nd : (Z.map Oc.c).Nodup
  nl : ns.length = 4
  up : ∀ e ∈ R, ∃ (j : Nat) (m : Int), e.2.c = (j : Int) ∧ ns[j]? = some m ∧ e.2.n ≤ m
theorem map_set_eq {α β : Type} {f : α → β} {l : List α} {i : Nat} {x y : α} (h : l[i]? = some x) (e : f y = f x) : (l.set i y).map f = l.map f := by
  refine List.ext_getElem? fun k => ?_
  rw [List.getElem?_map, List.getElem?_map, List.getElem?_set]
  by_cases c : i = k
  · subst c
    rw [if_pos rfl, h, if_pos (Xk.at_lt h)]
    show some (f y) = some (f x)
    rw [e]
  · rw [if_neg c]
theorem set_mem {α : Type} {l : List α} {i : Nat} {x' y : α} (hy : y ∈ l.set i x') : y = x' ∨ ∃ k, k ≠ i ∧ l[k]? = some y := by
  obtain ⟨k, hk⟩ := List.getElem?_of_mem hy
  rw [List.getElem?_set] at hk
  by_cases c : i = k
  · subst c
    rw [if_pos rfl] at hk
    split at hk
    · cases hk
      exact .inl rfl
    · cases hk
  · rw [if_neg c] at hk
    exact .inr ⟨k, fun z => c z.symm, hk⟩
theorem nd_ne {α β : Type} {f : α → β} {l : List α} (n : (l.map f).Nodup) {i j : Nat} {x y : α} (hi : l[i]? = some x) (hj : l[j]? = some y) (h : i ≠ j) : f x ≠ f y := fun e => by
  have h1 : (l.map f)[i]? = some (f x) := Xk.map_at hi
  have h2 : (l.map f)[j]? = some (f x) := by rw [e]; exact Xk.map_at hj
  exact h ((List.getElem?_inj (Xk.at_lt h1) n).mp (h1.trans h2.symm))
theorem Op.set {R : Rs} {O : Os} {Z : List Oc} {ns : List Int} (p : Op R O Z ns) {j : Nat} {z : Oc} (hz : Z[j]? = some z) (hw : z.w = none) {v : V} {u : Str} {ds : List PyData} (hd : decd (some (u, ds)) = false) :
    Op R O (Z.set j { z with v := v, w := some (u, ds) }) ns := by
  have hm := List.mem_of_getElem? hz
  refine ⟨fun y hy => ?_, fun y hy hyw => ?_, fun y hy u' ds' hyw => ?_, ?_, p.nl, p.up⟩
  · rcases set_mem hy with rfl | ⟨k, _, hk⟩
    · exact p.rc z hm
    · exact p.rc y (List.mem_of_getElem? hk)
  · rcases set_mem hy with rfl | ⟨k, _, hk⟩
    · cases hyw
    · exact p.un y (List.mem_of_getElem? hk) hyw
  · rcases set_mem hy with rfl | ⟨k, _, hk⟩
    · cases hyw
      exact .inl ⟨hd, p.un z hm hw⟩
    · exact p.dn y (List.mem_of_getElem? hk) u' ds' hyw
  · rw [map_set_eq (f := Oc.c) (y := { z with v := v, w := some (u, ds) }) hz rfl]
    exact p.nd
theorem Op.dec {R : Rs} {O : Os} {Z : List Oc} {ns : List Int} (p : Op R O Z ns) {j : Nat} {z : Oc} (hz : Z[j]? = some z) {v : V} {o : Addr × Oe} (hc : o.2.c = z.c) (hn : o.2.n = z.n) :
    Op R (O ++ [o]) (Z.set j { z with v := v, w := some (o.2.w, o.2.ds) }) ns := by
  have hm := List.mem_of_getElem? hz
  have off : ∀ (k : Nat) (y : Oc), k ≠ j → Z[k]? = some y → nameIn y.c y.n O = false → nameIn y.c y.n (O ++ [o]) = false := fun k y hk hy h => by
    rw [nameIn_snoc, h, Bool.false_or]
    exact decide_eq_false fun e => nd_ne p.nd hy hz hk (by rw [← e.1, hc])
  refine ⟨fun y hy => ?_, fun y hy hyw => ?_, fun y hy u' ds' hyw => ?_, ?_, p.nl, p.up⟩
  · rcases set_mem hy with rfl | ⟨k, _, hk⟩
    · exact p.rc z hm
    · exact p.rc y (List.mem_of_getElem? hk)
  · rcases set_mem hy with rfl | ⟨k, hkj, hk⟩
    · cases hyw
    · exact off k y hkj hk (p.un y (List.mem_of_getElem? hk) hyw)
  · rcases set_mem hy with rfl | ⟨k, hkj, hk⟩
    · cases hyw
      exact .inr ⟨o, List.mem_append_right _ (List.mem_singleton.mpr rfl), ⟨hc, hn⟩, rfl⟩
    · rcases p.dn y (List.mem_of_getElem? hk) u' ds' hyw with ⟨h1, h2⟩ | ⟨o2, h1, h2⟩
      · exact .inl ⟨h1, off k y hkj hk h2⟩
      · exact .inr ⟨o2, List.mem_append_left _ h1, h2⟩
  · rw [map_set_eq (f := Oc.c) (y := { z with v := v, w := some (o.2.w, o.2.ds) }) hz rfl]
    exact p.nd
theorem Op.ask {R : Rs} {O : Os} {Z : List Oc} {ns : List Int} {E : Int} {kvs : Kvs} (p : Op R O Z ns) (t : Tr R O E kvs) {j : Nat} {m : Int} (hm : ns[j]? = some m) (hc : ∀ z ∈ Z, z.c ≠ (j : Int)) {a a' da : Addr} {C : List (Addr × Ck)} {D : List (Addr × Dd)} :
    Op (R ++ [(a, ⟨j, m + 1, da, C, D, E, none, .non, none⟩)]) O (Z ++ [⟨a', j, m + 1, da, C, D, .non, none⟩]) (ns.set j (m + 1)) ∧ (∀ e ∈ R, ¬ (e.2.c = (j : Int) ∧ e.2.n = m + 1)) := by
  have fresh : ∀ e ∈ R, ¬ (e.2.c = (j : Int) ∧ e.2.n = m + 1) := fun e he y => by
    obtain ⟨j', m', h1, h2, h3⟩ := p.up e he
    have e1 : j' = j := by omega
    rw [e1, hm] at h2
    cases h2
    omega
  have hjl := Xk.at_lt hm
  refine ⟨⟨fun y hy => ?_, fun y hy hyw => ?_, fun y hy u' ds' hyw => ?_, ?_, by rw [List.length_set]; exact p.nl, fun e he => ?_⟩, fresh⟩
  · rcases List.mem_append.mp hy with hy | hy
    · obtain ⟨e, h1, h2⟩ := p.rc y hy
      exact ⟨e, by rw [fnd_snoc, h1]; rfl, h2⟩
    · rw [List.mem_singleton.mp hy]
      refine ⟨(a, ⟨j, m + 1, da, C, D, E, none, .non, none⟩), ?_, rfl, rfl, rfl, rfl⟩
      rw [fnd_snoc]
      have hno : fnd (j : Int) (m + 1) R = none := by
        cases c : fnd (j : Int) (m + 1) R with
        | none => rfl
        | some e =>
          obtain ⟨h1, h2⟩ := fnd_some c
          exact absurd h2 (fresh e h1)
      show (fnd (j : Int) (m + 1) R).or _ = _
      rw [hno, if_pos ⟨rfl, rfl⟩]
      rfl
  · rcases List.mem_append.mp hy with hy | hy
    · exact p.un y hy hyw
    · rw [List.mem_singleton.mp hy]
      refine Bool.eq_false_iff.mpr fun z => ?_
      obtain ⟨o, ho, h1, h2⟩ := nameIn_mem.mp z
      obtain ⟨e, he⟩ := t.kn o ho
      obtain ⟨h3, h4, h5⟩ := fnd_some he
      exact fresh e h3 ⟨h4.trans h1, h5.trans h2⟩
  · rcases List.mem_append.mp hy with hy | hy
    · exact p.dn y hy u' ds' hyw
    · rw [List.mem_singleton.mp hy] at hyw
      cases hyw
  · rw [List.map_append]
    refine List.nodup_append.mpr ⟨p.nd, List.pairwise_singleton _ _, fun x hx y hy e => ?_⟩
    obtain ⟨z, hz, rfl⟩ := List.mem_map.mp hx
    rw [List.mem_singleton.mp hy] at e
    exact hc z hz e
  · rcases List.mem_append.mp he with he | he
    · obtain ⟨j', m', h1, h2, h3⟩ := p.up e he
      by_cases c : j = j'
      · subst c
        rw [hm] at h2
        cases h2
        exact ⟨j, m + 1, h1, List.getElem?_set_self hjl, by omega⟩
      · exact ⟨j', m', h1, by rw [List.getElem?_set_ne c]; exact h2, h3⟩
    · rw [List.mem_singleton.mp he]
      exact ⟨j, m + 1, rfl, List.getElem?_set_self hjl, Int.le_refl _⟩
theorem Op.close {R R' : Rs} {O : Os} {Z : List Oc} {ns : List Int} (p : Op R O Z ns) {c n E : Int} {v : V} {w : Option (Str × List PyData)} (hR : R'.map (·.2) = (R.map (·.2)).map (clR c n E v w)) : Op R' O (Z.filter fun z => !decide (z.c = c)) ns := by
  have hg : ∀ r, (clR c n E v w r).c = r.c ∧ (clR c n E v w r).n = r.n := fun r => ⟨(clR_eq ..).1, (clR_eq ..).2.1⟩
  have sub : ∀ y, y ∈ Z.filter (fun z => !decide (z.c = c)) → y ∈ Z ∧ y.c ≠ c := fun y hy => by
    obtain ⟨h1, h2⟩ := List.mem_filter.mp hy
    refine ⟨h1, fun z => ?_⟩
    rw [decide_eq_true z] at h2
    cases h2
  refine ⟨fun y hy => ?_, fun y hy hyw => p.un y (sub y hy).1 hyw, fun y hy => p.dn y (sub y hy).1, p.nd.sublist ((List.filter_sublist).map _), p.nl, fun e' he' => ?_⟩
  · obtain ⟨h1, h2⟩ := sub y hy
    obtain ⟨e, g1, g2⟩ := p.rc y h1
    have z := fnd_map (c := y.c) (n := y.n) hg hR
    rw [g1] at z
    obtain ⟨e', k1, k2⟩ := Option.map_eq_some_iff.mp z
    have q : clR c n E v w e.2 = e.2 := if_neg fun u => h2 (by rw [← u.1]; exact (fnd_some g1).2.1.symm)
    refine ⟨e', k1, ?_⟩
    rw [k2]
    show (clR c n E v w e.2).C = y.C ∧ (clR c n E v w e.2).D = y.D ∧ (clR c n E v w e.2).e = none ∧ (clR c n E v w e.2).w = none
    rw [q]
    exact g2
  · have z : e'.2 ∈ (R.map (·.2)).map (clR c n E v w) := by rw [← hR]; exact List.mem_map_of_mem he'
    obtain ⟨r, hr, e1⟩ := List.mem_map.mp z
    obtain ⟨e, he, rfl⟩ := List.mem_map.mp hr
    obtain ⟨j, m, h1, h2, h3⟩ := p.up e he
    exact ⟨j, m, by rw [← e1, (hg e.2).1]; exact h1, h2, by rw [← e1, (hg e.2).2]; exact h3⟩
theorem OcAt.kt {ks : List Str} {H H' : Hp} {z : Oc} (g : OcAt K ks H z) (k : KT H H') (h : H' z.a = some (.lst z.xs)) : OcAt K ks H' z := ⟨h, g.dl.kt k, g.kk, g.an.kt k⟩
theorem Hw.same {ks : List Str} {H0 H H' : Hp} {r o h oc nm : Addr} {kvs : Kvs} {R : Rs} {O : Os} {Z : List Oc} {ns : List Int} (w : Hw K ks H0 H r o h oc nm kvs R O Z ns) (s : Same H H') : Hw K ks H0 H' r o h oc nm kvs R O Z ns :=
  ⟨w.sm.trans s, w.f1, w.f2, w.f3, w.f4, w.f5, w.f6, s _ _ w.hr, w.ho.same s, w.hh.same s, s _ _ w.hoc, fun z hz => (w.hz z hz).kt (.same s) (s _ _ (w.hz z hz).lst), s _ _ w.hnm, w.ad⟩
/-- a box that is none of them -/
structure Bx (H0 H : Hp) (b : Addr) (n : Int) (o h oc nm : Addr) (Z : List Oc) : Prop where
  at_ : H b = some (.lst [.int n])
  fr : Xk.Fr b H0
  no : b ∉ o :: h :: oc :: nm :: Z.map Oc.a
theorem Hw.box {ks : List Str} {H0 H H' : Hp} {r o h oc nm b : Addr} {n : Int} {kvs : Kvs} {R : Rs} {O : Os} {Z : List Oc} {ns : List Int} (w : Hw K ks H0 H r o h oc nm kvs R O Z ns) (x : Bx H0 H b n o h oc nm Z) (k : Xk.But b H H') : Hw K ks H0 H' r o h oc nm kvs R O Z ns := by
  have no := x.no
  simp only [List.mem_cons, not_or] at no
  obtain ⟨n1, n2, n3, n4, n5⟩ := no
  have kt : KT H H' := .but k x.at_ (by show 2 ≤ 3; decide)
  refine ⟨Xk.same_but k x.fr w.sm, w.f1, w.f2, w.f3, w.f4, w.f5, w.f6, k _ _ (nk w.hr x.at_ (by show ¬ (4 = 3); decide)) w.hr, ⟨k _ _ (Ne.symm n1) w.ho.lst, fun e he => (w.ho.it e he).kt kt⟩, ⟨k _ _ (Ne.symm n2) w.hh.lst, fun e he => (w.hh.it e he).kt kt⟩, k _ _ (Ne.symm n3) w.hoc, fun z hz => (w.hz z hz).kt kt (k _ _ (fun e => n5 (e ▸ List.mem_map_of_mem hz)) (w.hz z hz).lst), k _ _ (Ne.symm n4) w.hnm, w.ad⟩
theorem ad_za {o h oc nm : Addr} {Z : List Oc} (ad : (o :: h :: oc :: nm :: Z.map Oc.a).Nodup) {z : Oc} (hz : z ∈ Z) : z.a ≠ o ∧ z.a ≠ h ∧ z.a ≠ oc ∧ z.a ≠ nm := by
  have hm : z.a ∈ Z.map Oc.a := List.mem_map_of_mem hz
  have a1 := List.nodup_cons.mp ad
  have a2 := List.nodup_cons.mp a1.2
  have a3 := List.nodup_cons.mp a2.2
  have a4 := List.nodup_cons.mp a3.2
  refine ⟨fun e => a1.1 ?_, fun e => a2.1 ?_, fun e => a3.1 ?_, fun e => a4.1 (e ▸ hm)⟩
  · rw [← e]
    exact List.mem_cons_of_mem _ (List.mem_cons_of_mem _ (List.mem_cons_of_mem _ hm))
  · rw [← e]
    exact List.mem_cons_of_mem _ (List.mem_cons_of_mem _ hm)
  · rw [← e]
    exact List.mem_cons_of_mem _ hm
theorem ad_4 {o h oc nm : Addr} {Z : List Oc} (ad : (o :: h :: oc :: nm :: Z.map Oc.a).Nodup) : o ≠ h ∧ o ≠ oc ∧ o ≠ nm ∧ h ≠ oc ∧ h ≠ nm ∧ oc ≠ nm ∧ (Z.map Oc.a).Nodup := by
  have a1 := List.nodup_cons.mp ad
  have a2 := List.nodup_cons.mp a1.2
  have a3 := List.nodup_cons.mp a2.2
  have a4 := List.nodup_cons.mp a3.2
  have m1 := a1.1
  have m2 := a2.1
  have m3 := a3.1
  simp only [List.mem_cons, not_or] at m1 m2 m3
  exact ⟨m1.1, m1.2.1, m1.2.2.1, m2.1, m2.2.1, m3.1, a4.2⟩
section
variable {ks : List Str} {H0 H H' : Hp} {r o h oc nm b : Addr} {n : Int} {kvs : Kvs} {R : Rs} {O : Os} {Z : List Oc} {ns : List Int}
theorem Hw.setz (w : Hw K ks H0 H r o h oc nm kvs R O Z ns) {j : Nat} {z : Oc} (hz : Z[j]? = some z) {v : V} {f : Option (Str × List PyData)} (an : AnO K H v f) :
    Hw K ks H0 (upd H z.a (.lst [.int z.c, .int z.n, .ref z.da, v])) r o h oc nm kvs R O (Z.set j { z with v := v, w := f }) ns := by
  have hm := List.mem_of_getElem? hz
  have g := w.hz z hm
  have kt : KT H (upd H z.a (.lst [.int z.c, .int z.n, .ref z.da, v])) := .but (Xk.but_mut (Xk.But.refl _ _)) g.lst (by show 2 ≤ 3; decide)
  obtain ⟨n1, n2, n3, n4⟩ := ad_za w.ad hm
  have nda := (ad_4 w.ad).2.2.2.2.2.2
  have em : (Z.set j { z with v := v, w := f }).map Oc.a = Z.map Oc.a := map_set_eq hz rfl
  refine ⟨Xk.same_mut w.sm (w.f6 z hm), w.f1, w.f2, w.f3, w.f4, w.f5, fun y hy => ?_, (upd_ne (nk w.hr g.lst (by show ¬ (4 = 3); decide))).trans w.hr, ⟨(upd_ne n1.symm).trans w.ho.lst, fun e he => (w.ho.it e he).kt kt⟩, ⟨(upd_ne n2.symm).trans w.hh.lst, fun e he => (w.hh.it e he).kt kt⟩, ?_, fun y hy => ?_, (upd_ne n4.symm).trans w.hnm, by rw [em]; exact w.ad⟩
  · rcases set_mem hy with rfl | ⟨k, _, hk⟩
    · exact w.f6 z hm
    · exact w.f6 y (List.mem_of_getElem? hk)
  · have e2 : (Z.set j { z with v := v, w := f }).map (fun z => V.ref z.a) = Z.map fun z => V.ref z.a := map_set_eq (f := fun z : Oc => V.ref z.a) hz rfl
    rw [e2]
    exact (upd_ne n3.symm).trans w.hoc
  · rcases set_mem hy with rfl | ⟨k, hkj, hk⟩
    · exact ⟨upd_same, g.dl.kt kt, g.kk, an.kt kt⟩
    · have gy := w.hz y (List.mem_of_getElem? hk)
      exact gy.kt kt ((upd_ne (nd_ne nda hk hz hkj)).trans gy.lst)
theorem Hw.dec (w : Hw K ks H0 H r o h oc nm kvs R O Z ns) (x : Bx H0 H b n o h oc nm Z) (k : But3 b r o H H') {kvs' : Kvs} (hr : H' r = some (.dK kvs')) {oe : Addr × Oe} (hoe : OeAt K H' oe.1 oe.2) (ho : H' o = some (.lst (O.map (fun e => V.ref e.1) ++ [.ref oe.1]))) :
    Hw K ks H0 H' r o h oc nm kvs' R (O ++ [oe]) Z ns := by
  have no := x.no
  simp only [List.mem_cons, not_or] at no
  obtain ⟨n1, n2, n3, n4, n5⟩ := no
  obtain ⟨m1, m2, m3, m4, m5, m6, _⟩ := ad_4 w.ad
  have kt : KT H H' := fun a u hu e => k a u (nk e x.at_ (by show ¬ (kd u = 3); omega)) (nk e w.hr (by show ¬ (kd u = 4); omega)) (nk e w.ho.lst (by show ¬ (kd u = 3); omega)) e
  have lq : ∀ {a : Addr} {xs : List V}, H a = some (.lst xs) → a ≠ b → a ≠ o → H' a = some (.lst xs) := fun e y1 y2 => k _ _ y1 (nk e w.hr (by show ¬ (3 = 4); decide)) y2 e
  refine ⟨fun a u e => k a u (fun z => by subst z; rw [x.fr.is] at e; cases e) (fun z => by subst z; rw [w.f1.is] at e; cases e) (fun z => by subst z; rw [w.f2.is] at e; cases e) (w.sm _ _ e), w.f1, w.f2, w.f3, w.f4, w.f5, w.f6, hr, ⟨by rw [List.map_append]; exact ho, fun e he => ?_⟩, ⟨lq w.hh.lst (Ne.symm n2) m1.symm, fun e he => (w.hh.it e he).kt kt⟩, lq w.hoc (Ne.symm n3) m2.symm, fun z hz => (w.hz z hz).kt kt (lq (w.hz z hz).lst (fun e => n5 (e ▸ List.mem_map_of_mem hz)) (ad_za w.ad hz).1), lq w.hnm (Ne.symm n4) m3.symm, w.ad⟩
  rcases List.mem_append.mp he with he | he
  · exact (w.ho.it e he).kt kt
  · rw [List.mem_singleton.mp he]
    exact hoe
theorem fate_step {E : Int} {Q : VK} {X : XK} (W : Hw K ks H0 H r o h oc nm kvs R O Z ns) (P : Op R O Z ns) (t : Tr R O E kvs) (B : Bx H0 H b n o h oc nm Z) (hk : ks.length ≤ 100) (hOl : O.length ≤ 90) {j : Nat} {z : Oc} (hz : Z[j]? = some z) (hw : z.w = none)
    (q : ∀ (H' : Hp) (p : Addr) (n' : Int) (kvs' : Kvs) (O' : Os) (f : Str × List PyData), But3 b r o H H' → H' z.a = some (.lst z.xs) → Op R O' (Z.set j { z with v := .ref p, w := some f }) ns → Tr R O' E kvs' →
      Hw K ks H0 (upd H' z.a (.lst [.int z.c, .int z.n, .ref z.da, .ref p])) r o h oc nm kvs' R O' (Z.set j { z with v := .ref p, w := some f }) ns → Bx H0 (upd H' z.a (.lst [.int z.c, .int z.n, .ref z.da, .ref p])) b n' o h oc nm (Z.set j { z with v := .ref p, w := some f }) → Q (.ref p) H') :
    sp__law_fate K [.ref b, .ref r, .ref z.a, .ref o] H Q X := by
  have hm := List.mem_of_getElem? hz
  have g := W.hz z hm
  have no := B.no
  simp only [List.mem_cons, not_or] at no
  obtain ⟨n1, n2, n3, n4, n5⟩ := no
  obtain ⟨a1, _, _, _⟩ := ad_za W.ad hm
  have hkv : KvOk ks kvs := by rw [t.st]; exact stB_ok (fun e he => (W.hh.it e he).rok) O
  have nzb : z.a ≠ b := fun e => n5 (e ▸ List.mem_map_of_mem hm)
  have bx : ∀ (H' : Hp) (p : Addr) (n' : Int) (f : Str × List PyData), H' b = some (.lst [.int n']) → Bx H0 (upd H' z.a (.lst [.int z.c, .int z.n, .ref z.da, .ref p])) b n' o h oc nm (Z.set j { z with v := .ref p, w := some f }) := fun H' p n' f e => by
    refine ⟨(upd_ne nzb.symm).trans e, B.fr, ?_⟩
    have em : (Z.set j { z with v := .ref p, w := some f }).map Oc.a = Z.map Oc.a := map_set_eq hz rfl
    rw [em]
    exact B.no
  refine ⟨b, r, z.a, o, n, kvs, z.C, z.D, ks, z.c, z.n, z.da, z.v, O, rfl, B.at_, W.hr, hkv, hk, g.lst, g.dl, g.kk, W.ho, by omega, n1, nzb, a1, fun H' p w ds n' b' hb' hA hd => ?_, fun H' p oe n' k3 hb' hr' hoe ho' => ?_⟩
  · have W' := W.box B b'
    exact q H' p n' kvs O (w, ds) (fun x u y1 _ _ e => b' x u y1 e) (W'.hz z hm).lst (P.set hz hw hd) t (W'.setz hz (.inr ⟨p, w, ds, rfl, rfl, hA⟩)) (bx H' p n' (w, ds) hb')
  · obtain ⟨e, g1, g2, g3, g4, g5⟩ := P.rc z hm
    have W' := W.dec B k3 (oe := (oe, _)) hr' hoe ho'
    have T' := t.dec (o := (oe, ⟨z.c, z.n, p, (dealW kvs (z.C.map (·.2)) (z.D.map (·.2))).2.1, [.tuple ((dealW kvs (z.C.map (·.2)) (z.D.map (·.2))).2.2.map pd)]⟩)) g1 (P.un z hm hw) g4 g5 (by rw [g2, g3]; rfl) hoe.an.pk.lay
    rw [g2, g3] at T'
    exact q H' p n' _ _ _ k3 (W'.hz z hm).lst (P.dec hz (v := .ref p) (o := (oe, ⟨z.c, z.n, p, (dealW kvs (z.C.map (·.2)) (z.D.map (·.2))).2.1, [.tuple ((dealW kvs (z.C.map (·.2)) (z.D.map (·.2))).2.2.map pd)]⟩)) rfl rfl) T' (W'.setz hz (.inr ⟨p, _, _, rfl, rfl, hoe.an⟩)) (bx H' p n' _ hb')
theorem Hw.fresh (w : Hw K ks H0 H r o h oc nm kvs R O Z ns) {p : Addr} (hp : Xk.Fr p H) : p ∉ o :: h :: oc :: nm :: Z.map Oc.a := fun z => by
  rcases List.mem_cons.mp z with e | z
  · exact Xk.ne_new hp w.ho.lst e.symm
  rcases List.mem_cons.mp z with e | z
  · exact Xk.ne_new hp w.hh.lst e.symm
  rcases List.mem_cons.mp z with e | z
  · exact Xk.ne_new hp w.hoc e.symm
  rcases List.mem_cons.mp z with e | z
  · exact Xk.ne_new hp w.hnm e.symm
  obtain ⟨y, hy, e⟩ := List.mem_map.mp z
  exact Xk.ne_new hp (w.hz y hy).lst e
theorem Tr.len {E : Int} (t : Tr R O E kvs) : O.length ≤ R.length := by
  have n1 : (O.map fun o => (o.2.c, o.2.n)).Nodup := by
    refine List.pairwise_map.mpr (t.od.imp fun {a b} hab e => hab ?_)
    injection e with e1 e2
    exact ⟨e1, e2⟩
  have sub : (O.map fun o => (o.2.c, o.2.n)) ⊆ R.map fun e => (e.2.c, e.2.n) := fun x hx => by
    obtain ⟨o, ho, rfl⟩ := List.mem_map.mp hx
    obtain ⟨e, he⟩ := t.kn o ho
    obtain ⟨h1, h2, h3⟩ := fnd_some he
    exact List.mem_map.mpr ⟨e, h1, by rw [h2, h3]⟩
  have z := n1.length_le_of_subset sub
  rw [List.length_map, List.length_map] at z
  exact z
theorem Hw.setn (w : Hw K ks H0 H r o h oc nm kvs R O Z ns) (ns' : List Int) : Hw K ks H0 (upd H nm (.lst (ns'.map V.int))) r o h oc nm kvs R O Z ns' := by
  obtain ⟨m1, m2, m3, m4, m5, m6, _⟩ := ad_4 w.ad
  have kt : KT H (upd H nm (.lst (ns'.map V.int))) := .but (Xk.but_mut (Xk.But.refl _ _)) w.hnm (by show 2 ≤ 3; decide)
  exact ⟨Xk.same_mut w.sm w.f5, w.f1, w.f2, w.f3, w.f4, w.f5, w.f6, (upd_ne (nk w.hr w.hnm (by show ¬ (4 = 3); decide))).trans w.hr, ⟨(upd_ne m3).trans w.ho.lst, fun e he => (w.ho.it e he).kt kt⟩, ⟨(upd_ne m5).trans w.hh.lst, fun e he => (w.hh.it e he).kt kt⟩, (upd_ne m6).trans w.hoc, fun z hz => (w.hz z hz).kt kt ((upd_ne (ad_za w.ad hz).2.2.2).trans (w.hz z hz).lst), upd_same, w.ad⟩
theorem Hw.addz (w : Hw K ks H0 H r o h oc nm kvs R O Z ns) {z : Oc} (hz : OcAt K ks H z) (fz : Xk.Fr z.a H0) (nz : z.a ∉ o :: h :: oc :: nm :: Z.map Oc.a) : Hw K ks H0 (upd H oc (.lst ((Z.map fun z => V.ref z.a) ++ [.ref z.a]))) r o h oc nm kvs R O (Z ++ [z]) ns := by
  obtain ⟨m1, m2, m3, m4, m5, m6, _⟩ := ad_4 w.ad
  have kt : KT H (upd H oc (.lst ((Z.map fun z => V.ref z.a) ++ [.ref z.a]))) := .but (Xk.but_mut (Xk.But.refl _ _)) w.hoc (by show 2 ≤ 3; decide)
  have nzc : z.a ≠ oc := fun e => nz (by rw [e]; exact List.mem_cons_of_mem _ (List.mem_cons_of_mem _ (List.mem_cons_self ..)))
  refine ⟨Xk.same_mut w.sm w.f4, w.f1, w.f2, w.f3, w.f4, w.f5, fun y hy => ?_, (upd_ne (nk w.hr w.hoc (by show ¬ (4 = 3); decide))).trans w.hr, ⟨(upd_ne m2).trans w.ho.lst, fun e he => (w.ho.it e he).kt kt⟩, ⟨(upd_ne m4).trans w.hh.lst, fun e he => (w.hh.it e he).kt kt⟩, by rw [upd_same, List.map_append]; rfl, fun y hy => ?_, (upd_ne m6.symm).trans w.hnm, ?_⟩
  · rcases List.mem_append.mp hy with hy | hy
    · exact w.f6 y hy
    · rw [List.mem_singleton.mp hy]
      exact fz
  · rcases List.mem_append.mp hy with hy | hy
    · exact (w.hz y hy).kt kt ((upd_ne (ad_za w.ad hy).2.2.1).trans (w.hz y hy).lst)
    · rw [List.mem_singleton.mp hy]
      exact hz.kt kt ((upd_ne nzc).trans hz.lst)
  · have e : o :: h :: oc :: nm :: (Z ++ [z]).map Oc.a = (o :: h :: oc :: nm :: Z.map Oc.a) ++ [z.a] := by rw [List.map_append]; rfl
    rw [e]
    refine List.nodup_append.mpr ⟨w.ad, List.pairwise_singleton _ _, fun x hx y hy e => ?_⟩
    rw [List.mem_singleton.mp hy] at e
    exact nz (e ▸ hx)
theorem Hw.addr (w : Hw K ks H0 H r o h oc nm kvs R O Z ns) {e : Addr × Rc} (he : RcAt K ks H e.1 e.2) : Hw K ks H0 (upd H h (.lst ((R.map fun e => V.ref e.1) ++ [.ref e.1]))) r o h oc nm kvs (R ++ [e]) O Z ns := by
  obtain ⟨m1, m2, m3, m4, m5, m6, _⟩ := ad_4 w.ad
  have kt : KT H (upd H h (.lst ((R.map fun e => V.ref e.1) ++ [.ref e.1]))) := .but (Xk.but_mut (Xk.But.refl _ _)) w.hh.lst (by show 2 ≤ 3; decide)
  refine ⟨Xk.same_mut w.sm w.f3, w.f1, w.f2, w.f3, w.f4, w.f5, w.f6, (upd_ne (nk w.hr w.hh.lst (by show ¬ (4 = 3); decide))).trans w.hr, ⟨(upd_ne m1).trans w.ho.lst, fun e he => (w.ho.it e he).kt kt⟩, ⟨by rw [upd_same, List.map_append]; rfl, fun x hx => ?_⟩, (upd_ne m4.symm).trans w.hoc, fun y hy => (w.hz y hy).kt kt ((upd_ne (ad_za w.ad hy).2.1).trans (w.hz y hy).lst), (upd_ne m5.symm).trans w.hnm, w.ad⟩
  rcases List.mem_append.mp hx with hx | hx
  · exact (w.hh.it x hx).kt kt
  · rw [List.mem_singleton.mp hx]
    exact he.kt kt
theorem Hw.close (w : Hw K ks H0 H r o h oc nm kvs R O Z ns) {h' oc' : Addr} {R' : Rs} {Z' : List Oc} (s : Z'.Sublist Z) (hh : HsAt K ks H h' R') (hoc : H oc' = some (.lst (Z'.map fun z => V.ref z.a))) (f3 : Xk.Fr h' H0) (f4 : Xk.Fr oc' H0) (n1 : h' ∉ o :: oc' :: nm :: Z.map Oc.a) (n2 : oc' ∉ o :: nm :: Z.map Oc.a) :
    Hw K ks H0 H r o h' oc' nm kvs R' O Z' ns := by
  have a1 := List.nodup_cons.mp w.ad
  have a2 := List.nodup_cons.mp a1.2
  have a3 := List.nodup_cons.mp a2.2
  have a4 := List.nodup_cons.mp a3.2
  simp only [List.mem_cons, not_or] at n1 n2
  have m1 := a1.1
  simp only [List.mem_cons, not_or] at m1
  have sm : ∀ x, x ∈ Z'.map Oc.a → x ∈ Z.map Oc.a := fun x hx => (s.map Oc.a).subset hx
  refine ⟨w.sm, w.f1, w.f2, f3, f4, w.f5, fun y hy => w.f6 y (s.subset hy), w.hr, w.ho, hh, hoc, fun y hy => w.hz y (s.subset hy), w.hnm, ?_⟩
  refine List.nodup_cons.mpr ⟨?_, List.nodup_cons.mpr ⟨?_, List.nodup_cons.mpr ⟨?_, List.nodup_cons.mpr ⟨fun z => a4.1 (sm _ z), a4.2.sublist (s.map _)⟩⟩⟩⟩
  · simp only [List.mem_cons, not_or]
    exact ⟨Ne.symm n1.1, Ne.symm n2.1, m1.2.2.1, fun z => m1.2.2.2 (sm _ z)⟩
  · simp only [List.mem_cons, not_or]
    exact ⟨n1.2.1, n1.2.2.1, fun z => n1.2.2.2 (sm _ z)⟩
  · simp only [List.mem_cons, not_or]
    exact ⟨n2.2.1, fun z => n2.2.2 (sm _ z)⟩
end
--CUT--
theorem filter_set {α : Type} {p : α → Bool} {x y : α} (hx : p x = false) (hy : p y = false) : ∀ {l : List α} {j : Nat}, l[j]? = some x → (l.set j y).filter p = l.filter p
  | [], _, h => by cases h
  | a :: l, 0, h => by
    injection h with h
    subst h
    show (y :: l).filter p = _
    rw [List.filter_cons, List.filter_cons, if_neg (by rw [hy]; decide), if_neg (by rw [hx]; decide)]
  | a :: l, j + 1, h => by
    show (a :: l.set j y).filter p = (a :: l).filter p
    rw [List.filter_cons, List.filter_cons, filter_set hx hy (j := j) h]
theorem RcAt.clR {ks : List Str} {H : Hp} {a a' : Addr} {r : Rc} (g : RcAt K ks H a r) {c n E : Int} {v : V} {w : Option (Str × List PyData)} (h : H a' = some (.tup (clR c n E v w r).xs)) (an : AnO K H v w) (hE : 0 ≤ E) : RcAt K ks H a' (clR c n E v w r) := by
  by_cases z : r.c = c ∧ r.n = n
  · have e : K80.clR c n E v w r = { r with e := some E, v := v, w := w } := if_pos z
    rw [e] at h ⊢
    exact ⟨h, g.dl, g.kk, an, g.k0, fun e he => by cases he; exact hE⟩
  · have e : K80.clR c n E v w r = r := if_neg z
    rw [e] at h ⊢
    exact ⟨h, g.dl, g.kk, g.an, g.k0, g.e0⟩
def sp__law_history (K : PySem.W.Frag) : Sp := fun vs H Q _ => ∃ (a f : Addr) (m : Int) (xs : List Int) (ks : List Str), vs = [.ref a, .ref f, .int m] ∧ SqL K H a (xs.map V.int) ∧ xs.length ≤ 63 ∧ H f = some (.lst (ks.map V.str)) ∧ (∀ k ∈ ks, Ok k) ∧ ks.length ≤ 5 ∧ 1 ≤ ks.length ∧ 0 ≤ m ∧ m ≤ 24 ∧
  ∀ H' p h o R O E kvs, Same H H' → Xk.Fr p H → H' p = some (.lst [.ref h, .ref o]) → HsAt K ks H' h R → OrAt K H' o O → Tr R O E kvs → R.length ≤ 30 → O.length ≤ 90 → Q (.ref p) H'
theorem ok__law_history (T : Txt K mg) : FnOk P w K mg base CX0 5 T.f__law_history T.d__law_history ["script", "keys", "count"] (sp__law_history K) := by
  refine T.F__law_history.ok sc__law_history (fun vs H Q E h => ?_) (fun cdv A outer s H vs Q E hr h => ?_)
  · obtain ⟨a, f, m, xs, ks, rfl, _⟩ := h
    rfl
  obtain ⟨a, f, m, xs, ks, rfl, hS, hl, hf, hok, hl5, hl1, hm0, hm1, q⟩ := h
  refine ⟨_, (pss_cons (ps_set (i := 3) sc__law_history.nd rfl (Or.inl rfl) (pe_dnewK))
      (pss_cons (ps_set (i := 4) sc__law_history.nd rfl (Or.inl rfl) (pe_lst pa_nil))
      (pss_cons (ps_set (i := 5) sc__law_history.nd rfl (Or.inl rfl) (pe_lst pa_nil))
      (pss_cons (ps_set (i := 6) sc__law_history.nd rfl (Or.inr rfl) (pe_int))
      (pss_cons (ps_set (i := 7) sc__law_history.nd rfl (Or.inl rfl) (pe_lst pa_nil))
      (pss_cons (ps_set (i := 8) sc__law_history.nd rfl (Or.inl rfl) (pe_lst (pa_cons (pe_int) (pa_cons (pe_int) (pa_cons (pe_int) (pa_cons (pe_int) pa_nil))))))
      (pss_cons (ps_for PassesOwn.never rfl (pi_range1 (by rfl) T.m_range (pa_cons (pv 2) pa_nil)) (pg_name (i := 9) sc__law_history.nd rfl (Or.inl rfl)) (pss_cons (ps_set (i := 10) sc__law_history.nd rfl (Or.inl rfl) (pe_lst (pa_cons (pe_call (ok__law_number T) (hr.mono (by decide)) (by rfl) T.g__law_number T.F__law_number.kp T.b__law_number .nil pass0 (pa_cons (pv 0) (pa_cons (pe_op op_add (pe_int) (pv 9)) pa_nil))) pa_nil)))
      (pss_cons (ps_set (i := 11) sc__law_history.nd rfl (Or.inr rfl) (pe_call (ok__law_take T) (hr.mono (by decide)) (by rfl) T.g__law_take T.F__law_take.kp T.b__law_take .nil pass0 (pa_cons (pv 10) (pa_cons (pe_int) pa_nil))))
      (Evl.pss_cut (ps_if (pt_cmpR (Xk.k_in (K := K) (by rfl)) (pv 11) (pe_lc (own := [("call", 12)]) (g := gName 12) (tt := tYes) rfl sc__law_history.nd  (pi_list (pv 7)) (blkOk_by (N := N__law_history) (sc := defScope s__law_history) (own := [("call", 12)]) (by decide +kernel)) (fun _ _ _ _ _ => pg_name (i := 12) sc__law_history.nd rfl (Or.inl rfl)) (fun _ _ _ _ _ => pts_nil) (fun _ _ _ _ _ => (pe_ix (Xk.k_ixL (K := K) (by rfl)) (pv 12) (pe_int) (fun _ _ => rfl)))) (by rfl)) (pss_cons (ps_set (i := 12) sc__law_history.nd rfl (Or.inr rfl) (pe_ix (Xk.k_ixL (K := K) (by rfl)) (pe_lc (own := [("other", 14)]) (g := gName 14) rfl sc__law_history.nd  (pi_list (pv 7)) (blkOk_by (N := N__law_history) (sc := defScope s__law_history) (own := [("other", 14)]) (by decide +kernel)) (fun _ _ _ _ _ => pg_name (i := 14) sc__law_history.nd rfl (Or.inl rfl)) (fun _ _ _ _ _ => pts_one (pt_cmpR op_eq (pe_ix (Xk.k_ixL (K := K) (by rfl)) (pv 14) (pe_int) (fun _ _ => rfl)) (pv 11) (nomark _))) (fun _ _ _ _ _ => (pv 14))) (pe_int) (fun _ _ => rfl)))
      (pss_cons (ps_setLc (i := 7) (own := [("other", 14)]) (g := gName 14) rfl sc__law_history.nd rfl rfl (sw_true rfl rfl rfl (by decide +kernel)) (pi_list (pv 7)) (blkOk_by (N := N__law_history) (sc := defScope s__law_history) (own := [("other", 14)]) (by decide +kernel)) (fun _ _ _ _ _ => pg_name (i := 14) sc__law_history.nd rfl (Or.inl rfl)) (fun _ _ _ _ _ => pts_one (pt_cmpR op_ne (pe_ix (Xk.k_ixL (K := K) (by rfl)) (pv 14) (pe_int) (fun _ _ => rfl)) (pv 11) (nomark _))) (fun _ _ _ _ _ => (pv 14)))
      (Evl.pss_cut (ps_if (pt_cmpR Xk.op_nIsN (pe_ix (Xk.k_ixL (K := K) (by rfl)) (pv 12) (pe_int) (fun _ _ => rfl)) (pe_non) (nomark _)) (pss_one (ps_asg (pe_call (ok__law_fate T) (hr.mono (by decide)) (by rfl) T.g__law_fate T.F__law_fate.kp T.b__law_fate .nil pass0 (pa_cons (pv 10) (pa_cons (pv 3) (pa_cons (pv 12) (pa_cons (pv 4) pa_nil))))) (pg_sub (pv 12) (pe_int) set_list))) pss_nil)
      (pss_one (ps_setLc (i := 5) (own := [("row", 15)]) (g := gName 15) (tt := tYes) rfl sc__law_history.nd rfl rfl (sw_true rfl rfl rfl (by decide +kernel)) (pi_list (pv 5)) (blkOk_by (N := N__law_history) (sc := defScope s__law_history) (own := [("row", 15)]) (by decide +kernel)) (fun _ _ _ _ _ => pg_name (i := 15) sc__law_history.nd rfl (Or.inl rfl)) (fun _ _ _ _ _ => pts_nil) (fun _ _ _ _ _ => (pe_call (ok__law_closed T) (hr.mono (by decide)) (by rfl) T.g__law_closed T.F__law_closed.kp T.b__law_closed .nil pass0 (pa_cons (pv 15) (pa_cons (pv 12) (pa_cons (pv 6) pa_nil)))))))))) (pss_cons (ps_asg (pe_op op_add (pe_ix (Xk.k_ixL (K := K) (by rfl)) (pv 8) (pv 11) (fun _ _ => rfl)) (pe_int)) (pg_sub (pv 8) (pv 11) set_list))
      (pss_cons (ps_set (i := 13) sc__law_history.nd rfl (Or.inl rfl) (pe_call (ok__law_deal T) (hr.mono (by decide)) (by rfl) T.g__law_deal T.F__law_deal.kp T.b__law_deal .nil pass0 (pa_cons (pv 10) (pa_cons (pv 1) (pa_cons (pv 3) pa_nil)))))
      (pss_cons (ps_expr (pe_bm PySem.F.plainAttrs_list PySem.F.slot_list_append PySem.F.type_list_append mt_append (pv 7) (pa_cons (pe_lst (pa_cons (pv 11) (pa_cons (pe_ix (Xk.k_ixL (K := K) (by rfl)) (pv 8) (pv 11) (fun _ _ => rfl)) (pa_cons (pv 13) (pa_cons (pe_non) pa_nil))))) pa_nil)))
      (pss_one (ps_expr (pe_bm PySem.F.plainAttrs_list PySem.F.slot_list_append PySem.F.type_list_append mt_append (pv 5) (pa_cons (pe_tup (pa_cons (pv 11) (pa_cons (pe_ix (Xk.k_ixL (K := K) (by rfl)) (pv 8) (pv 11) (fun _ _ => rfl)) (pa_cons (pv 13) (pa_cons (pv 6) (pa_cons (pe_non) (pa_cons (pe_non) pa_nil))))))) pa_nil))))))))
      (pss_cons (ps_set (i := 6) sc__law_history.nd rfl (Or.inr rfl) (pe_op op_add (pv 6) (pe_int)))
      (pss_one (ps_for PassesOwn.never rfl (pi_list (pv 7)) (pg_name (i := 12) sc__law_history.nd rfl (Or.inr rfl)) (pss_one (ps_if (PW.pt (pw_and (pt_cmpR Xk.op_nIsN (pe_ix (Xk.k_ixL (K := K) (by rfl)) (pv 12) (pe_int) (fun _ _ => rfl)) (pe_non) (nomark _)) (pw_and1 (pt_cmpR op_eq (pe_call (ok__law_take T) (hr.mono (by decide)) (by rfl) T.g__law_take T.F__law_take.kp T.b__law_take .nil pass0 (pa_cons (pv 10) (pa_cons (pe_int) pa_nil))) (pe_int) (nomark _))))) (pss_one (ps_asg (pe_call (ok__law_fate T) (hr.mono (by decide)) (by rfl) T.g__law_fate T.F__law_fate.kp T.b__law_fate .nil pass0 (pa_cons (pv 10) (pa_cons (pv 3) (pa_cons (pv 12) (pa_cons (pv 4) pa_nil))))) (pg_sub (pv 12) (pe_int) set_list))) pss_nil)))))))))
      (pss_one (ps_ret (pe_lst (pa_cons (pv 5) (pa_cons (pv 4) pa_nil)))))))))))), ?_⟩
  wtm_at "x0"
  wtm_at "xs"
  intro r H1 hr s1 h1
  wtm_at "xs"
  intro o H2 ho s2 h2
  wtm_at "xs"
  intro hi H3 hhi s3 h3
  wtm_at "xs"
  intro oc H4 hoc s4 h4
  wtm_at "xs"
  intro nm H5 hnm s5 h5
  wtm_at "xs"
  have s25 := s3.trans (s4.trans s5)
  have w0 : Hw K ks H H5 r o hi oc nm [] [] [] [] [0, 0, 0, 0] := by
    have s12 := s1.trans s2
    refine ⟨s12.trans s25, hr, Xk.free_back ho s1, Xk.free_back hhi s12, Xk.free_back hoc (s12.trans s3), Xk.free_back hnm (s12.trans (s3.trans s4)), fun z hz => (by cases hz), (s2.trans s25) _ _ h1, ⟨s25 _ _ h2, fun e he => (by cases he)⟩, ⟨(s4.trans s5) _ _ h3, fun e he => (by cases he)⟩, s5 _ _ h4, fun z hz => (by cases hz), h5, ?_⟩
    have a1 : o ≠ hi := Xk.ne_new hhi h2
    have a2 : o ≠ oc := Xk.ne_new hoc (s3 _ _ h2)
    have a3 : o ≠ nm := Xk.ne_new hnm ((s3.trans s4) _ _ h2)
    have a4 : hi ≠ oc := Xk.ne_new hoc h3
    have a5 : hi ≠ nm := Xk.ne_new hnm (s4 _ _ h3)
    have a6 : oc ≠ nm := Xk.ne_new hnm h4
    show ([o, hi, oc, nm] : List Addr).Nodup
    simp [a1, a2, a3, a4, a5, a6]
  have p0 : Op [] [] [] [0, 0, 0, 0] := ⟨fun z hz => (by cases hz), fun z hz => (by cases hz), fun z hz => (by cases hz), .nil, rfl, fun e he => (by cases he)⟩
  have t0 : Tr [] [] 0 [] := ⟨.nil, rfl, fun o ho => (by cases ho), .nil, fun k o e ho => (by cases ho), fun o ho => (by cases ho), fun e he => (by cases he), fun k o e u ho => (by cases ho), fun e he => (by cases he), fun o ho => (by cases ho)⟩
  clear s1 s2 s3 s4 s5 s25 h1 h2 h3 h4 h5 hnm hoc hhi ho
  refine Xk.x_range (fun i σ' H' => ∃ (y9 y10 y11 y12 y13 y14 y15 : Option V) (h oc : Addr) (E : Int) (kvs : Kvs) (R : Rs) (O : Os) (Z : List Oc) (ns : List Int), σ' = [some (.ref a), some (.ref f), some (.int m), some (.ref r), some (.ref o), some (.ref h), some (.int E), some (.ref oc), some (.ref nm), y9, y10, y11, y12, y13, y14, y15] ∧
      Hw K ks H H' r o h oc nm kvs R O Z ns ∧ Op R O Z ns ∧ Tr R O E kvs ∧ 0 ≤ E ∧ R.length ≤ i ∧ Z.length ≤ i) ⟨by omega, by omega⟩
    ⟨_, _, _, _, _, _, _, hi, oc, 0, [], [], [], [], _, rfl, w0, p0, t0, Int.le_refl _, Nat.le_refl _, Nat.le_refl _⟩ ?_ ?_
  · clear w0 p0 t0
    rintro i σ' H1 hi ⟨y9, y10, y11, y12, y13, y14, y15, h, oc, E, kvs, R, O, Z, ns, rfl, W, P, t, hE, hRl, hZl⟩
    have hi24 : i < 24 := by omega
    wtm_at "xs"
    refine ⟨a, _, xs, rfl, Xk.sq_same hS W.sm, hl, by omega, by omega, fun n1 hn1 => ?_⟩
    wtm_at "xs"
    intro b H2 hb s2 hb2
    have nb := W.fresh hb
    have B : Bx H H2 b n1 o h oc nm Z := ⟨hb2, Xk.free_back hb W.sm, nb⟩
    replace W := W.same s2
    clear hb s2 hb2 nb
    have hba := B.at_
    wtm_at "xs"
    refine draw (z := 4) hba ⟨by decide, by decide⟩ fun j n3 H3 hj b3 hbx3 => ?_
    replace W := W.box B b3
    replace B : Bx H H3 b n3 o h oc nm Z := ⟨hbx3, B.fr, B.no⟩
    clear b3 hba hbx3
    have hocl := W.hoc
    wtm_at "xs"
    refine Xk.x_cut (fun σ' H' => ∃ (y12 y13 y14 y15 : Option V) (h oc : Addr) (kvs : Kvs) (R : Rs) (O : Os) (Z : List Oc) (ns : List Int) (n : Int), σ' = [some (.ref a), some (.ref f), some (.int m), some (.ref r), some (.ref o), some (.ref h), some (.int E), some (.ref oc), some (.ref nm), some (.int i), some (.ref b), some (.int j), y12, y13, y14, y15] ∧
      Hw K ks H H' r o h oc nm kvs R O Z ns ∧ Op R O Z ns ∧ Tr R O (E + 1) kvs ∧ R.length ≤ i + 1 ∧ Z.length ≤ i + 1 ∧ Bx H H' b n o h oc nm Z) ?_ ?_
    · wtm_at "xs"
      refine Xk.x_lcL (xs := Z.map fun z => V.ref z.a) (fun d i' H' => Same H3 H' ∧ H' d = some (.lst ((((Z.take i').map Oc.c)).map V.int))) (Xk.sq_of hocl) ?_ ?_ ?_ ?_
      · intro d hd
        exact ⟨Xk.same_fr hd, upd_same⟩
      · rintro d i' H' hd ⟨s4, _⟩
        exact Xk.sq_of (s4 _ _ hocl)
      · rintro d hd i' x H' hi' ⟨s4, g4⟩
        obtain ⟨z, hz, rfl⟩ := Xk.of_map_at hi'
        have zl := s4 _ _ (W.hz z (List.mem_of_getElem? hz)).lst
        unfold Oc.xs at zl
        wtm_at "xs"
        refine ⟨rfl, ?_⟩
        wtm_at "xs"
        refine ⟨_, g4, Xk.size_lt (by simp only [List.length_map, List.length_take]; omega), Xk.same_mut s4 hd, ?_⟩
        rw [upd_same, List.take_add_one, hz, List.map_append, List.map_append]
        rfl
      · rintro d H4 hd ⟨s4, g4⟩
        rw [List.length_map, List.take_length] at g4
        replace W := W.same s4
        have B4 : Bx H H4 b n3 o h oc nm Z := ⟨s4 _ _ B.at_, B.fr, B.no⟩
        refine Xk.x_inL (Xk.sq_of g4) rfl (Xk.flat_ints _) ?_
        rw [Xk.in_ints]
        wtm_at "xs"
        refine Xk.x_itd (fun hin => ?_) (fun hin => ?_)
        · obtain ⟨z1, hz1, hzc1⟩ := List.mem_map.mp hin
          have hoc4 := W.hoc
          obtain ⟨z, zr, hfil⟩ : ∃ z zr, Z.filter (fun z => decide (z.c = (j : Int))) = z :: zr := by
            cases c : Z.filter fun z => decide (z.c = (j : Int)) with
            | cons z zr => exact ⟨z, zr, rfl⟩
            | nil =>
              have w : z1 ∈ Z.filter fun z => decide (z.c = (j : Int)) := List.mem_filter.mpr ⟨hz1, decide_eq_true hzc1⟩
              rw [c] at w
              cases w
          obtain ⟨hzm, hzc⟩ : z ∈ Z ∧ z.c = (j : Int) := by
            have w : z ∈ Z.filter fun z => decide (z.c = (j : Int)) := by rw [hfil]; exact List.mem_cons_self ..
            exact ⟨(List.mem_filter.mp w).1, of_decide_eq_true (List.mem_filter.mp w).2⟩
          obtain ⟨jz, hjz⟩ := List.getElem?_of_mem hzm
          wtm_at "xs"
          refine Xk.x_lcL (xs := Z.map fun z => V.ref z.a) (fun d i' H' => Same H4 H' ∧ H' d = some (.lst (((Z.take i').filter fun z => decide (z.c = (j : Int))).map fun z => V.ref z.a))) (Xk.sq_of hoc4) ?_ ?_ ?_ ?_
          · intro d hd
            exact ⟨Xk.same_fr hd, upd_same⟩
          · rintro d i' H' hd ⟨s5, _⟩
            exact Xk.sq_of (s5 _ _ hoc4)
          · rintro d hd i' x H' hi' ⟨s5, g5⟩
            obtain ⟨y, hy, rfl⟩ := Xk.of_map_at hi'
            have yl := s5 _ _ (W.hz y (List.mem_of_getElem? hy)).lst
            unfold Oc.xs at yl
            have et : Z.take (i' + 1) = Z.take i' ++ [y] := by
              rw [List.take_add_one, hy]
              rfl
            have sz : ((Z.take i').filter fun z => decide (z.c = (j : Int))).length ≤ Z.length := Nat.le_trans (List.length_filter_le _ _) (by rw [List.length_take]; omega)
            wtm_at "xs"
            refine ⟨rfl, ?_⟩
            wtm_at "xs"
            refine Xk.x_itd (fun c => ?_) (fun c => ?_)
            · have c' : y.c = (j : Int) := by injection c
              wtm_at "xs"
              refine ⟨_, g5, Xk.size_lt (by rw [List.length_map]; omega), Xk.same_mut s5 hd, ?_⟩
              rw [upd_same, et, List.filter_append, List.map_append, List.filter_cons, if_pos (decide_eq_true c')]
              rfl
            · have c' : ¬ y.c = (j : Int) := fun e => c (by rw [e])
              wtm_at "xs"
              refine ⟨s5, ?_⟩
              rw [et, List.filter_append, List.filter_cons, if_neg (by rw [decide_eq_false c']; decide), List.filter_nil, List.append_nil]
              exact g5
          rintro d H5 hd2 ⟨s5, g5⟩
          rw [List.length_map, List.take_length, hfil] at g5
          replace W := W.same s5
          have B5 : Bx H H5 b n3 o h oc nm Z := ⟨s5 _ _ B4.at_, B4.fr, B4.no⟩
          have hoc5 := W.hoc
          wtm_at "xs"
          refine Xk.x_ixL (Xk.sq_of g5) (show atI _ ((0 : Nat) : Int) = _ from atI_nat rfl) ?_
          wtm_at "xs"
          refine Xk.x_lcL (xs := Z.map fun z => V.ref z.a) (fun d i' H' => Same H5 H' ∧ H' d = some (.lst (((Z.take i').filter fun z => !decide (z.c = (j : Int))).map fun z => V.ref z.a))) (Xk.sq_of hoc5) ?_ ?_ ?_ ?_
          · intro d hd
            exact ⟨Xk.same_fr hd, upd_same⟩
          · rintro d i' H' hd ⟨s6, _⟩
            exact Xk.sq_of (s6 _ _ hoc5)
          · rintro d hd i' x H' hi' ⟨s6, g6⟩
            obtain ⟨y, hy, rfl⟩ := Xk.of_map_at hi'
            have yl := s6 _ _ (W.hz y (List.mem_of_getElem? hy)).lst
            unfold Oc.xs at yl
            have et : Z.take (i' + 1) = Z.take i' ++ [y] := by
              rw [List.take_add_one, hy]
              rfl
            have sz : ((Z.take i').filter fun z => !decide (z.c = (j : Int))).length ≤ Z.length := Nat.le_trans (List.length_filter_le _ _) (by rw [List.length_take]; omega)
            wtm_at "xs"
            refine ⟨rfl, ?_⟩
            wtm_at "xs"
            refine Xk.x_itn (fun c => ?_) (fun c => ?_)
            · have c' : ¬ y.c = (j : Int) := fun e => c (by rw [e])
              wtm_at "xs"
              refine ⟨_, g6, Xk.size_lt (by rw [List.length_map]; omega), Xk.same_mut s6 hd, ?_⟩
              rw [upd_same, et, List.filter_append, List.map_append, List.filter_cons, if_pos (by rw [decide_eq_false c']; rfl)]
              rfl
            · have c' : y.c = (j : Int) := by injection c
              wtm_at "xs"
              refine ⟨s6, ?_⟩
              rw [et, List.filter_append, List.filter_cons, if_neg (by rw [decide_eq_true c']; decide), List.filter_nil, List.append_nil]
              exact g6
          rintro oc2 H6 hoc2 ⟨s6, g6⟩
          rw [List.length_map, List.take_length] at g6
          have n56 := W.fresh hoc2
          have foc2 := Xk.free_back hoc2 W.sm
          have nboc2 : b ≠ oc2 := Xk.ne_new hoc2 B5.at_
          replace W := W.same s6
          have B6 : Bx H H6 b n3 o h oc nm Z := ⟨s6 _ _ B5.at_, B5.fr, B5.no⟩
          have gz := W.hz z hzm
          have gl := gz.lst
          unfold Oc.xs at gl
          clear g4 g5 hoc4 hoc5 hocl s4 s5 s6 hd hd2
          refine Xk.x_cut (fun σ' H' => ∃ (kvs' : Kvs) (O' : Os) (Z' : List Oc) (z' : Oc) (fz : Str × List PyData) (pa : Addr) (n' : Int), σ' = [some (.ref a), some (.ref f), some (.int m), some (.ref r), some (.ref o), some (.ref h), some (.int E), some (.ref oc2), some (.ref nm), some (.int i), some (.ref b), some (.int j), some (.ref z.a), y13, y14, y15] ∧
            Hw K ks H H' r o h oc nm kvs' R O' Z' ns ∧ Op R O' Z' ns ∧ Tr R O' E kvs' ∧ Bx H H' b n' o h oc nm Z' ∧ z' ∈ Z' ∧ z'.a = z.a ∧ z'.c = (j : Int) ∧ z'.v = .ref pa ∧ z'.w = some fz ∧ Z'.filter (fun z => !decide (z.c = (j : Int))) = Z.filter (fun z => !decide (z.c = (j : Int))) ∧ Z'.map Oc.a = Z.map Oc.a ∧ H' oc2 = some (.lst ((Z.filter fun z => !decide (z.c = (j : Int))).map fun z => V.ref z.a))) ?_ ?_
          · wtm_at "xs"
            rcases gz.an with ⟨v1, v2⟩ | ⟨pa, w, ds, v1, v2, v3⟩
            · rw [v1]
              wtm_at "xs"
              refine fate_step W P t B6 (by omega) (by have q := t.len; omega) hjz v2 fun H7 p n7 kvs7 O7 f7 k7 e7 P7 t7 W7 B7 => ?_
              have g7 := k7 _ _ nboc2.symm (nk g6 W.hr (by show ¬ (3 = 4); decide)) (fun e => n56 (by rw [e]; exact List.mem_cons_self ..)) g6
              unfold Oc.xs at e7
              wtm_at "xs"
              refine Xk.x_setL (j := 3) e7 rfl ?_
              have pz : (!decide (z.c = (j : Int))) = false := by rw [decide_eq_true hzc]; rfl
              have nz2 : oc2 ≠ z.a := fun e => n56 (by
                rw [e]
                exact List.mem_cons_of_mem _ (List.mem_cons_of_mem _ (List.mem_cons_of_mem _ (List.mem_cons_of_mem _ (List.mem_map_of_mem hzm)))))
              refine ⟨kvs7, O7, _, { z with v := .ref p, w := some f7 }, f7, p, n7, rfl, W7, P7, t7, B7, List.mem_of_getElem? (List.getElem?_set_self (Xk.at_lt hjz)), rfl, hzc, rfl, rfl, filter_set (p := fun z : Oc => !decide (z.c = (j : Int))) (x := z) (y := { z with v := .ref p, w := some f7 }) pz pz hjz, map_set_eq (f := Oc.a) hjz rfl, ?_⟩
              exact (upd_ne nz2).trans g7
            · rw [v1]
              wtm_at "xs"
              exact ⟨kvs, O, Z, z, (w, ds), pa, n3, rfl, W, P, t, B6, hzm, rfl, hzc, v1, v2, rfl, rfl, g6⟩
          rintro σ' H7 ⟨kvs', O', Z', z', fz, pa, n', rfl, W', P', t', B', hz', ea, ec, ev, ew, ef, em, g7⟩
          have gz' := W'.hz z' hz'
          have gl' := gz'.lst
          unfold Oc.xs at gl'
          have anz := gz'.an
          rw [ev, ew] at anz
          rw [ea, ec, ev] at gl'
          have hhl := W'.hh.lst
          clear W P t B6 gz gl g6 anz
          have ckt : ∀ {H' : Hp}, Same H7 H' → H' z.a = some (.lst [.int j, .int z'.n, .ref z'.da, .ref pa]) := fun s => s _ _ gl'
          wtm_at "xs"
          refine Xk.x_lcL (xs := R.map fun e => V.ref e.1) (fun d i' H' => Same H7 H' ∧ ∃ R2 : Rs, H' d = some (.lst (R2.map fun e => V.ref e.1)) ∧ R2.map (·.2) = ((R.take i').map (·.2)).map (clR j z'.n E (.ref pa) (some fz)) ∧ ∀ e ∈ R2, RcAt K ks H' e.1 e.2) (Xk.sq_of hhl) ?_ ?_ ?_ ?_
          · intro d hd
            exact ⟨Xk.same_fr hd, [], upd_same, rfl, fun e he => (by cases he)⟩
          · rintro d i' H' hd ⟨s8, _⟩
            exact Xk.sq_of (s8 _ _ hhl)
          · rintro d hd i' x H' hi' ⟨s8, R2, r1, r2, r3⟩
            obtain ⟨e, he, rfl⟩ := Xk.of_map_at hi'
            have re := (W'.hh.it e (List.mem_of_getElem? he)).kt (.same s8)
            have cz := ckt s8
            wtm_at "xs"
            refine ⟨rfl, ?_⟩
            wtm_at "xs"
            refine ⟨e.1, z.a, E, e.2, j, z'.n, .ref z'.da, .ref pa, some fz, rfl, re.tp, cz, fun H8 a8 s9 h9 => ?_⟩
            have r18 := s9 _ _ r1
            have hR2 : R2.length ≤ R.length := by
              have z := congrArg List.length r2
              simp only [List.length_map, List.length_take] at z
              omega
            have kt9 : KT H8 (upd H8 d (.lst ((R2.map fun e => V.ref e.1) ++ [.ref a8]))) := .but (Xk.but_mut (Xk.But.refl _ _)) r18 (by show 2 ≤ 3; decide)
            have an8 : AnO K H8 (.ref pa) (some fz) := by
              have q := (gz'.an.kt (.same (s8.trans s9)))
              rw [ev, ew] at q
              exact q
            refine ⟨_, r18, Xk.size_lt (by rw [List.length_map]; omega), Xk.same_mut (s8.trans s9) hd, R2 ++ [(a8, clR j z'.n E (.ref pa) (some fz) e.2)], by rw [upd_same, List.map_append]; rfl, ?_, fun y hy => ?_⟩
            · rw [List.map_append, r2, List.take_add_one, he, List.map_append, List.map_append]
              rfl
            · rcases List.mem_append.mp hy with hy | hy
              · exact ((r3 y hy).kt (.same s9)).kt kt9
              · rw [List.mem_singleton.mp hy]
                exact ((re.kt (.same s9)).clR h9 an8 hE).kt kt9
          rintro d H8 hd ⟨s8, R2, r1, r2, r3⟩
          rw [List.length_map, List.take_length] at r2
          have n7 := W'.fresh hd
          have fd := Xk.free_back hd W'.sm
          have nboc3 : b ≠ d := Xk.ne_new hd B'.at_
          have ndoc : d ≠ oc2 := (Xk.ne_new hd g7).symm
          have W8 := W'.same s8
          have hdn := P'.dn z' hz' fz.1 fz.2 ew
          rw [ec] at hdn
          have T8 := t'.close r2 hdn
          have P8 := P'.close (c := j) (n := z'.n) (E := E) (v := .ref pa) (w := some fz) r2
          have hlen : R2.length = R.length := by
            have z := congrArg List.length r2
            simp only [List.length_map] at z
            exact z
          have g8 := s8 _ _ g7
          rw [← ef] at g8
          have sub : (Z'.filter fun z => !decide (z.c = (j : Int))).Sublist Z' := List.filter_sublist
          have zlen : (Z'.filter fun z => !decide (z.c = (j : Int))).length ≤ Z.length := by
            rw [ef]
            exact List.length_filter_le _ _
          have bno := B'.no
          simp only [List.mem_cons, not_or] at n7 n56 bno
          have W9 := W8.close sub ⟨r1, r3⟩ g8 fd foc2 (by
            simp only [List.mem_cons, not_or]
            exact ⟨n7.1, ndoc, n7.2.2.2.1, n7.2.2.2.2⟩) (by
            simp only [List.mem_cons, not_or]
            rw [em]
            exact ⟨n56.1, n56.2.2.2.1, n56.2.2.2.2⟩)
          refine ⟨_, _, _, _, d, oc2, kvs', R2, O', _, ns, n', rfl, W9, P8, T8.le (by omega), by omega, by omega, ⟨s8 _ _ B'.at_, B'.fr, ?_⟩⟩
          simp only [List.mem_cons, not_or]
          exact ⟨bno.1, nboc3, nboc2, bno.2.2.2.1, fun z => bno.2.2.2.2 ((sub.map Oc.a).subset z)⟩
        · obtain ⟨m', hm'⟩ := Xk.lt_at (xs := ns) (j := j) (by have z := P.nl; omega)
          have hjl := Xk.at_lt hm'
          have hcz : ∀ z ∈ Z, z.c ≠ (j : Int) := fun z hz e => hin (by rw [← e]; exact List.mem_map_of_mem hz)
          have hnm := W.hnm
          wtm_at "xs"
          refine Xk.x_setL (j := j) hnm (Xk.ixN_nat (by rw [List.length_map]; exact hjl)) ?_
          have e9 : (ns.map V.int).set j (.int (m' + 1)) = (ns.set j (m' + 1)).map V.int := (List.map_set ..).symm
          rw [e9]
          replace W := W.setn (ns.set j (m' + 1))
          have B5 : Bx H (upd H4 nm (.lst ((ns.set j (m' + 1)).map V.int))) b n3 o h oc nm Z := ⟨(upd_ne (fun z => by
            have no := B4.no
            rw [z] at no
            exact no (List.mem_cons_of_mem _ (List.mem_cons_of_mem _ (List.mem_cons_of_mem _ (List.mem_cons_self ..)))))).trans B4.at_, B4.fr, B4.no⟩
          have hkv : KvOk ks kvs := by rw [t.st]; exact stB_ok (fun e he => (W.hh.it e he).rok) O
          generalize upd H4 nm (.lst ((ns.set j (m' + 1)).map V.int)) = H5 at W B5 ⊢
          have hf5 := W.sm _ _ hf
          wtm_at "xs"
          refine ⟨b, f, r, n3, ks, kvs, rfl, B5.at_, hf5, Xk.ne_new B5.fr hf, hok, hl1, hl5, W.hr, hkv, fun H6 n6 dp C D b6 hb6 hD hDk _ => ?_⟩
          replace W := W.box B5 b6
          have B6 : Bx H H6 b n6 o h oc nm Z := ⟨hb6, B5.fr, B5.no⟩
          have hnm6 := W.hnm
          have hmm : (ns.set j (m' + 1))[j]? = some (m' + 1) := List.getElem?_set_self hjl
          have hoc6 := W.hoc
          wtm_at "xs"
          intro za H7 hza s7 h7
          have nza := W.fresh hza
          have nzb : za ≠ b := (Xk.ne_new hza hb6).symm
          have fza := Xk.free_back hza W.sm
          replace W := W.same s7
          have hb7 := s7 _ _ hb6
          have hoc7 := W.hoc
          have hz7 : (Z.map fun z => V.ref z.a).length < 100000 := by rw [List.length_map]; omega
          have oz : OcAt K ks H7 ⟨za, j, m' + 1, dp, C, D, .non, none⟩ := ⟨h7, hD.same s7, hDk, .inl ⟨rfl, rfl⟩⟩
          wtm_at "xs"
          have W8 := W.addz oz fza nza
          have no6 := B6.no
          have nboc : b ≠ oc := fun e => no6 (by rw [e]; exact List.mem_cons_of_mem _ (List.mem_cons_of_mem _ (List.mem_cons_self ..)))
          have nbh : b ≠ h := fun e => no6 (by rw [e]; exact List.mem_cons_of_mem _ (List.mem_cons_self ..))
          have hb8 : upd H7 oc (.lst ((Z.map fun z => V.ref z.a) ++ [.ref za])) b = some (.lst [.int n6]) := (upd_ne nboc).trans hb7
          generalize upd H7 oc (.lst ((Z.map fun z => V.ref z.a) ++ [.ref za])) = H8 at W8 hb8 ⊢
          have hnm8 := W8.hnm
          clear hnm hnm6 W hocl hoc6 hoc7
          have hh8 := W8.hh.lst
          wtm_at "xs"
          intro ra H9 hra s9 h9
          have W9 := W8.same s9
          have hb9 := s9 _ _ hb8
          have hh9 := W9.hh.lst
          have hr9 : (R.map fun e => V.ref e.1).length < 100000 := by rw [List.length_map]; omega
          have oz9 := W9.hz ⟨za, j, m' + 1, dp, C, D, .non, none⟩ (List.mem_append_right _ (List.mem_singleton.mpr rfl))
          have re : RcAt K ks H9 ra ⟨j, m' + 1, dp, C, D, E, none, .non, none⟩ := ⟨h9, oz9.dl, oz9.kk, .inl ⟨rfl, rfl⟩, hE, fun e he => (by cases he)⟩
          wtm_at "xs"
          have W10 := W9.addr (e := (ra, ⟨j, m' + 1, dp, C, D, E, none, .non, none⟩)) re
          have pa := P.ask t hm' hcz (a := ra) (a' := za) (da := dp) (C := C) (D := D)
          refine ⟨_, _, _, _, h, oc, kvs, _, O, _, _, n6, rfl, W10, pa.1, t.app pa.2 rfl rfl rfl, by rw [List.length_append]; exact Nat.succ_le_succ hRl, by rw [List.length_append]; exact Nat.succ_le_succ hZl, ⟨(upd_ne nbh).trans hb9, B6.fr, ?_⟩⟩
          have ez : o :: h :: oc :: nm :: (Z ++ [⟨za, j, m' + 1, dp, C, D, .non, none⟩] : List Oc).map Oc.a = (o :: h :: oc :: nm :: Z.map Oc.a) ++ [za] := by rw [List.map_append]; rfl
          rw [ez]
          intro hmem
          rcases List.mem_append.mp hmem with z | z
          · exact no6 z
          · exact nzb (List.mem_singleton.mp z).symm
    · rintro σ' H4 ⟨y12, y13, y14, y15, h, oc, kvs, R, O, Z, ns, n4, rfl, W, P, t, hRl, hZl, B⟩
      have hocl := W.hoc
      have er : ∀ Z' : List Oc, Z'.map Oc.a = Z.map Oc.a → (Z'.map fun z => V.ref z.a) = Z.map fun z => V.ref z.a := fun Z' h => by
        have z := congrArg (List.map V.ref) h
        rw [List.map_map, List.map_map] at z
        exact z
      wtm_at "xs"
      refine Xk.x_forL (xs := Z.map fun z => V.ref z.a) (fun l σ' H' => ∃ (y12 : Option V) (kvs' : Kvs) (O' : Os) (Z' : List Oc) (n' : Int), σ' = [some (.ref a), some (.ref f), some (.int m), some (.ref r), some (.ref o), some (.ref h), some (.int (E + 1)), some (.ref oc), some (.ref nm), some (.int i), some (.ref b), some (.int j), y12, y13, y14, y15] ∧
        Hw K ks H H' r o h oc nm kvs' R O' Z' ns ∧ Op R O' Z' ns ∧ Tr R O' (E + 1) kvs' ∧ Bx H H' b n' o h oc nm Z' ∧ Z'.map Oc.a = Z.map Oc.a) (Xk.sq_of hocl) ⟨_, kvs, O, Z, n4, rfl, W, P, t, B, rfl⟩ (fun l σ' H' _ ⟨_, _, _, Z', _, _, W', _, _, _, e⟩ => Xk.sq_of (by rw [← er Z' e]; exact W'.hoc)) ?_ ?_
      · rintro l x σ' H5 hl' ⟨y12', kvs', O', Z', n', rfl, W', P', t', B', ea⟩
        obtain ⟨z0, hz0, rfl⟩ := Xk.of_map_at hl'
        have zlen : Z'.length = Z.length := by
          have z := congrArg List.length ea
          rw [List.length_map, List.length_map] at z
          exact z
        obtain ⟨z, hz⟩ := Xk.lt_at (xs := Z') (j := l) (by have z := Xk.at_lt hz0; omega)
        have eza : z0.a = z.a := by
          have h1 : (Z'.map Oc.a)[l]? = some z.a := Xk.map_at hz
          rw [ea] at h1
          have h2 : (Z.map Oc.a)[l]? = some z0.a := Xk.map_at hz0
          rw [h2] at h1
          exact Option.some.inj h1
        rw [eza]
        have hm := List.mem_of_getElem? hz
        have g := W'.hz z hm
        have gl := g.lst
        have hba := B'.at_
        unfold Oc.xs at gl
        wtm_at "xs"
        rcases g.an with ⟨v1, v2⟩ | ⟨pa, w, ds, v1, v2, v3⟩
        · rw [v1]
          wtm_at "xs"
          refine draw (z := 3) hba ⟨by decide, by decide⟩ fun j5 n5 H6 hj5 b6 hb6 => ?_
          replace W' := W'.box B' b6
          replace B' : Bx H H6 b n5 o h oc nm Z' := ⟨hb6, B'.fr, B'.no⟩
          wtm_at "xs"
          refine Xk.x_itd (fun c => ?_) (fun c => ?_)
          · wtm_at "xs"
            refine fate_step W' P' t' B' (by omega) (by have q := t'.len; omega) hz v2 fun H7 p n7 kvs7 O7 f7 k7 e7 P7 t7 W7 B7 => ?_
            unfold Oc.xs at e7
            wtm_at "xs"
            refine Xk.x_setL (j := 3) e7 rfl ?_
            refine ⟨_, kvs7, O7, _, n7, rfl, W7, P7, t7, B7, ?_⟩
            exact (map_set_eq (f := Oc.a) (y := { z with v := .ref p, w := some f7 }) hz rfl).trans ea
          · wtm_at "xs"
            exact ⟨_, kvs', O', Z', n5, rfl, W', P', t', B', ea⟩
        · rw [v1]
          wtm_at "xs"
          exact ⟨_, kvs', O', Z', n', rfl, W', P', t', B', ea⟩
      · rintro σ' H5 ⟨y12', kvs', O', Z', n', rfl, W', P', t', B', ea⟩
        have zlen : Z'.length = Z.length := by
          have z := congrArg List.length ea
          rw [List.length_map, List.length_map] at z
          exact z
        exact ⟨_, _, _, _, _, _, _, h, oc, E + 1, kvs', R, O', Z', ns, rfl, W', P', t', by omega, hRl, by omega⟩
  · rintro σ' H1 ⟨y9, y10, y11, y12, y13, y14, y15, h, oc, E, kvs, R, O, Z, ns, rfl, W, P, t, hE, hRl, hZl⟩
    have tl := t.len
    wtm_at "xs"
    intro p H2 hp s2 h2
    exact q H2 p h o R O E kvs (W.sm.trans s2) (Xk.free_back hp W.sm) h2 (W.hh.same s2) (W.ho.same s2) t (by omega) (by omega)
--CUT--
def othR (c n : Int) (v : V) (r : Rc) : Rc := if (r.c = c ∧ r.n = n) ∧ r.e ≠ none then { r with v := v, w := some (Str.ofString "busy", []) } else r
theorem othR_eq (c n : Int) (v : V) (r : Rc) : (othR c n v r).c = r.c ∧ (othR c n v r).n = r.n := by
  unfold othR
  split <;> exact ⟨rfl, rfl⟩
def sp__law_other (K : PySem.W.Frag) : Sp := fun vs H Q _ => ∃ a t r c n ks, vs = [.ref a, .ref t] ∧ RcAt K ks H a r ∧ H t = some (.tup [.int c, .int n]) ∧ ∀ H' a' v, Same H H' → RcAt K ks H' a' (othR c n v r) → Q (.ref a') H'
theorem ok__law_other (T : Txt K mg) : FnOk P w K mg base CX0 1 T.f__law_other T.d__law_other ["record", "name"] (sp__law_other K) := by
  refine T.F__law_other.ok sc__law_other (fun vs H Q E h => ?_) (fun cdv A outer s H vs Q E hr h => ?_)
  · obtain ⟨a, t, r, c, n, ks, rfl, _⟩ := h
    rfl
  obtain ⟨a, t, r, c, n, ks, rfl, ha, ht, q⟩ := h
  refine ⟨_, (Evl.pss_cut (ps_if (PW.pt (pw_and (pt_cmpR (Xk.k_eqD (K := K) hr.units (by rfl)) (pe_slice sl_tupA (pv 0) po_none (po_some (pe_int))) (pv 1) (nomark _)) (pw_and1 (pt_cmpR Xk.op_nNotN (pe_ix (Xk.k_ixT (K := K) (by rfl)) (pv 0) (pe_int) (fun _ _ => rfl)) (pe_non) (nomark _))))) (pss_one (ps_ret (pe_op op_catA (pe_slice sl_tupA (pv 0) po_none (po_some (pe_int))) (pe_tup (pa_cons (pe_tup (pa_cons (pe_str) pa_nil)) pa_nil))))) pss_nil)
      (pss_one (ps_ret (pv 0)))), ?_⟩
  have ha' := ha.tp
  unfold Rc.xs at ha'
  wtm_at "x0"
  refine Xk.x_nocut ?_
  wtm_at "xs"
  refine Xk.x_slA ha' fun p2 H2 s2 h2 => ?_
  have ec : cutV [V.int r.c, V.int r.n, V.ref r.da, V.int r.k, oi r.e, r.v] none (some 2) = [r.c, r.n].map V.int := rfl
  rw [ec] at h2
  have ht2 := s2 _ _ ht
  have ha2 := s2 _ _ ha'
  wtm_at "xs"
  refine Xk.x_eqTInts (ns := [r.c, r.n]) (ms := [c, n]) (Xk.st_of h2) (Xk.st_of ht2) ?_
  wtm_at "xs"
  have no : ¬ ((r.c = c ∧ r.n = n) ∧ r.e ≠ none) → ∀ H', Same H H' → Q (.ref a) H' := fun z H' s => q H' a .non s (by
    have e : othR c n .non r = r := if_neg z
    rw [e]
    exact ha.kt (.same s))
  by_cases z : [r.c, r.n] = [c, n]
  · have z' : r.c = c ∧ r.n = n := by
      injection z with z1 z2
      injection z2 with z2 _
      exact ⟨z1, z2⟩
    rw [decide_eq_true z]
    cases ee : r.e with
    | none =>
      rw [ee] at ha2
      change H2 a = some (.tup [.int r.c, .int r.n, .ref r.da, .int r.k, .non, r.v]) at ha2
      wtm_at "xs"
      exact no (fun y => y.2 ee) H2 s2
    | some u =>
      have ha2' := ha2
      rw [ee] at ha2
      change H2 a = some (.tup [.int r.c, .int r.n, .ref r.da, .int r.k, .int u, r.v]) at ha2
      wtm_at "xs"
      refine Xk.x_slA ha2 fun p4 H4 s4 h4 => ?_
      have ec : cutV [V.int r.c, V.int r.n, V.ref r.da, V.int r.k, V.int u, r.v] none (some 5) = [V.int r.c, V.int r.n, V.ref r.da, V.int r.k, V.int u] := rfl
      rw [ec] at h4
      wtm_at "xs"
      intro p5 H5 hp5 s5 h5
      wtm_at "xs"
      intro p6 H6 hp6 s6 h6
      refine Xk.x_catB ((s5.trans s6) _ _ h4) h6 (Nat.le_of_ble_eq_true rfl) fun p7 H7 s7 h7 => ?_
      have e : othR c n (.ref p5) r = { r with v := .ref p5, w := some (Str.ofString "busy", []) } := if_pos ⟨z', by rw [ee]; exact fun y => by cases y⟩
      have s27 := s4.trans (s5.trans (s6.trans s7))
      have s07 := s2.trans s27
      have h57 := (s6.trans s7) _ _ h5
      refine q H7 p7 (.ref p5) s07 ?_
      rw [e]
      have g := ha.kt (.same s07)
      refine ⟨?_, g.dl, g.kk, .inr ⟨p5, _, _, rfl, rfl, busy_ok h57⟩, g.k0, g.e0⟩
      unfold Rc.xs
      rw [ee]
      exact h7
  · rw [decide_eq_false z]
    wtm_at "xs"
    exact no (fun y => z (by rw [y.1.1, y.1.2])) H2 s2
/-- what stays though a box changes -/
theorem HsAt.box {ks : List Str} {H H' : Hp} {h b : Addr} {n : Int} {R : Rs} (g : HsAt K ks H h R) (k : Xk.But b H H') (hb : H b = some (.lst [.int n])) (nb : h ≠ b) : HsAt K ks H' h R :=
  ⟨k _ _ nb g.lst, fun e he => (g.it e he).kt (.but k hb (by show 2 ≤ 3; decide))⟩
theorem OrAt.box {H H' : Hp} {h b : Addr} {n : Int} {R : Os} (g : OrAt K H h R) (k : Xk.But b H H') (hb : H b = some (.lst [.int n])) (nb : h ≠ b) : OrAt K H' h R :=
  ⟨k _ _ nb g.lst, fun e he => (g.it e he).kt (.but k hb (by show 2 ≤ 3; decide))⟩
theorem cut_any (O : Os) (lo hi : Option Int) : ∃ M : Os, M.Sublist O ∧ cutV (O.map fun e => V.ref e.1) lo hi = M.map fun e => V.ref e.1 := by
  unfold cutV
  refine ⟨(O.drop (HT.sIx (O.map fun e => V.ref e.1).length 0 lo)).take (HT.sIx (O.map fun e => V.ref e.1).length (O.map fun e => V.ref e.1).length hi - HT.sIx (O.map fun e => V.ref e.1).length 0 lo), (List.take_sublist _ _).trans (List.drop_sublist _ _), ?_⟩
  rw [List.map_take, List.map_drop]
def sp__law_changed (K : PySem.W.Frag) : Sp := fun vs H Q _ => ∃ (h o b : Addr) (n : Int) (R : Rs) (O : Os) (ks : List Str), vs = [.ref h, .ref o, .ref b] ∧ HsAt K ks H h R ∧ OrAt K H o O ∧ H b = some (.lst [.int n]) ∧ h ≠ b ∧ o ≠ b ∧ Nn R ∧ R.length ≤ 30 ∧ O.length ≤ 30 ∧
  ∀ H' p h' o' R' O', Xk.But b H H' → H' p = some (.lst [.ref h', .ref o']) → HsAt K ks H' h' R' → OrAt K H' o' O' → Nn R' → R'.length ≤ 30 → O'.length ≤ 100 → Q (.ref p) H'
theorem ok__law_changed (T : Txt K mg) : FnOk P w K mg base CX0 2 T.f__law_changed T.d__law_changed ["history", "order", "box"] (sp__law_changed K) := by
  refine T.F__law_changed.ok sc__law_changed (fun vs H Q E h => ?_) (fun cdv A outer s H vs Q E hr h => ?_)
  · obtain ⟨h, o, b, n, R, O, ks, rfl, _⟩ := h
    rfl
  obtain ⟨h, o, b, n, R, O, ks, rfl, hH, hO, hb, nhb, nob, hN, hRl, hOl, q⟩ := h
  refine ⟨_, (pss_cons (ps_set (i := 3) sc__law_changed.nd rfl (Or.inl rfl) (pe_call (ok__law_take T) (hr.mono (by decide)) (by rfl) T.g__law_take T.F__law_take.kp T.b__law_take .nil pass0 (pa_cons (pv 2) (pa_cons (pe_int) pa_nil))))
      (Evl.pss_cut (ps_if (pt_cmpR op_eq (pe_callB (Xk.k_len (K := K) (by rfl)) (by rfl) T.m_len PySem.boot_len (pa_cons (pv 1) pa_nil)) (pe_int) (nomark _)) (pss_one (ps_ret (pe_lst (pa_cons (pv 0) (pa_cons (pe_lst (pa_cons (pe_tup (pa_cons (pe_int) (pa_cons (pe_int) (pa_cons (pe_tup (pa_cons (pe_str) (pa_cons (pe_tup pa_nil) pa_nil))) pa_nil)))) pa_nil)) pa_nil))))) pss_nil)
      (pss_cons (ps_set (i := 4) sc__law_changed.nd rfl (Or.inl rfl) (pe_call (ok__law_take T) (hr.mono (by decide)) (by rfl) T.g__law_take T.F__law_take.kp T.b__law_take .nil pass0 (pa_cons (pv 2) (pa_cons (pe_callB (Xk.k_len (K := K) (by rfl)) (by rfl) T.m_len PySem.boot_len (pa_cons (pv 1) pa_nil)) pa_nil))))
      (pss_cons (ps_set (i := 5) sc__law_changed.nd rfl (Or.inr rfl) (pe_ix (Xk.k_ixL (K := K) (by rfl)) (pv 1) (pv 4) (fun _ _ => rfl)))
      (Evl.pss_cut (ps_if (pt_cmpR op_eq (pv 3) (pe_int) (nomark _)) (pss_one (ps_ret (pe_lst (pa_cons (pv 0) (pa_cons (pe_op op_cat (pe_slice (Xk.k_slL (K := K) (by rfl)) (pv 1) po_none (po_some (pv 4))) (pe_slice (Xk.k_slL (K := K) (by rfl)) (pv 1) (po_some (pe_op op_add (pv 4) (pe_int))) po_none)) pa_nil))))) pss_nil)
      (Evl.pss_cut (ps_if (pt_cmpR op_eq (pv 3) (pe_int) (nomark _)) (pss_one (ps_ret (pe_lst (pa_cons (pv 0) (pa_cons (pe_op op_cat (pv 1) (pe_lst (pa_cons (pv 5) pa_nil))) pa_nil))))) pss_nil)
      (Evl.pss_cut (ps_if (pt_cmpR op_eq (pv 3) (pe_int) (nomark _)) (pss_one (ps_ret (pe_lst (pa_cons (pv 0) (pa_cons (pe_op op_cat (pe_op op_cat (pe_slice (Xk.k_slL (K := K) (by rfl)) (pv 1) po_none (po_some (pv 4))) (pe_lst (pa_cons (pe_tup (pa_cons (pe_op op_sub (pe_int) (pe_ix (Xk.k_ixT (K := K) (by rfl)) (pv 5) (pe_int) (fun _ _ => rfl))) (pa_cons (pe_int) (pa_cons (pe_ix (Xk.k_ixT (K := K) (by rfl)) (pv 5) (pe_int) (fun _ _ => rfl)) pa_nil)))) pa_nil))) (pe_slice (Xk.k_slL (K := K) (by rfl)) (pv 1) (po_some (pe_op op_add (pv 4) (pe_int))) po_none)) pa_nil))))) pss_nil)
      (Evl.pss_cut (ps_if (pt_cmpR op_eq (pv 3) (pe_int) (nomark _)) (pss_one (ps_ret (pe_lst (pa_cons (pv 0) (pa_cons (pe_op op_cat (pe_op op_cat (pe_slice (Xk.k_slL (K := K) (by rfl)) (pv 1) po_none (po_some (pv 4))) (pe_lst (pa_cons (pe_op op_catA (pe_slice sl_tupA (pv 5) po_none (po_some (pe_int))) (pe_tup (pa_cons (pe_tup (pa_cons (pe_str) (pa_cons (pe_tup (pa_cons (pe_int) pa_nil)) pa_nil))) pa_nil))) pa_nil))) (pe_slice (Xk.k_slL (K := K) (by rfl)) (pv 1) (po_some (pe_op op_add (pv 4) (pe_int))) po_none)) pa_nil))))) pss_nil)
      (Evl.pss_cut (ps_if (pt_cmpR op_eq (pv 3) (pe_int) (nomark _)) (pss_one (ps_ret (pe_lst (pa_cons (pv 0) (pa_cons (pe_op op_cat (pe_op op_cat (pe_op op_cat (pe_slice (Xk.k_slL (K := K) (by rfl)) (pv 1) po_none (po_some (pv 4))) (pe_slice (Xk.k_slL (K := K) (by rfl)) (pv 1) (po_some (pe_op op_add (pv 4) (pe_int))) (po_some (pe_op op_add (pv 4) (pe_int))))) (pe_lst (pa_cons (pv 5) pa_nil))) (pe_slice (Xk.k_slL (K := K) (by rfl)) (pv 1) (po_some (pe_op op_add (pv 4) (pe_int))) po_none)) pa_nil))))) pss_nil)
      (Evl.pss_cut (ps_if (pt_cmpR op_eq (pv 3) (pe_int) (nomark _)) (pss_one (ps_ret (pe_lst (pa_cons (pe_lc (own := [("one", 6)]) (g := gName 6) (tt := tYes) rfl sc__law_changed.nd  (pi_list (pv 0)) (blkOk_by (N := N__law_changed) (sc := defScope s__law_changed) (own := [("one", 6)]) (by decide +kernel)) (fun _ _ _ _ _ => pg_name (i := 6) sc__law_changed.nd rfl (Or.inl rfl)) (fun _ _ _ _ _ => pts_nil) (fun _ _ _ _ _ => (pe_call (ok__law_other T) (hr.mono (by decide)) (by rfl) T.g__law_other T.F__law_other.kp T.b__law_other .nil pass0 (pa_cons (pv 6) (pa_cons (pe_slice (Xk.k_slT (K := K) (by rfl)) (pv 5) po_none (po_some (pe_int))) pa_nil))))) (pa_cons (pv 1) pa_nil))))) pss_nil)
      (pss_one (ps_ret (pe_lst (pa_cons (pv 0) (pa_cons (pe_op op_cat (pe_slice (Xk.k_slL (K := K) (by rfl)) (pv 1) (po_some (pv 4)) po_none) (pe_slice (Xk.k_slL (K := K) (by rfl)) (pv 1) po_none (po_some (pv 4)))) pa_nil))))))))))))))), ?_⟩
  wtm_at "x0"
  wtm_at "xs"
  refine draw (z := 7) hb ⟨by decide, by decide⟩ fun j n1 H1 hj b1 hb1 => ?_
  have hH1 := hH.box b1 hb nhb
  have hO1 := hO.box b1 hb nob
  have hOl1 := hO1.lst
  clear hH hO hb
  wtm_at "xs"
  refine Xk.x_cut (fun σ' H' => σ' = [some (.ref h), some (.ref o), some (.ref b), some (.int j), none, none, none] ∧ H' = H1 ∧ 1 ≤ O.length) ?_ ?_
  · wtm_at "xs"
    rw [List.length_map]
    refine Xk.x_itd (fun c => ?_) (fun c => ?_)
    · wtm_at "xs"
      intro t1 H2 ht1 s2 h2
      wtm_at "xs"
      intro t2 H3 ht2 s3 h3
      wtm_at "xs"
      intro t3 H4 ht3 s4 h4
      wtm_at "xs"
      intro l5 H5 hl5 s5 h5
      wtm_at "xs"
      intro p6 H6 hp6 s6 h6
      have s36 := s4.trans (s5.trans s6)
      have s26 := s3.trans s36
      have s16 := s2.trans s26
      have an : AnAt K H6 t2 (Str.ofString "done") [.tuple []] := ⟨⟨[.ref t1], s36 _ _ h3, Xk.pk_cons (Xk.pk_tup (n := 1) (Xk.st_of (s26 _ _ h2)) Xk.pk_nil) Xk.pk_nil⟩, by decide +kernel⟩
      exact q H6 p6 h l5 R [(t3, ⟨0, 99, t2, Str.ofString "done", [.tuple []]⟩)] (Xk.but_trans b1 (Xk.but_same s16)) h6 (hH1.same s16) ⟨s6 _ _ h5, fun e he => by rw [List.mem_singleton.mp he]; exact ⟨(s5.trans s6) _ _ h4, an⟩⟩ hN hRl (by show 1 ≤ 100; decide)
    · wtm_at "xs"
      refine ⟨rfl, rfl, ?_⟩
      have c' : ¬ ((O.length : Int) = 0) := fun e => c (by rw [e])
      omega
  rintro σ' H' ⟨rfl, rfl, hO0⟩
  wtm_at "xs"
  rw [List.length_map]
  refine draw hb1 ⟨by omega, by omega⟩ fun at_ n2 H2 hat b2 hb2 => ?_
  have hH2 := hH1.box b2 hb1 nhb
  have hO2 := hO1.box b2 hb1 nob
  have hl2 := hO2.lst
  have b02 := Xk.but_trans b1 b2
  clear hH1 hO1 hOl1 b1 b2 hb1
  obtain ⟨e, he⟩ := Xk.lt_at (xs := O) (j := at_) (by omega)
  have hem := List.mem_of_getElem? he
  have oe := hO2.it e hem
  have ot := oe.tp
  have fin : ∀ (H' : Hp) (p o' : Addr) (O' : Os), Same H2 H' → H' p = some (.lst [.ref h, .ref o']) → H' o' = some (.lst (O'.map fun e => V.ref e.1)) → (∀ x ∈ O', OeAt K H' x.1 x.2) → O'.length ≤ 100 → Q (.ref p) H' := fun H' p o' O' s h1 h2 h3 h4 =>
    q H' p h o' R O' (Xk.but_trans b02 (Xk.but_same s)) h1 (hH2.same s) ⟨h2, h3⟩ hN hRl h4
  have old : ∀ (H' : Hp), Same H2 H' → ∀ x ∈ O, OeAt K H' x.1 x.2 := fun H' s x hx => (hO2.it x hx).kt (.same s)
  wtm_at "xs"
  refine Xk.x_cut (fun σ' H' => σ' = [some (.ref h), some (.ref o), some (.ref b), some (.int j), some (.int at_), some (.ref e.1), none] ∧ H' = H2) ?_ ?_
  · wtm_at "xs"
    refine Xk.x_itd (fun c => ?_) (fun c => ?_)
    · wtm_at "xs"
      intro k3 H3 hk3 s3 h3
      obtain ⟨M1, m1, e1⟩ := cut_any O none (some (at_ : Int))
      rw [e1] at h3
      have l3 := s3 _ _ hl2
      wtm_at "xs"
      intro k4 H4 hk4 s4 h4
      obtain ⟨M2, m2, e2⟩ := cut_any O (some ((at_ : Int) + 1)) none
      rw [e2] at h4
      have z1 := m1.length_le
      have z2 := m2.length_le
      refine Xk.x_cat (s4 _ _ h3) h4 (by simp only [List.length_map]; omega) fun k5 H5 hk5 s5 h5 => ?_
      wtm_at "xs"
      intro p6 H6 hp6 s6 h6
      have s26 := s3.trans (s4.trans (s5.trans s6))
      refine fin H6 p6 k5 (M1 ++ M2) s26 h6 (by rw [List.map_append]; exact s6 _ _ h5) (fun x hx => ?_) (by rw [List.length_append]; omega)
      rcases List.mem_append.mp hx with hx | hx
      · exact old H6 s26 x (m1.subset hx)
      · exact old H6 s26 x (m2.subset hx)
    · wtm_at "xs"
      exact ⟨rfl, rfl⟩
  rintro σ' H' ⟨rfl, rfl⟩
  refine Xk.x_cut (fun σ' H2 => σ' = [some (.ref h), some (.ref o), some (.ref b), some (.int j), some (.int at_), some (.ref e.1), none] ∧ H2 = H') ?_ ?_
  · wtm_at "xs"
    refine Xk.x_itd (fun c => ?_) (fun c => ?_)
    · wtm_at "xs"
      intro k3 H3 hk3 s3 h3
      refine Xk.x_cat (s3 _ _ hl2) h3 (by simp only [List.length_map, List.length_cons, List.length_nil]; omega) fun k5 H5 hk5 s5 h5 => ?_
      wtm_at "xs"
      intro p6 H6 hp6 s6 h6
      have s26 := s3.trans (s5.trans s6)
      refine fin H6 p6 k5 (O ++ [e]) s26 h6 (by rw [List.map_append]; exact s6 _ _ h5) (fun x hx => ?_) (by rw [List.length_append]; show O.length + 1 ≤ 100; omega)
      rcases List.mem_append.mp hx with hx | hx
      · exact old H6 s26 x hx
      · rw [List.mem_singleton.mp hx]
        exact old H6 s26 e hem
    · wtm_at "xs"
      exact ⟨rfl, rfl⟩
  rintro σ' H2 ⟨rfl, rfl⟩
  refine Xk.x_cut (fun σ' H' => σ' = [some (.ref h), some (.ref o), some (.ref b), some (.int j), some (.int at_), some (.ref e.1), none] ∧ H' = H2) ?_ ?_
  · wtm_at "xs"
    refine Xk.x_itd (fun c => ?_) (fun c => ?_)
    · wtm_at "xs"
      intro k3 H3 hk3 s3 h3
      obtain ⟨M1, m1, e1⟩ := cut_any O none (some (at_ : Int))
      rw [e1] at h3
      have z1 := m1.length_le
      have ot3 := s3 _ _ ot
      wtm_at "xs"
      intro t4 H4 ht4 s4 h4
      wtm_at "xs"
      intro k5 H5 hk5 s5 h5
      refine Xk.x_cat ((s4.trans s5) _ _ h3) h5 (by simp only [List.length_map, List.length_cons, List.length_nil]; omega) fun k6 H6 hk6 s6 h6 => ?_
      have l6 := (s3.trans (s4.trans (s5.trans s6))) _ _ hl2
      wtm_at "xs"
      intro k7 H7 hk7 s7 h7
      obtain ⟨M2, m2, e2⟩ := cut_any O (some ((at_ : Int) + 1)) none
      rw [e2] at h7
      have z2 := m2.length_le
      refine Xk.x_cat (s7 _ _ h6) h7 (by simp only [List.length_append, List.length_map, List.length_cons, List.length_nil]; omega) fun k8 H8 hk8 s8 h8 => ?_
      wtm_at "xs"
      intro p9 H9 hp9 s9 h9
      have s49 := s5.trans (s6.trans (s7.trans (s8.trans s9)))
      have s29 := s3.trans (s4.trans s49)
      have oe9 := old H9 s29 e hem
      refine fin H9 p9 k8 (M1 ++ [(t4, ⟨3 - e.2.c, 90, e.2.p, e.2.w, e.2.ds⟩)] ++ M2) s29 h9 (by rw [List.map_append, List.map_append]; exact s9 _ _ h8) (fun x hx => ?_) (by simp only [List.length_append, List.length_cons, List.length_nil]; omega)
      rcases List.mem_append.mp hx with hx | hx
      · rcases List.mem_append.mp hx with hx | hx
        · exact old H9 s29 x (m1.subset hx)
        · rw [List.mem_singleton.mp hx]
          exact ⟨s49 _ _ h4, oe9.an⟩
      · exact old H9 s29 x (m2.subset hx)
    · wtm_at "xs"
      exact ⟨rfl, rfl⟩
  rintro σ' H' ⟨rfl, rfl⟩
  refine Xk.x_cut (fun σ' H2 => σ' = [some (.ref h), some (.ref o), some (.ref b), some (.int j), some (.int at_), some (.ref e.1), none] ∧ H2 = H') ?_ ?_
  · wtm_at "xs"
    refine Xk.x_itd (fun c => ?_) (fun c => ?_)
    · wtm_at "xs"
      intro k3 H3 hk3 s3 h3
      obtain ⟨M1, m1, e1⟩ := cut_any O none (some (at_ : Int))
      rw [e1] at h3
      have z1 := m1.length_le
      have ot3 := s3 _ _ ot
      wtm_at "xs"
      refine Xk.x_slA ot3 fun p4 H4 s4 h4 => ?_
      have ec : cutV [V.int e.2.c, V.int e.2.n, V.ref e.2.p] none (some 2) = [V.int e.2.c, V.int e.2.n] := rfl
      rw [ec] at h4
      wtm_at "xs"
      intro t5 H5 ht5 s5 h5
      wtm_at "xs"
      intro t6 H6 ht6 s6 h6
      wtm_at "xs"
      intro t7 H7 ht7 s7 h7
      have s47 := s5.trans (s6.trans s7)
      refine Xk.x_catB (s47 _ _ h4) h7 (Nat.le_of_ble_eq_true rfl) fun t8 H8 s8 h8 => ?_
      have s38 := s4.trans (s47.trans s8)
      have h38 := s38 _ _ h3
      have hl8 := (s3.trans s38) _ _ hl2
      wtm_at "xs"
      intro k9 H9 hk9 s9 h9
      refine Xk.x_cat (s9 _ _ h38) h9 (by simp only [List.length_map, List.length_cons, List.length_nil]; omega) fun k10 H10 hk10 s10 h10 => ?_
      have hl10 := (s9.trans s10) _ _ hl8
      wtm_at "xs"
      intro k11 H11 hk11 s11 h11
      obtain ⟨M2, m2, e2⟩ := cut_any O (some ((at_ : Int) + 1)) none
      rw [e2] at h11
      have z2 := m2.length_le
      refine Xk.x_cat (s11 _ _ h10) h11 (by simp only [List.length_append, List.length_map, List.length_cons, List.length_nil]; omega) fun k12 H12 hk12 s12 h12 => ?_
      wtm_at "xs"
      intro p13 H13 hp13 s13 h13
      have s8e := s9.trans (s10.trans (s11.trans (s12.trans s13)))
      have s6e := s7.trans (s8.trans s8e)
      have s2e := s3.trans (s38.trans s8e)
      have an : AnAt K H13 t6 (Str.ofString "done") [.tuple [.int 12345]] := ⟨⟨[.ref t5], s6e _ _ h6, Xk.pk_cons (Xk.pk_tup1 (n := 1) (Xk.st_of ((s6.trans s6e) _ _ h5)) Xk.pk_int) Xk.pk_nil⟩, by decide +kernel⟩
      refine fin H13 p13 k12 (M1 ++ [(t8, ⟨e.2.c, e.2.n, t6, Str.ofString "done", [.tuple [.int 12345]]⟩)] ++ M2) s2e h13 (by rw [List.map_append, List.map_append]; exact s13 _ _ h12) (fun x hx => ?_) (by simp only [List.length_append, List.length_cons, List.length_nil]; omega)
      rcases List.mem_append.mp hx with hx | hx
      · rcases List.mem_append.mp hx with hx | hx
        · exact old H13 s2e x (m1.subset hx)
        · rw [List.mem_singleton.mp hx]
          exact ⟨s8e _ _ h8, an⟩
      · exact old H13 s2e x (m2.subset hx)
    · wtm_at "xs"
      exact ⟨rfl, rfl⟩
  rintro σ' H2 ⟨rfl, rfl⟩
  refine Xk.x_cut (fun σ' H' => σ' = [some (.ref h), some (.ref o), some (.ref b), some (.int j), some (.int at_), some (.ref e.1), none] ∧ H' = H2) ?_ ?_
  · wtm_at "xs"
    refine Xk.x_itd (fun c => ?_) (fun c => ?_)
    · wtm_at "xs"
      intro k3 H3 hk3 s3 h3
      obtain ⟨M1, m1, e1⟩ := cut_any O none (some (at_ : Int))
      rw [e1] at h3
      have z1 := m1.length_le
      have l3 := s3 _ _ hl2
      wtm_at "xs"
      intro k4 H4 hk4 s4 h4
      obtain ⟨M2, m2, e2⟩ := cut_any O (some ((at_ : Int) + 1)) (some ((at_ : Int) + 2))
      rw [e2] at h4
      have z2 := m2.length_le
      refine Xk.x_cat (s4 _ _ h3) h4 (by simp only [List.length_map]; omega) fun k5 H5 hk5 s5 h5 => ?_
      wtm_at "xs"
      intro k6 H6 hk6 s6 h6
      refine Xk.x_cat (s6 _ _ h5) h6 (by simp only [List.length_append, List.length_map, List.length_cons, List.length_nil]; omega) fun k7 H7 hk7 s7 h7 => ?_
      have l7 := (s3.trans (s4.trans (s5.trans (s6.trans s7)))) _ _ hl2
      wtm_at "xs"
      intro k8 H8 hk8 s8 h8
      obtain ⟨M3, m3, e3⟩ := cut_any O (some ((at_ : Int) + 2)) none
      rw [e3] at h8
      have z3 := m3.length_le
      refine Xk.x_cat (s8 _ _ h7) h8 (by simp only [List.length_append, List.length_map, List.length_cons, List.length_nil]; omega) fun k9 H9 hk9 s9 h9 => ?_
      wtm_at "xs"
      intro p10 H10 hp10 s10 h10
      have s20 := s3.trans (s4.trans (s5.trans (s6.trans (s7.trans (s8.trans (s9.trans s10))))))
      refine fin H10 p10 k9 (M1 ++ M2 ++ [e] ++ M3) s20 h10 (by rw [List.map_append, List.map_append, List.map_append]; exact s10 _ _ h9) (fun x hx => ?_) (by simp only [List.length_append, List.length_cons, List.length_nil]; omega)
      rcases List.mem_append.mp hx with hx | hx
      · rcases List.mem_append.mp hx with hx | hx
        · rcases List.mem_append.mp hx with hx | hx
          · exact old H10 s20 x (m1.subset hx)
          · exact old H10 s20 x (m2.subset hx)
        · rw [List.mem_singleton.mp hx]
          exact old H10 s20 e hem
      · exact old H10 s20 x (m3.subset hx)
    · wtm_at "xs"
      exact ⟨rfl, rfl⟩
  rintro σ' H' ⟨rfl, rfl⟩
  refine Xk.x_cut (fun σ' H2 => σ' = [some (.ref h), some (.ref o), some (.ref b), some (.int j), some (.int at_), some (.ref e.1), none] ∧ H2 = H') ?_ ?_
  · wtm_at "xs"
    refine Xk.x_itd (fun c => ?_) (fun c => ?_)
    · have hhl := hH2.lst
      wtm_at "xs"
      refine Xk.x_lcL (xs := R.map fun e => V.ref e.1) (fun d i' H3 => Same H' H3 ∧ ∃ R2 : Rs, H3 d = some (.lst (R2.map fun e => V.ref e.1)) ∧ (R2.map fun x => (x.2.c, x.2.n)) = (R.take i').map (fun x => (x.2.c, x.2.n)) ∧ ∀ e ∈ R2, RcAt K ks H3 e.1 e.2) (Xk.sq_of hhl) ?_ ?_ ?_ ?_
      · intro d hd
        exact ⟨Xk.same_fr hd, [], upd_same, rfl, fun e he => (by cases he)⟩
      · rintro d i' H3 hd ⟨s8, _⟩
        exact Xk.sq_of (s8 _ _ hhl)
      · rintro d hd i' x H3 hi' ⟨s8, R2, r1, r2, r3⟩
        obtain ⟨u, hu, rfl⟩ := Xk.of_map_at hi'
        have re := (hH2.it u (List.mem_of_getElem? hu)).kt (.same s8)
        have ot3 := s8 _ _ ot
        wtm_at "xs"
        refine ⟨rfl, ?_⟩
        wtm_at "xs"
        refine Xk.x_slA ot3 fun p4 H4 s4 h4 => ?_
        have ec : cutV [V.int e.2.c, V.int e.2.n, V.ref e.2.p] none (some 2) = [V.int e.2.c, V.int e.2.n] := rfl
        rw [ec] at h4
        wtm_at "xs"
        refine ⟨u.1, p4, u.2, e.2.c, e.2.n, ks, rfl, re.kt (.same s4), h4, fun H5 a5 v5 s5 h5 => ?_⟩
        have r15 := (s4.trans s5) _ _ r1
        have hR2 : R2.length ≤ R.length := by
          have z := congrArg List.length r2
          simp only [List.length_map, List.length_take] at z
          omega
        have kt9 : KT H5 (upd H5 d (.lst ((R2.map fun e => V.ref e.1) ++ [.ref a5]))) := .but (Xk.but_mut (Xk.But.refl _ _)) r15 (by show 2 ≤ 3; decide)
        refine ⟨_, r15, Xk.size_lt (by rw [List.length_map]; omega), Xk.same_mut (s8.trans (s4.trans s5)) hd, R2 ++ [(a5, othR e.2.c e.2.n v5 u.2)], by rw [upd_same, List.map_append]; rfl, ?_, fun y hy => ?_⟩
        · rw [List.map_append, r2, List.take_add_one, hu, List.map_append]
          have z := othR_eq e.2.c e.2.n v5 u.2
          show _ ++ [((othR e.2.c e.2.n v5 u.2).c, (othR e.2.c e.2.n v5 u.2).n)] = _ ++ [(u.2.c, u.2.n)]
          rw [z.1, z.2]
        · rcases List.mem_append.mp hy with hy | hy
          · exact ((r3 y hy).kt (.same (s4.trans s5))).kt kt9
          · rw [List.mem_singleton.mp hy]
            exact h5.kt kt9
      · rintro d H3 hd ⟨s8, R2, r1, r2, r3⟩
        rw [List.length_map, List.take_length] at r2
        wtm_at "xs"
        intro p9 H9 hp9 s9 h9
        have s29 := s8.trans s9
        have hN2 : Nn R2 := by
          have z : (R2.map fun x => (x.2.c, x.2.n)).Pairwise fun a b => ¬ (a.1 = b.1 ∧ a.2 = b.2) := by
            rw [r2]
            exact List.pairwise_map.mpr hN
          exact List.pairwise_map.mp z
        have hlen : R2.length = R.length := by
          have z := congrArg List.length r2
          simp only [List.length_map] at z
          exact z
        exact q H9 p9 d o R2 O (Xk.but_trans b02 (Xk.but_same s29)) h9 ⟨s9 _ _ r1, fun y hy => (r3 y hy).kt (.same s9)⟩ (hO2.same s29) hN2 (by omega) (by omega)
    · wtm_at "xs"
      exact ⟨rfl, rfl⟩
  rintro σ' H2 ⟨rfl, rfl⟩
  wtm_at "xs"
  intro k3 H3 hk3 s3 h3
  obtain ⟨M1, m1, e1⟩ := cut_any O (some (at_ : Int)) none
  rw [e1] at h3
  have l3 := s3 _ _ hl2
  wtm_at "xs"
  intro k4 H4 hk4 s4 h4
  obtain ⟨M2, m2, e2⟩ := cut_any O none (some (at_ : Int))
  rw [e2] at h4
  have z1 := m1.length_le
  have z2 := m2.length_le
  refine Xk.x_cat (s4 _ _ h3) h4 (by simp only [List.length_map]; omega) fun k5 H5 hk5 s5 h5 => ?_
  wtm_at "xs"
  intro p6 H6 hp6 s6 h6
  have s26 := s3.trans (s4.trans (s5.trans s6))
  refine fin H6 p6 k5 (M1 ++ M2) s26 h6 (by rw [List.map_append]; exact s6 _ _ h5) (fun x hx => ?_) (by rw [List.length_append]; omega)
  rcases List.mem_append.mp hx with hx | hx
  · exact old H6 s26 x (m1.subset hx)
  · exact old H6 s26 x (m2.subset hx)
--CUT--
theorem vok_flat {v : V} (h : VOk v) : flatB v = true := by
  rcases h with ⟨i, rfl⟩ | ⟨s', rfl, _⟩ <;> rfl
theorem pk_s {H : Hp} {n : Nat} {s : Str} (h : Ok s) : Xk.Pk K H n (.str s) (.str s) := Xk.pk_str (Xk.lay_str h.2)
theorem Dd.pk {H : Hp} {n : Nat} {d : Dd} (h : d.ok) : ∃ ds, Xk.PkAll K H n d.xs ds := by
  cases d with
  | get k => exact ⟨_, Xk.pk_cons (Xk.pk_str (x := "get") (by decide +kernel)) (Xk.pk_cons (pk_s h) Xk.pk_nil)⟩
  | del k => exact ⟨_, Xk.pk_cons (Xk.pk_str (x := "del") (by decide +kernel)) (Xk.pk_cons (pk_s h) Xk.pk_nil)⟩
  | add k i => exact ⟨_, Xk.pk_cons (Xk.pk_str (x := "add") (by decide +kernel)) (Xk.pk_cons (pk_s h.1) (Xk.pk_cons Xk.pk_int Xk.pk_nil))⟩
  | put k v => exact ⟨_, Xk.pk_cons (Xk.pk_str (x := "put") (by decide +kernel)) (Xk.pk_cons (pk_s h.1) (Xk.pk_cons (pk_fv (.inr h.2)) Xk.pk_nil))⟩
theorem pk_refs {H : Hp} {n : Nat} : ∀ {ps : List Addr}, (∀ p ∈ ps, ∃ d, Xk.Pk K H n (.ref p) d) → ∃ ds, Xk.PkAll K H n (ps.map V.ref) ds
  | [], _ => ⟨[], Xk.pk_nil⟩
  | p :: ps, h => by
    obtain ⟨d, hd⟩ := h p (List.mem_cons_self ..)
    obtain ⟨ds, hds⟩ := pk_refs fun p hp => h p (List.mem_cons_of_mem _ hp)
    exact ⟨_, Xk.pk_cons hd hds⟩
theorem DlAt.pk {H : Hp} {p : Addr} {Cs : List (Addr × Ck)} {D : List (Addr × Dd)} (h : DlAt H p Cs D) : ∃ d, Xk.Pk K H 3 (.ref p) d := by
  obtain ⟨pc, pd', h1, h2, h3⟩ := h.tp
  obtain ⟨d1, k1⟩ := pk_refs (K := K) (H := H) (n := 1) (ps := Cs.map (·.1)) fun p hp => by
    obtain ⟨e, he, rfl⟩ := List.mem_map.mp hp
    have f := h.fv e he
    exact ⟨_, Xk.pk_tup2 (n := 0) (Xk.st_of (h.ck e he)) (pk_s f.1) (pk_fv f.2)⟩
  obtain ⟨d2, k2⟩ := pk_refs (K := K) (H := H) (n := 1) (ps := D.map (·.1)) fun p hp => by
    obtain ⟨e, he, rfl⟩ := List.mem_map.mp hp
    obtain ⟨ds, hds⟩ := Dd.pk (K := K) (H := H) (n := 0) (h.ok e he)
    exact ⟨_, Xk.pk_tup (n := 0) (Xk.st_of (h.dd e he)) hds⟩
  rw [List.map_map] at k1 k2
  exact ⟨_, Xk.pk_tup2 (n := 2) (Xk.st_of h1) (Xk.pk_tup (n := 1) (Xk.st_of h2) k1) (Xk.pk_tup (n := 1) (Xk.st_of h3) k2)⟩
theorem RcAt.pk {ks : List Str} {H : Hp} {a : Addr} {r : Rc} (h : RcAt K ks H a r) : ∃ d, Xk.Pk K H 4 (.ref a) d := by
  obtain ⟨d1, k1⟩ := h.dl.pk (K := K)
  obtain ⟨d2, k2⟩ : ∃ d, Xk.Pk K H 3 (oi r.e) d := by
    cases r.e with
    | none => exact ⟨_, Xk.pk_non⟩
    | some u => exact ⟨_, Xk.pk_int⟩
  obtain ⟨d3, k3⟩ : ∃ d, Xk.Pk K H 3 r.v d := by
    rcases h.an with ⟨e, _⟩ | ⟨p, u, ds, e, _, g⟩
    · rw [e]
      exact ⟨_, Xk.pk_non⟩
    · rw [e]
      exact ⟨_, g.pk⟩
  exact ⟨_, Xk.pk_tup (n := 3) (Xk.st_of h.tp) (Xk.pk_cons Xk.pk_int (Xk.pk_cons Xk.pk_int (Xk.pk_cons k1 (Xk.pk_cons Xk.pk_int (Xk.pk_cons k2 (Xk.pk_cons k3 Xk.pk_nil))))))⟩
theorem OeAt.pk {H : Hp} {a : Addr} {o : Oe} (h : OeAt K H a o) : ∃ d, Xk.Pk K H 4 (.ref a) d := ⟨_, Xk.pk_tup3 (n := 3) (Xk.st_of h.tp) Xk.pk_int Xk.pk_int h.an.pk⟩
theorem firstF_ex {f : Nat → Option Str} {w : Str} {k : Nat} : ∀ {n : Nat}, firstF f n = some (w, k) → f k = some w
  | 0, h => by cases h
  | n + 1, h => by
    have h : (firstF f n).or ((f n).map fun w => (w, n)) = some (w, k) := h
    cases c : firstF f n with
    | some x =>
      rw [c] at h
      cases h
      exact firstF_ex c
    | none =>
      rw [c, Option.none_or] at h
      obtain ⟨u, h1, h2⟩ := Option.map_eq_some_iff.mp h
      cases h2
      exact h1
def Lw (w : Str) : Prop := (PyData.str w).canLay0 = true
theorem f1_lay {R : Rs} {O : Os} {k : Nat} {w : Str} (h : f1 R O k = some w) : Lw w := by
  unfold f1 at h
  split at h
  · cases h
  · split at h
    · split at h
      · cases h
        show (PyData.str _).canLay0 = true
        decide +kernel
      · cases h
    · cases h
      show (PyData.str _).canLay0 = true
      decide +kernel
theorem f2_lay {R : Rs} {O : Os} {k : Nat} {w : Str} (h : f2 R O k = some w) : Lw w := by
  unfold f2 at h
  split at h
  · cases h
  · split at h
    · cases h
    · split at h
      · split at h
        · cases h
        · split at h
          · cases h
          · cases h
            show (PyData.str _).canLay0 = true
            decide +kernel
      · cases h
        show (PyData.str _).canLay0 = true
        decide +kernel
theorem f3_lay {R : Rs} {O : Os} {k : Nat} {w : Str} (h : f3 R O k = some w) : Lw w := by
  unfold f3 at h
  split at h
  · cases h
  · split at h
    · cases h
      show (PyData.str _).canLay0 = true
      decide +kernel
    · cases h
theorem f4_lay {R : Rs} {O : Os} {k : Nat} {w : Str} (h : f4 R O k = some w) : Lw w := by
  unfold f4 at h
  split at h
  · cases h
  · split at h
    · cases h
    · split at h
      · cases h
      · split at h
        · cases h
          show (PyData.str _).canLay0 = true
          decide +kernel
        · cases h
theorem fault_lay {R : Rs} {O : Os} {w : Str} {k : Nat} (h : pfault R O = some (w, k)) : (PyData.str w).canLay0 = true := by
  unfold pfault at h
  rcases Option.or_eq_some_iff.mp h with h | ⟨_, h⟩
  · rcases Option.or_eq_some_iff.mp h with h | ⟨_, h⟩
    · rcases Option.or_eq_some_iff.mp h with h | ⟨_, h⟩
      · exact f1_lay (firstF_ex h)
      · exact f2_lay (firstF_ex h)
    · exact f3_lay (firstF_ex h)
  · exact f4_lay (firstF_ex h)
def sp_law (K : PySem.W.Frag) : Sp := fun vs H Q _ => ∃ (a : Addr) (ns : List Int), vs = [.ref a] ∧ SqL K H a (ns.map V.int) ∧ ns.length ≤ 63 ∧ ∀ H', Q (.bl true) H'
theorem ok_law (T : Txt K mg) : FnOk P w K mg base CX0 10 T.f_law T.d_law ["script"] (sp_law K) := by
  refine T.F_law.ok sc_law (fun vs H Q E h => ?_) (fun cdv A outer s H vs Q E hr h => ?_)
  · obtain ⟨a, ns, rfl, _⟩ := h
    rfl
  obtain ⟨a, ns, rfl, hS, hl, q⟩ := h
  have c0 := T.Cls_Store
  have c1 := T.A_Store_rows
  refine ⟨_, (pss_cons (ps_set (i := 1) sc_law.nd rfl (Or.inl rfl) (pe_lst (pa_cons (pe_call (ok__law_number T) (hr.mono (by decide)) (by rfl) T.g__law_number T.F__law_number.kp T.b__law_number .nil pass0 (pa_cons (pv 0) (pa_cons (pe_int) pa_nil))) pa_nil)))
      (pss_cons (ps_set (i := 2) sc_law.nd rfl (Or.inl rfl) (pe_call (ok__law_keys T) (hr.mono (by decide)) (by rfl) T.g__law_keys T.F__law_keys.kp T.b__law_keys .nil pass0 (pa_cons (pv 1) pa_nil)))
      (pss_cons (ps_set (i := 3) sc_law.nd rfl (Or.inl rfl) (pe_call (ok__law_history T) (hr.mono (by decide)) (by rfl) T.g__law_history T.F__law_history.kp T.b__law_history .nil pass0 (pa_cons (pv 0) (pa_cons (pv 2) (pa_cons (pe_op op_add (pe_int) (pe_call (ok__law_take T) (hr.mono (by decide)) (by rfl) T.g__law_take T.F__law_take.kp T.b__law_take .nil pass0 (pa_cons (pv 1) (pa_cons (pe_int) pa_nil)))) pa_nil)))))
      (pss_cons (ps_set (i := 4) sc_law.nd rfl (Or.inl rfl) (pe_ix (Xk.k_ixL (K := K) (by rfl)) (pv 3) (pe_int) (fun _ _ => rfl)))
      (pss_cons (ps_set (i := 5) sc_law.nd rfl (Or.inl rfl) (pe_ix (Xk.k_ixL (K := K) (by rfl)) (pv 3) (pe_int) (fun _ _ => rfl)))
      (Evl.pss_cut (ps_if (PW.pt (pw_or (pt_cmpR Xk.op_nNotN (pe_call (ok_fault_of T) (hr.mono (by decide)) (by rfl) T.g_fault_of T.F_fault_of.kp T.b_fault_of .nil pass0 (pa_cons (pv 4) (pa_cons (pv 5) pa_nil))) (pe_non) (nomark _)) (pw_or1 (pt_cmpR Xk.op_nNotN (pe_call (ok__law_fault T) (hr.mono (by decide)) (by rfl) T.g__law_fault T.F__law_fault.kp T.b__law_fault .nil pass0 (pa_cons (pv 4) (pa_cons (pv 5) pa_nil))) (pe_non) (nomark _))))) (pss_one (ps_ret (pe_bl))) pss_nil)
      (pss_cons (ps_set (i := 6) sc_law.nd rfl (Or.inl rfl) (pe_dnewK))
      (pss_cons (ps_for PassesOwn.never rfl (pi_list (pv 5)) (pg_name (i := 7) sc_law.nd rfl (Or.inl rfl)) (pss_one (ps_expr (pe_call (ok__law_do T) (hr.mono (by decide)) (by rfl) T.g__law_do T.F__law_do.kp T.b__law_do .nil pass0 (pa_cons (pv 6) (pa_cons (pe_ix (Xk.k_ixT (K := K) (by rfl)) (pe_call (ok__law_record T) (hr.mono (by decide)) (by rfl) T.g__law_record T.F__law_record.kp T.b__law_record .nil pass0 (pa_cons (pv 4) (pa_cons (pe_slice sl_tupA (pv 7) po_none (po_some (pe_int))) pa_nil))) (pe_int) (fun _ _ => rfl)) pa_nil))))))
      (Evl.pss_cut (ps_if (pt_cmpR (op_ne_dictA (Nat.lt_of_succ_lt (hu_of hr))) (Xk.k_fld (K := K) (by rfl) (pe_call (ok_store_behind T) (hr.mono (by decide)) (by rfl) T.g_store_behind T.F_store_behind.kp T.b_store_behind .nil pass0 (pa_cons (pv 4) (pa_cons (pv 5) pa_nil))) rfl) (pv 6) (nomark _)) (pss_one (ps_ret (pe_bl))) pss_nil)
      (pss_cons (ps_set (i := 8) sc_law.nd rfl (Or.inl rfl) (pe_call (ok__law_changed T) (hr.mono (by decide)) (by rfl) T.g__law_changed T.F__law_changed.kp T.b__law_changed .nil pass0 (pa_cons (pv 4) (pa_cons (pv 5) (pa_cons (pe_lst (pa_cons (pe_call (ok__law_number T) (hr.mono (by decide)) (by rfl) T.g__law_number T.F__law_number.kp T.b__law_number .nil pass0 (pa_cons (pv 0) (pa_cons (pe_int) pa_nil))) pa_nil)) pa_nil)))))
      (pss_cons (ps_set (i := 9) sc_law.nd rfl (Or.inl rfl) (pe_lst (pa_cons (pe_callTy (Xk.k_list (K := K) (by rfl)) (by rfl) T.m_list (by decide +kernel) (pa_cons (pe_ix (Xk.k_ixL (K := K) (by rfl)) (pv 8) (pe_int) (fun _ _ => rfl)) pa_nil)) (pa_cons (pe_callTy (Xk.k_list (K := K) (by rfl)) (by rfl) T.m_list (by decide +kernel) (pa_cons (pe_ix (Xk.k_ixL (K := K) (by rfl)) (pv 8) (pe_int) (fun _ _ => rfl)) pa_nil)) pa_nil))))
      (pss_cons (ps_set (i := 10) sc_law.nd rfl (Or.inl rfl) (pe_call (ok_fault_of T) (hr.mono (by decide)) (by rfl) T.g_fault_of T.F_fault_of.kp T.b_fault_of .nil pass0 (pa_cons (pe_ix (Xk.k_ixL (K := K) (by rfl)) (pv 9) (pe_int) (fun _ _ => rfl)) (pa_cons (pe_ix (Xk.k_ixL (K := K) (by rfl)) (pv 9) (pe_int) (fun _ _ => rfl)) pa_nil))))
      (pss_one (ps_ret ((pe_and (pe_cmpR (Xk.k_eqD (K := K) hr.units (by rfl)) (pv 9) (pv 8) (nomark _)) (pe_and (pe_cmpR (Xk.k_eqD (K := K) hr.units (by rfl)) (pv 10) (pe_call (ok__law_fault T) (hr.mono (by decide)) (by rfl) T.g__law_fault T.F__law_fault.kp T.b__law_fault .nil pass0 (pa_cons (pe_ix (Xk.k_ixL (K := K) (by rfl)) (pv 8) (pe_int) (fun _ _ => rfl)) (pa_cons (pe_ix (Xk.k_ixL (K := K) (by rfl)) (pv 8) (pe_int) (fun _ _ => rfl)) pa_nil))) (nomark _)) (pe_one ((pe_or (pe_cmpR Xk.op_nIsN (pv 10) (pe_non) (nomark _)) (pe_one (pe_callB (Xk.k_isi (K := K) (by rfl)) (by rfl) T.m_isinstance (by decide +kernel) (pa_cons (pv 10) (pa_cons (pe_bltn (v := .ty "tuple") (u := .type "tuple") (by rfl) T.m_tuple (by decide +kernel) Xk.rel_ty) pa_nil)))))))))))))))))))))))), ?_⟩
  wtm_at "x0"
  wtm_at "xs"
  refine ⟨a, _, ns, rfl, hS, hl, by omega, by omega, fun n1 hn1 => ?_⟩
  wtm_at "xs"
  intro b H1 hb s1 hb1
  wtm_at "xs"
  refine ⟨b, n1, rfl, hb1, fun H2 f n2 ks hf b2 hb2 hf2 hok hl5 hl1 => ?_⟩
  wtm_at "xs"
  refine draw (z := 21) hb2 ⟨by decide, by decide⟩ fun j n3 H3 hj b3 hb3 => ?_
  have s03 := Xk.same_but b3 hb (Xk.same_but b2 hb s1)
  have hf3 := b3 _ _ (Xk.ne_new hf hb1).symm hf2
  wtm_at "xs"
  refine ⟨a, f, _, ns, ks, rfl, Xk.sq_same hS s03, hl, hf3, hok, hl5, hl1, by omega, by omega, fun H4 p h o R O E kvs s4 hp4 hp hH hO t hRl hOl => ?_⟩
  have tl := t.len
  have s04 := s03.trans s4
  have tf := t.fault
  clear hf2 hf3 b2 b3 hb2 hb3 hb1 s1
  have f10 : firstF (f1 R O) O.length = none := (Option.or_eq_none_iff.mp (Option.or_eq_none_iff.mp (Option.or_eq_none_iff.mp tf).1).1).1
  wtm_at "xs"
  refine Xk.x_nocut ?_
  wtm_at "xs"
  refine ⟨h, o, R, O, ks, rfl, hH, hO, t.nn, by omega, by omega, by omega, fun H5 v5 s5 hv5 => ?_⟩
  rw [tf] at hv5
  obtain rfl : v5 = .non := hv5
  wtm_at "xs"
  refine ⟨h, o, R, O, ks, rfl, hH.same s5, hO.same s5, by omega, by omega, by omega, fun H6 v6 s6 hv6 => ?_⟩
  rw [tf] at hv6
  obtain rfl : v6 = .non := hv6
  have s56 := s5.trans s6
  replace hH := hH.same s56
  replace hO := hO.same s56
  replace s04 := s04.trans s56
  clear s5 s6 s56
  wtm_at "xs"
  intro r H7 hr s7 hr7
  have hO7 := (hO.same s7).lst
  wtm_at "xs"
  refine Xk.x_forL (xs := O.map fun e => V.ref e.1) (fun i σ' H' => ∃ y7 : Option V, σ' = [some (.ref a), some (.ref b), some (.ref f), some (.ref p), some (.ref h), some (.ref o), some (.ref r), y7, none, none, none] ∧ Same H6 H' ∧ H' r = some (.dK (stB R (O.take i)))) (Xk.sq_of hO7)
    ⟨_, rfl, s7, hr7⟩ (fun i σ' H' _ ⟨_, _, s, _⟩ => Xk.sq_of (s _ _ hO.lst)) ?_ ?_
  · rintro i y σ' H3 hi ⟨y7, rfl, s3, hr3⟩
    obtain ⟨o', he, rfl⟩ := Xk.of_map_at hi
    have hem := List.mem_of_getElem? he
    obtain ⟨e, hfe⟩ := known f10 he
    obtain ⟨me, _, _⟩ := fnd_some hfe
    have ot := ((hO.it o' hem).kt (.same s3)).tp
    have et : O.take (i + 1) = O.take i ++ [o'] := by
      rw [List.take_add_one, he]
      rfl
    wtm_at "xs"
    refine Xk.x_slA ot fun p2 H5 s5 h5 => ?_
    have ec : cutV [V.int o'.2.c, V.int o'.2.n, V.ref o'.2.p] none (some 2) = [V.int o'.2.c, V.int o'.2.n] := rfl
    rw [ec] at h5
    have s35 := s3.trans s5
    wtm_at "xs"
    refine ⟨h, p2, R, ks, o'.2.c, o'.2.n, rfl, hH.same s35, by omega, h5, fun H8 v s8 hv => ?_⟩
    have s38 := s35.trans s8
    obtain rfl : v = .ref e.1 := by
      rcases hv with ⟨z, _⟩ | ⟨e2, z, y⟩
      · rw [hfe] at z
        cases z
      · rw [hfe] at z
        cases z
        exact y
    have re8 := (hH.it e me).kt (.same s38)
    have rt8 := re8.tp
    unfold Rc.xs at rt8
    have hr8 := (s5.trans s8) _ _ hr3
    wtm_at "xs"
    refine ⟨r, e.2.da, _, e.2.C, e.2.D, ks, rfl, hr8, stB_ok (fun e he => (hH.it e he).rok) _, by omega, re8.dl, re8.kk, fun H9 q9 t9 b9 _ _ hr9 _ _ => ?_⟩
    wtm_at "xs"
    exact ⟨_, rfl, Xk.same_but b9 hr s38, by rw [et, stB_snoc hfe]; exact hr9⟩
  rintro σ' H8 ⟨y7, rfl, s8, hr8⟩
  rw [List.length_map, List.take_length] at hr8
  replace s04 := s04.trans s8
  have hHw := hH.same s8
  have hOw := hO.same s8
  refine Xk.x_nocut ?_
  wtm_at "xs"
  refine ⟨h, o, R, O, ks, rfl, hHw, hOw, t.nn, by omega, by omega, by omega, f10, fun H9 x r9 s9 hr9 hS9 => ?_⟩
  obtain ⟨dx, hx9⟩ := hS9.ins
  have okb := stB_ok (fun e he => (hH.it e he).rok) O
  have hr89 := s9 _ _ hr8
  wtm_at "xs"
  refine ⟨r9, r, _, _, rfl, rfl, hS9.rows, hr89, rfl, fun u hu => ⟨val_nodup okb.nd u hu, vok_flat (okb.ok u hu).2⟩, ?_⟩
  replace s04 := s04.trans s9
  replace hHw := hHw.same s9
  replace hOw := hOw.same s9
  clear hH hO hO7 hr7 hr8 hr89 s7 s8 s9 hr9 hS9 hx9
  wtm_at "xs"
  refine ⟨a, _, ns, rfl, Xk.sq_same hS s04, hl, by omega, by omega, fun n10 hn10 => ?_⟩
  wtm_at "xs"
  intro b2 H10 hb2 s10 hb10
  have nh := Xk.ne_new hb2 hHw.lst
  have no := Xk.ne_new hb2 hOw.lst
  wtm_at "xs"
  refine ⟨h, o, b2, n10, R, O, ks, rfl, hHw.same s10, hOw.same s10, hb10, nh, no, t.nn, hRl, by omega, fun H11 p2 h2 o2 R2 O2 b11 hp2 hH2 hO2 hN2 hR2l hO2l => ?_⟩
  have hh2 := hH2.lst
  have ho2 := hO2.lst
  wtm_at "xs"
  intro g0 H12 hg0 s12 hl0
  have hp12 := s12 _ _ hp2
  have ho12 := s12 _ _ ho2
  wtm_at "xs"
  intro g1 H13 hg1 s13 hl1'
  wtm_at "xs"
  intro g H14 hg s14 hlg
  have s24 := s12.trans (s13.trans s14)
  have hH14 : HsAt K ks H14 g0 R2 := ⟨(s13.trans s14) _ _ hl0, (hH2.same s24).it⟩
  have hO14 : OrAt K H14 g1 O2 := ⟨s14 _ _ hl1', (hO2.same s24).it⟩
  wtm_at "xs"
  refine ⟨g0, g1, R2, O2, ks, rfl, hH14, hO14, hN2, by omega, by omega, by omega, fun H15 v15 s15 hv15 => ?_⟩
  have s25 := s24.trans s15
  have hH15 := hH14.same s15
  have hO15 := hO14.same s15
  have hH15' := hH2.same s25
  have hO15' := hO2.same s25
  have hg15 := s15 _ _ hlg
  have hp15 := s25 _ _ hp2
  obtain ⟨d1, k1⟩ := pk_refs (K := K) (H := H15) (n := 4) (ps := R2.map (·.1)) fun p hp => by
    obtain ⟨e, he, rfl⟩ := List.mem_map.mp hp
    exact (hH15.it e he).pk
  obtain ⟨d2, k2⟩ := pk_refs (K := K) (H := H15) (n := 4) (ps := O2.map (·.1)) fun p hp => by
    obtain ⟨e, he, rfl⟩ := List.mem_map.mp hp
    exact (hO15.it e he).pk
  rw [List.map_map] at k1 k2
  have lay : PyData.canLay0 (.list [.list d1, .list d2]) = true := by
    refine Xk.lay_list ?_
    show (PyData.canLay0 (.list d1) && (PyData.canLay0 (.list d2) && true)) = true
    rw [Xk.lay_list k1.lay, Xk.lay_list k2.lay]
    rfl
  have dep : (PyData.list [.list d1, .list d2]).depth ≤ 64 := by
    have e1 := k1.2.2
    have e2 := k2.2.2
    show max (PyData.depthAll d1 + 1) (max (PyData.depthAll d2 + 1) 0) + 1 ≤ 64
    omega
  wtm_at "xs"
  refine Xk.x_eqSame (d := .list [.list d1, .list d2]) (.lst (Xk.sq_of hg15) (.cons (.lst (Xk.sq_of hH15.lst) k1.1) (.cons (.lst (Xk.sq_of hO15.lst) k2.1) .nil))) (.lst (Xk.sq_of hp15) (.cons (.lst (Xk.sq_of hH15'.lst) k1.1) (.cons (.lst (Xk.sq_of hO15'.lst) k2.1) .nil))) lay dep ?_
  wtm_at "xs"
  refine ⟨h2, o2, R2, O2, ks, rfl, hH15', hO15', by omega, by omega, by omega, fun H16 v16 s16 hv16 => ?_⟩
  replace hv15 := hv15.same s16
  wtm_at "xs"
  cases hpf : pfault R2 O2 with
  | none =>
    rw [hpf] at hv15 hv16
    obtain rfl : v15 = .non := hv15
    obtain rfl : v16 = .non := hv16
    refine Xk.x_eqPk (n := 1) (m := 1) Xk.pk_non Xk.pk_non ?_
    wtm_at "xs"
    exact q H16
  | some x =>
    obtain ⟨w, k⟩ := x
    rw [hpf] at hv15 hv16
    obtain ⟨p15, rfl, g15⟩ := hv15
    obtain ⟨p16, rfl, g16⟩ := hv16
    have lw := fault_lay hpf
    refine Xk.x_eqPk (n := 1) (m := 1) (Xk.pk_tup2 (n := 0) (Xk.st_of g15) (Xk.pk_str lw) Xk.pk_int) (Xk.pk_tup2 (n := 0) (Xk.st_of g16) (Xk.pk_str lw) Xk.pk_int) ?_
    wtm_at "xs"
    exact q H16
end
theorem all_mk {l : PySem.W.OpenLaw} {w : World} {K : PySem.W.Frag} {h : Heap} {mg : Str → Option Value} {fa C_Store f__wall f_is_integer f_is_text f_is_integer_within f_is_value f_key_of_deed f_apply_deed f__add f_do_deal f_Store___init__ dT_Store___init__ f_Store_do f_Store_fork f_fault_of f_store_behind f_is_decided f__by_name f__fault_of_names f__fault_of_answers f__missing f__late f__law_number f__law_take f__law_key f__law_keys f__law_value f__law_maybe f__law_deed f__law_deal f__law_done f__law_do f__law_history f__law_closed f__law_fate f__law_record f__law_names_fault f__law_answers_fault f__law_rest_fault f__law_fault f__law_changed f__law_other f_law : Addr} (X : K.In h) (G : h.Ns mainGlobals mg) (hfa : mg "law" = some (.ref fa))
    {od__wall an__wall od_is_integer an_is_integer od_is_text an_is_text od_is_integer_within an_is_integer_within od_is_value an_is_value od_key_of_deed an_key_of_deed od_apply_deed an_apply_deed od__add an__add od_do_deal an_do_deal od_Store___init__ an_Store___init__ dn_Store___init__ od_Store_do an_Store_do od_Store_fork an_Store_fork od_fault_of an_fault_of od_store_behind an_store_behind od_is_decided an_is_decided od__by_name an__by_name od__fault_of_names an__fault_of_names od__fault_of_answers an__fault_of_answers od__missing an__missing od__late an__late od__law_number an__law_number od__law_take an__law_take od__law_key an__law_key od__law_keys an__law_keys od__law_value an__law_value od__law_maybe an__law_maybe od__law_deed an__law_deed od__law_deal an__law_deal od__law_done an__law_done od__law_do an__law_do od__law_history an__law_history od__law_closed an__law_closed od__law_fate an__law_fate od__law_record an__law_record od__law_names_fault an__law_names_fault od__law_answers_fault an__law_answers_fault od__law_rest_fault an__law_rest_fault od__law_fault an__law_fault od__law_changed an__law_changed od__law_other an__law_other od_law an_law : Option Addr} {sl__wall sl_is_integer sl_is_text sl_is_integer_within sl_is_value sl_key_of_deed sl_apply_deed sl__add sl_do_deal sl_Store___init__ sd_Store___init__ sl_Store_do sl_Store_fork sl_fault_of sl_store_behind sl_is_decided sl__by_name sl__fault_of_names sl__fault_of_answers sl__missing sl__late sl__law_number sl__law_take sl__law_key sl__law_keys sl__law_value sl__law_maybe sl__law_deed sl__law_deal sl__law_done sl__law_do sl__law_history sl__law_closed sl__law_fate sl__law_record sl__law_names_fault sl__law_answers_fault sl__law_rest_fault sl__law_fault sl__law_changed sl__law_other sl_law : Array (Option Value)} {oc__wall kV__wall dc__wall pm__wall cd__wall ct__wall oc_is_integer kV_is_integer dc_is_integer pm_is_integer cd_is_integer ct_is_integer oc_is_text kV_is_text dc_is_text pm_is_text cd_is_text ct_is_text oc_is_integer_within kV_is_integer_within dc_is_integer_within pm_is_integer_within cd_is_integer_within ct_is_integer_within oc_is_value kV_is_value dc_is_value pm_is_value cd_is_value ct_is_value oc_key_of_deed kV_key_of_deed dc_key_of_deed pm_key_of_deed cd_key_of_deed ct_key_of_deed oc_apply_deed kV_apply_deed dc_apply_deed pm_apply_deed cd_apply_deed ct_apply_deed oc__add kV__add dc__add pm__add cd__add ct__add oc_do_deal kV_do_deal dc_do_deal pm_do_deal cd_do_deal ct_do_deal oc_Store___init__ kV_Store___init__ dc_Store___init__ pm_Store___init__ cd_Store___init__ ct_Store___init__ oc_Store_do kV_Store_do dc_Store_do pm_Store_do cd_Store_do ct_Store_do oc_Store_fork kV_Store_fork dc_Store_fork pm_Store_fork cd_Store_fork ct_Store_fork oc_fault_of kV_fault_of dc_fault_of pm_fault_of cd_fault_of ct_fault_of oc_store_behind kV_store_behind dc_store_behind pm_store_behind cd_store_behind ct_store_behind oc_is_decided kV_is_decided dc_is_decided pm_is_decided cd_is_decided ct_is_decided oc__by_name kV__by_name dc__by_name pm__by_name cd__by_name ct__by_name oc__fault_of_names kV__fault_of_names dc__fault_of_names pm__fault_of_names cd__fault_of_names ct__fault_of_names oc__fault_of_answers kV__fault_of_answers dc__fault_of_answers pm__fault_of_answers cd__fault_of_answers ct__fault_of_answers oc__missing kV__missing dc__missing pm__missing cd__missing ct__missing oc__late kV__late dc__late pm__late cd__late ct__late oc__law_number kV__law_number dc__law_number pm__law_number cd__law_number ct__law_number oc__law_take kV__law_take dc__law_take pm__law_take cd__law_take ct__law_take oc__law_key kV__law_key dc__law_key pm__law_key cd__law_key ct__law_key oc__law_keys kV__law_keys dc__law_keys pm__law_keys cd__law_keys ct__law_keys oc__law_value kV__law_value dc__law_value pm__law_value cd__law_value ct__law_value oc__law_maybe kV__law_maybe dc__law_maybe pm__law_maybe cd__law_maybe ct__law_maybe oc__law_deed kV__law_deed dc__law_deed pm__law_deed cd__law_deed ct__law_deed oc__law_deal kV__law_deal dc__law_deal pm__law_deal cd__law_deal ct__law_deal oc__law_done kV__law_done dc__law_done pm__law_done cd__law_done ct__law_done oc__law_do kV__law_do dc__law_do pm__law_do cd__law_do ct__law_do oc__law_history kV__law_history dc__law_history pm__law_history cd__law_history ct__law_history oc__law_closed kV__law_closed dc__law_closed pm__law_closed cd__law_closed ct__law_closed oc__law_fate kV__law_fate dc__law_fate pm__law_fate cd__law_fate ct__law_fate oc__law_record kV__law_record dc__law_record pm__law_record cd__law_record ct__law_record oc__law_names_fault kV__law_names_fault dc__law_names_fault pm__law_names_fault cd__law_names_fault ct__law_names_fault oc__law_answers_fault kV__law_answers_fault dc__law_answers_fault pm__law_answers_fault cd__law_answers_fault ct__law_answers_fault oc__law_rest_fault kV__law_rest_fault dc__law_rest_fault pm__law_rest_fault cd__law_rest_fault ct__law_rest_fault oc__law_fault kV__law_fault dc__law_fault pm__law_fault cd__law_fault ct__law_fault oc__law_changed kV__law_changed dc__law_changed pm__law_changed cd__law_changed ct__law_changed oc__law_other kV__law_other dc__law_other pm__law_other cd__law_other ct__law_other oc_law kV_law dc_law pm_law cd_law ct_law : Value} {t_ANSWER t_ANSWERED t_ASKED t_DEAL t_HIGH_SIGNS t_LOW_SIGNS t_MOST_VALUE t_VALUE_SIGNS : Tok} {nd_Store___init__ : Nat}
    (aC_Store : PySem.W.nsIn K mainGlobals "Store" = some (some (.ref C_Store)))
    (pg_Store : PySem.W.plainGet K C_Store Str.empty = true)
    (hd_Store : PySem.W.hasDictIn K C_Store = true)
    (po_Store : PySem.W.plainOver K C_Store = true)
    (sa_Store : PySem.W.findIn K (.ref C_Store) "__setattr__" = some (some (.builtin "object.__setattr__")))
    (mk_Store : PySem.W.makesIn K C_Store = true)
    (kc_Store : PySem.W.keepIn K (.ref C_Store) = true)
    (na_Store_rows : PySem.W.findIn K (.ref C_Store) "rows" = some none)
    (a__wall : PySem.W.nsIn K mainGlobals "_wall" = some (some (.ref f__wall)))
    (l__wall : K.lookup f__wall = some ⟨oc__wall, od__wall, .func (PySem.W.fnOf "_wall" "_wall" (defArgs s__wall) (defBody s__wall) (defScope s__wall) .none kV__wall dc__wall pm__wall an__wall cd__wall ct__wall), sl__wall⟩)
    (c__wall : PySem.W.codeIn K cd__wall "_wall" = true)
    (k__wall : PySem.W.keepIn K (.ref f__wall) = true)
    (a_is_integer : PySem.W.nsIn K mainGlobals "is_integer" = some (some (.ref f_is_integer)))
    (l_is_integer : K.lookup f_is_integer = some ⟨oc_is_integer, od_is_integer, .func (PySem.W.fnOf "is_integer" "is_integer" (defArgs s_is_integer) (defBody s_is_integer) (defScope s_is_integer) .none kV_is_integer dc_is_integer pm_is_integer an_is_integer cd_is_integer ct_is_integer), sl_is_integer⟩)
    (c_is_integer : PySem.W.codeIn K cd_is_integer "is_integer" = true)
    (k_is_integer : PySem.W.keepIn K (.ref f_is_integer) = true)
    (a_is_text : PySem.W.nsIn K mainGlobals "is_text" = some (some (.ref f_is_text)))
    (l_is_text : K.lookup f_is_text = some ⟨oc_is_text, od_is_text, .func (PySem.W.fnOf "is_text" "is_text" (defArgs s_is_text) (defBody s_is_text) (defScope s_is_text) .none kV_is_text dc_is_text pm_is_text an_is_text cd_is_text ct_is_text), sl_is_text⟩)
    (c_is_text : PySem.W.codeIn K cd_is_text "is_text" = true)
    (k_is_text : PySem.W.keepIn K (.ref f_is_text) = true)
    (a_is_integer_within : PySem.W.nsIn K mainGlobals "is_integer_within" = some (some (.ref f_is_integer_within)))
    (l_is_integer_within : K.lookup f_is_integer_within = some ⟨oc_is_integer_within, od_is_integer_within, .func (PySem.W.fnOf "is_integer_within" "is_integer_within" (defArgs s_is_integer_within) (defBody s_is_integer_within) (defScope s_is_integer_within) .none kV_is_integer_within dc_is_integer_within pm_is_integer_within an_is_integer_within cd_is_integer_within ct_is_integer_within), sl_is_integer_within⟩)
    (c_is_integer_within : PySem.W.codeIn K cd_is_integer_within "is_integer_within" = true)
    (k_is_integer_within : PySem.W.keepIn K (.ref f_is_integer_within) = true)
    (a_is_value : PySem.W.nsIn K mainGlobals "is_value" = some (some (.ref f_is_value)))
    (l_is_value : K.lookup f_is_value = some ⟨oc_is_value, od_is_value, .func (PySem.W.fnOf "is_value" "is_value" (defArgs s_is_value) (defBody s_is_value) (defScope s_is_value) .none kV_is_value dc_is_value pm_is_value an_is_value cd_is_value ct_is_value), sl_is_value⟩)
    (c_is_value : PySem.W.codeIn K cd_is_value "is_value" = true)
    (k_is_value : PySem.W.keepIn K (.ref f_is_value) = true)
    (a_key_of_deed : PySem.W.nsIn K mainGlobals "key_of_deed" = some (some (.ref f_key_of_deed)))
    (l_key_of_deed : K.lookup f_key_of_deed = some ⟨oc_key_of_deed, od_key_of_deed, .func (PySem.W.fnOf "key_of_deed" "key_of_deed" (defArgs s_key_of_deed) (defBody s_key_of_deed) (defScope s_key_of_deed) .none kV_key_of_deed dc_key_of_deed pm_key_of_deed an_key_of_deed cd_key_of_deed ct_key_of_deed), sl_key_of_deed⟩)
    (c_key_of_deed : PySem.W.codeIn K cd_key_of_deed "key_of_deed" = true)
    (k_key_of_deed : PySem.W.keepIn K (.ref f_key_of_deed) = true)
    (a_apply_deed : PySem.W.nsIn K mainGlobals "apply_deed" = some (some (.ref f_apply_deed)))
    (l_apply_deed : K.lookup f_apply_deed = some ⟨oc_apply_deed, od_apply_deed, .func (PySem.W.fnOf "apply_deed" "apply_deed" (defArgs s_apply_deed) (defBody s_apply_deed) (defScope s_apply_deed) .none kV_apply_deed dc_apply_deed pm_apply_deed an_apply_deed cd_apply_deed ct_apply_deed), sl_apply_deed⟩)
    (c_apply_deed : PySem.W.codeIn K cd_apply_deed "apply_deed" = true)
    (k_apply_deed : PySem.W.keepIn K (.ref f_apply_deed) = true)
    (a__add : PySem.W.nsIn K mainGlobals "_add" = some (some (.ref f__add)))
    (l__add : K.lookup f__add = some ⟨oc__add, od__add, .func (PySem.W.fnOf "_add" "_add" (defArgs s__add) (defBody s__add) (defScope s__add) .none kV__add dc__add pm__add an__add cd__add ct__add), sl__add⟩)
    (c__add : PySem.W.codeIn K cd__add "_add" = true)
    (k__add : PySem.W.keepIn K (.ref f__add) = true)
    (a_do_deal : PySem.W.nsIn K mainGlobals "do_deal" = some (some (.ref f_do_deal)))
    (l_do_deal : K.lookup f_do_deal = some ⟨oc_do_deal, od_do_deal, .func (PySem.W.fnOf "do_deal" "do_deal" (defArgs s_do_deal) (defBody s_do_deal) (defScope s_do_deal) .none kV_do_deal dc_do_deal pm_do_deal an_do_deal cd_do_deal ct_do_deal), sl_do_deal⟩)
    (c_do_deal : PySem.W.codeIn K cd_do_deal "do_deal" = true)
    (k_do_deal : PySem.W.keepIn K (.ref f_do_deal) = true)
    (a_Store___init__ : PySem.W.findIn K (.ref C_Store) "__init__" = some (some (.ref f_Store___init__)))
    (i_Store___init__ : PySem.W.isFn K (.ref f_Store___init__) = true)
    (l_Store___init__ : K.lookup f_Store___init__ = some ⟨oc_Store___init__, od_Store___init__, .func (PySem.W.fnOf "__init__" "Store.__init__" (defArgs s_Store___init__) (defBody s_Store___init__) (defScope s_Store___init__) (.ref dT_Store___init__) kV_Store___init__ dc_Store___init__ pm_Store___init__ an_Store___init__ cd_Store___init__ ct_Store___init__), sl_Store___init__⟩)
    (c_Store___init__ : PySem.W.codeIn K cd_Store___init__ "Store.__init__" = true)
    (k_Store___init__ : PySem.W.keepIn K (.ref f_Store___init__) = true)
    (a_Store_do : PySem.W.findIn K (.ref C_Store) "do" = some (some (.ref f_Store_do)))
    (i_Store_do : PySem.W.isFn K (.ref f_Store_do) = true)
    (l_Store_do : K.lookup f_Store_do = some ⟨oc_Store_do, od_Store_do, .func (PySem.W.fnOf "do" "Store.do" (defArgs s_Store_do) (defBody s_Store_do) (defScope s_Store_do) .none kV_Store_do dc_Store_do pm_Store_do an_Store_do cd_Store_do ct_Store_do), sl_Store_do⟩)
    (c_Store_do : PySem.W.codeIn K cd_Store_do "Store.do" = true)
    (k_Store_do : PySem.W.keepIn K (.ref f_Store_do) = true)
    (a_Store_fork : PySem.W.findIn K (.ref C_Store) "fork" = some (some (.ref f_Store_fork)))
    (i_Store_fork : PySem.W.isFn K (.ref f_Store_fork) = true)
    (l_Store_fork : K.lookup f_Store_fork = some ⟨oc_Store_fork, od_Store_fork, .func (PySem.W.fnOf "fork" "Store.fork" (defArgs s_Store_fork) (defBody s_Store_fork) (defScope s_Store_fork) .none kV_Store_fork dc_Store_fork pm_Store_fork an_Store_fork cd_Store_fork ct_Store_fork), sl_Store_fork⟩)
    (c_Store_fork : PySem.W.codeIn K cd_Store_fork "Store.fork" = true)
    (k_Store_fork : PySem.W.keepIn K (.ref f_Store_fork) = true)
    (a_fault_of : PySem.W.nsIn K mainGlobals "fault_of" = some (some (.ref f_fault_of)))
    (l_fault_of : K.lookup f_fault_of = some ⟨oc_fault_of, od_fault_of, .func (PySem.W.fnOf "fault_of" "fault_of" (defArgs s_fault_of) (defBody s_fault_of) (defScope s_fault_of) .none kV_fault_of dc_fault_of pm_fault_of an_fault_of cd_fault_of ct_fault_of), sl_fault_of⟩)
    (c_fault_of : PySem.W.codeIn K cd_fault_of "fault_of" = true)
    (k_fault_of : PySem.W.keepIn K (.ref f_fault_of) = true)
    (a_store_behind : PySem.W.nsIn K mainGlobals "store_behind" = some (some (.ref f_store_behind)))
    (l_store_behind : K.lookup f_store_behind = some ⟨oc_store_behind, od_store_behind, .func (PySem.W.fnOf "store_behind" "store_behind" (defArgs s_store_behind) (defBody s_store_behind) (defScope s_store_behind) .none kV_store_behind dc_store_behind pm_store_behind an_store_behind cd_store_behind ct_store_behind), sl_store_behind⟩)
    (c_store_behind : PySem.W.codeIn K cd_store_behind "store_behind" = true)
    (k_store_behind : PySem.W.keepIn K (.ref f_store_behind) = true)
    (a_is_decided : PySem.W.nsIn K mainGlobals "is_decided" = some (some (.ref f_is_decided)))
    (l_is_decided : K.lookup f_is_decided = some ⟨oc_is_decided, od_is_decided, .func (PySem.W.fnOf "is_decided" "is_decided" (defArgs s_is_decided) (defBody s_is_decided) (defScope s_is_decided) .none kV_is_decided dc_is_decided pm_is_decided an_is_decided cd_is_decided ct_is_decided), sl_is_decided⟩)
    (c_is_decided : PySem.W.codeIn K cd_is_decided "is_decided" = true)
    (k_is_decided : PySem.W.keepIn K (.ref f_is_decided) = true)
    (a__by_name : PySem.W.nsIn K mainGlobals "_by_name" = some (some (.ref f__by_name)))
    (l__by_name : K.lookup f__by_name = some ⟨oc__by_name, od__by_name, .func (PySem.W.fnOf "_by_name" "_by_name" (defArgs s__by_name) (defBody s__by_name) (defScope s__by_name) .none kV__by_name dc__by_name pm__by_name an__by_name cd__by_name ct__by_name), sl__by_name⟩)
    (c__by_name : PySem.W.codeIn K cd__by_name "_by_name" = true)
    (k__by_name : PySem.W.keepIn K (.ref f__by_name) = true)
    (a__fault_of_names : PySem.W.nsIn K mainGlobals "_fault_of_names" = some (some (.ref f__fault_of_names)))
    (l__fault_of_names : K.lookup f__fault_of_names = some ⟨oc__fault_of_names, od__fault_of_names, .func (PySem.W.fnOf "_fault_of_names" "_fault_of_names" (defArgs s__fault_of_names) (defBody s__fault_of_names) (defScope s__fault_of_names) .none kV__fault_of_names dc__fault_of_names pm__fault_of_names an__fault_of_names cd__fault_of_names ct__fault_of_names), sl__fault_of_names⟩)
    (c__fault_of_names : PySem.W.codeIn K cd__fault_of_names "_fault_of_names" = true)
    (k__fault_of_names : PySem.W.keepIn K (.ref f__fault_of_names) = true)
    (a__fault_of_answers : PySem.W.nsIn K mainGlobals "_fault_of_answers" = some (some (.ref f__fault_of_answers)))
    (l__fault_of_answers : K.lookup f__fault_of_answers = some ⟨oc__fault_of_answers, od__fault_of_answers, .func (PySem.W.fnOf "_fault_of_answers" "_fault_of_answers" (defArgs s__fault_of_answers) (defBody s__fault_of_answers) (defScope s__fault_of_answers) .none kV__fault_of_answers dc__fault_of_answers pm__fault_of_answers an__fault_of_answers cd__fault_of_answers ct__fault_of_answers), sl__fault_of_answers⟩)
    (c__fault_of_answers : PySem.W.codeIn K cd__fault_of_answers "_fault_of_answers" = true)
    (k__fault_of_answers : PySem.W.keepIn K (.ref f__fault_of_answers) = true)
    (a__missing : PySem.W.nsIn K mainGlobals "_missing" = some (some (.ref f__missing)))
    (l__missing : K.lookup f__missing = some ⟨oc__missing, od__missing, .func (PySem.W.fnOf "_missing" "_missing" (defArgs s__missing) (defBody s__missing) (defScope s__missing) .none kV__missing dc__missing pm__missing an__missing cd__missing ct__missing), sl__missing⟩)
    (c__missing : PySem.W.codeIn K cd__missing "_missing" = true)
    (k__missing : PySem.W.keepIn K (.ref f__missing) = true)
    (a__late : PySem.W.nsIn K mainGlobals "_late" = some (some (.ref f__late)))
    (l__late : K.lookup f__late = some ⟨oc__late, od__late, .func (PySem.W.fnOf "_late" "_late" (defArgs s__late) (defBody s__late) (defScope s__late) .none kV__late dc__late pm__late an__late cd__late ct__late), sl__late⟩)
    (c__late : PySem.W.codeIn K cd__late "_late" = true)
    (k__late : PySem.W.keepIn K (.ref f__late) = true)
    (a__law_number : PySem.W.nsIn K mainGlobals "_law_number" = some (some (.ref f__law_number)))
    (l__law_number : K.lookup f__law_number = some ⟨oc__law_number, od__law_number, .func (PySem.W.fnOf "_law_number" "_law_number" (defArgs s__law_number) (defBody s__law_number) (defScope s__law_number) .none kV__law_number dc__law_number pm__law_number an__law_number cd__law_number ct__law_number), sl__law_number⟩)
    (c__law_number : PySem.W.codeIn K cd__law_number "_law_number" = true)
    (k__law_number : PySem.W.keepIn K (.ref f__law_number) = true)
    (a__law_take : PySem.W.nsIn K mainGlobals "_law_take" = some (some (.ref f__law_take)))
    (l__law_take : K.lookup f__law_take = some ⟨oc__law_take, od__law_take, .func (PySem.W.fnOf "_law_take" "_law_take" (defArgs s__law_take) (defBody s__law_take) (defScope s__law_take) .none kV__law_take dc__law_take pm__law_take an__law_take cd__law_take ct__law_take), sl__law_take⟩)
    (c__law_take : PySem.W.codeIn K cd__law_take "_law_take" = true)
    (k__law_take : PySem.W.keepIn K (.ref f__law_take) = true)
    (a__law_key : PySem.W.nsIn K mainGlobals "_law_key" = some (some (.ref f__law_key)))
    (l__law_key : K.lookup f__law_key = some ⟨oc__law_key, od__law_key, .func (PySem.W.fnOf "_law_key" "_law_key" (defArgs s__law_key) (defBody s__law_key) (defScope s__law_key) .none kV__law_key dc__law_key pm__law_key an__law_key cd__law_key ct__law_key), sl__law_key⟩)
    (c__law_key : PySem.W.codeIn K cd__law_key "_law_key" = true)
    (k__law_key : PySem.W.keepIn K (.ref f__law_key) = true)
    (a__law_keys : PySem.W.nsIn K mainGlobals "_law_keys" = some (some (.ref f__law_keys)))
    (l__law_keys : K.lookup f__law_keys = some ⟨oc__law_keys, od__law_keys, .func (PySem.W.fnOf "_law_keys" "_law_keys" (defArgs s__law_keys) (defBody s__law_keys) (defScope s__law_keys) .none kV__law_keys dc__law_keys pm__law_keys an__law_keys cd__law_keys ct__law_keys), sl__law_keys⟩)
    (c__law_keys : PySem.W.codeIn K cd__law_keys "_law_keys" = true)
    (k__law_keys : PySem.W.keepIn K (.ref f__law_keys) = true)
    (a__law_value : PySem.W.nsIn K mainGlobals "_law_value" = some (some (.ref f__law_value)))
    (l__law_value : K.lookup f__law_value = some ⟨oc__law_value, od__law_value, .func (PySem.W.fnOf "_law_value" "_law_value" (defArgs s__law_value) (defBody s__law_value) (defScope s__law_value) .none kV__law_value dc__law_value pm__law_value an__law_value cd__law_value ct__law_value), sl__law_value⟩)
    (c__law_value : PySem.W.codeIn K cd__law_value "_law_value" = true)
    (k__law_value : PySem.W.keepIn K (.ref f__law_value) = true)
    (a__law_maybe : PySem.W.nsIn K mainGlobals "_law_maybe" = some (some (.ref f__law_maybe)))
    (l__law_maybe : K.lookup f__law_maybe = some ⟨oc__law_maybe, od__law_maybe, .func (PySem.W.fnOf "_law_maybe" "_law_maybe" (defArgs s__law_maybe) (defBody s__law_maybe) (defScope s__law_maybe) .none kV__law_maybe dc__law_maybe pm__law_maybe an__law_maybe cd__law_maybe ct__law_maybe), sl__law_maybe⟩)
    (c__law_maybe : PySem.W.codeIn K cd__law_maybe "_law_maybe" = true)
    (k__law_maybe : PySem.W.keepIn K (.ref f__law_maybe) = true)
    (a__law_deed : PySem.W.nsIn K mainGlobals "_law_deed" = some (some (.ref f__law_deed)))
    (l__law_deed : K.lookup f__law_deed = some ⟨oc__law_deed, od__law_deed, .func (PySem.W.fnOf "_law_deed" "_law_deed" (defArgs s__law_deed) (defBody s__law_deed) (defScope s__law_deed) .none kV__law_deed dc__law_deed pm__law_deed an__law_deed cd__law_deed ct__law_deed), sl__law_deed⟩)
    (c__law_deed : PySem.W.codeIn K cd__law_deed "_law_deed" = true)
    (k__law_deed : PySem.W.keepIn K (.ref f__law_deed) = true)
    (a__law_deal : PySem.W.nsIn K mainGlobals "_law_deal" = some (some (.ref f__law_deal)))
    (l__law_deal : K.lookup f__law_deal = some ⟨oc__law_deal, od__law_deal, .func (PySem.W.fnOf "_law_deal" "_law_deal" (defArgs s__law_deal) (defBody s__law_deal) (defScope s__law_deal) .none kV__law_deal dc__law_deal pm__law_deal an__law_deal cd__law_deal ct__law_deal), sl__law_deal⟩)
    (c__law_deal : PySem.W.codeIn K cd__law_deal "_law_deal" = true)
    (k__law_deal : PySem.W.keepIn K (.ref f__law_deal) = true)
    (a__law_done : PySem.W.nsIn K mainGlobals "_law_done" = some (some (.ref f__law_done)))
    (l__law_done : K.lookup f__law_done = some ⟨oc__law_done, od__law_done, .func (PySem.W.fnOf "_law_done" "_law_done" (defArgs s__law_done) (defBody s__law_done) (defScope s__law_done) .none kV__law_done dc__law_done pm__law_done an__law_done cd__law_done ct__law_done), sl__law_done⟩)
    (c__law_done : PySem.W.codeIn K cd__law_done "_law_done" = true)
    (k__law_done : PySem.W.keepIn K (.ref f__law_done) = true)
    (a__law_do : PySem.W.nsIn K mainGlobals "_law_do" = some (some (.ref f__law_do)))
    (l__law_do : K.lookup f__law_do = some ⟨oc__law_do, od__law_do, .func (PySem.W.fnOf "_law_do" "_law_do" (defArgs s__law_do) (defBody s__law_do) (defScope s__law_do) .none kV__law_do dc__law_do pm__law_do an__law_do cd__law_do ct__law_do), sl__law_do⟩)
    (c__law_do : PySem.W.codeIn K cd__law_do "_law_do" = true)
    (k__law_do : PySem.W.keepIn K (.ref f__law_do) = true)
    (a__law_history : PySem.W.nsIn K mainGlobals "_law_history" = some (some (.ref f__law_history)))
    (l__law_history : K.lookup f__law_history = some ⟨oc__law_history, od__law_history, .func (PySem.W.fnOf "_law_history" "_law_history" (defArgs s__law_history) (defBody s__law_history) (defScope s__law_history) .none kV__law_history dc__law_history pm__law_history an__law_history cd__law_history ct__law_history), sl__law_history⟩)
    (c__law_history : PySem.W.codeIn K cd__law_history "_law_history" = true)
    (k__law_history : PySem.W.keepIn K (.ref f__law_history) = true)
    (a__law_closed : PySem.W.nsIn K mainGlobals "_law_closed" = some (some (.ref f__law_closed)))
    (l__law_closed : K.lookup f__law_closed = some ⟨oc__law_closed, od__law_closed, .func (PySem.W.fnOf "_law_closed" "_law_closed" (defArgs s__law_closed) (defBody s__law_closed) (defScope s__law_closed) .none kV__law_closed dc__law_closed pm__law_closed an__law_closed cd__law_closed ct__law_closed), sl__law_closed⟩)
    (c__law_closed : PySem.W.codeIn K cd__law_closed "_law_closed" = true)
    (k__law_closed : PySem.W.keepIn K (.ref f__law_closed) = true)
    (a__law_fate : PySem.W.nsIn K mainGlobals "_law_fate" = some (some (.ref f__law_fate)))
    (l__law_fate : K.lookup f__law_fate = some ⟨oc__law_fate, od__law_fate, .func (PySem.W.fnOf "_law_fate" "_law_fate" (defArgs s__law_fate) (defBody s__law_fate) (defScope s__law_fate) .none kV__law_fate dc__law_fate pm__law_fate an__law_fate cd__law_fate ct__law_fate), sl__law_fate⟩)
    (c__law_fate : PySem.W.codeIn K cd__law_fate "_law_fate" = true)
    (k__law_fate : PySem.W.keepIn K (.ref f__law_fate) = true)
    (a__law_record : PySem.W.nsIn K mainGlobals "_law_record" = some (some (.ref f__law_record)))
    (l__law_record : K.lookup f__law_record = some ⟨oc__law_record, od__law_record, .func (PySem.W.fnOf "_law_record" "_law_record" (defArgs s__law_record) (defBody s__law_record) (defScope s__law_record) .none kV__law_record dc__law_record pm__law_record an__law_record cd__law_record ct__law_record), sl__law_record⟩)
    (c__law_record : PySem.W.codeIn K cd__law_record "_law_record" = true)
    (k__law_record : PySem.W.keepIn K (.ref f__law_record) = true)
    (a__law_names_fault : PySem.W.nsIn K mainGlobals "_law_names_fault" = some (some (.ref f__law_names_fault)))
    (l__law_names_fault : K.lookup f__law_names_fault = some ⟨oc__law_names_fault, od__law_names_fault, .func (PySem.W.fnOf "_law_names_fault" "_law_names_fault" (defArgs s__law_names_fault) (defBody s__law_names_fault) (defScope s__law_names_fault) .none kV__law_names_fault dc__law_names_fault pm__law_names_fault an__law_names_fault cd__law_names_fault ct__law_names_fault), sl__law_names_fault⟩)
    (c__law_names_fault : PySem.W.codeIn K cd__law_names_fault "_law_names_fault" = true)
    (k__law_names_fault : PySem.W.keepIn K (.ref f__law_names_fault) = true)
    (a__law_answers_fault : PySem.W.nsIn K mainGlobals "_law_answers_fault" = some (some (.ref f__law_answers_fault)))
    (l__law_answers_fault : K.lookup f__law_answers_fault = some ⟨oc__law_answers_fault, od__law_answers_fault, .func (PySem.W.fnOf "_law_answers_fault" "_law_answers_fault" (defArgs s__law_answers_fault) (defBody s__law_answers_fault) (defScope s__law_answers_fault) .none kV__law_answers_fault dc__law_answers_fault pm__law_answers_fault an__law_answers_fault cd__law_answers_fault ct__law_answers_fault), sl__law_answers_fault⟩)
    (c__law_answers_fault : PySem.W.codeIn K cd__law_answers_fault "_law_answers_fault" = true)
    (k__law_answers_fault : PySem.W.keepIn K (.ref f__law_answers_fault) = true)
    (a__law_rest_fault : PySem.W.nsIn K mainGlobals "_law_rest_fault" = some (some (.ref f__law_rest_fault)))
    (l__law_rest_fault : K.lookup f__law_rest_fault = some ⟨oc__law_rest_fault, od__law_rest_fault, .func (PySem.W.fnOf "_law_rest_fault" "_law_rest_fault" (defArgs s__law_rest_fault) (defBody s__law_rest_fault) (defScope s__law_rest_fault) .none kV__law_rest_fault dc__law_rest_fault pm__law_rest_fault an__law_rest_fault cd__law_rest_fault ct__law_rest_fault), sl__law_rest_fault⟩)
    (c__law_rest_fault : PySem.W.codeIn K cd__law_rest_fault "_law_rest_fault" = true)
    (k__law_rest_fault : PySem.W.keepIn K (.ref f__law_rest_fault) = true)
    (a__law_fault : PySem.W.nsIn K mainGlobals "_law_fault" = some (some (.ref f__law_fault)))
    (l__law_fault : K.lookup f__law_fault = some ⟨oc__law_fault, od__law_fault, .func (PySem.W.fnOf "_law_fault" "_law_fault" (defArgs s__law_fault) (defBody s__law_fault) (defScope s__law_fault) .none kV__law_fault dc__law_fault pm__law_fault an__law_fault cd__law_fault ct__law_fault), sl__law_fault⟩)
    (c__law_fault : PySem.W.codeIn K cd__law_fault "_law_fault" = true)
    (k__law_fault : PySem.W.keepIn K (.ref f__law_fault) = true)
    (a__law_changed : PySem.W.nsIn K mainGlobals "_law_changed" = some (some (.ref f__law_changed)))
    (l__law_changed : K.lookup f__law_changed = some ⟨oc__law_changed, od__law_changed, .func (PySem.W.fnOf "_law_changed" "_law_changed" (defArgs s__law_changed) (defBody s__law_changed) (defScope s__law_changed) .none kV__law_changed dc__law_changed pm__law_changed an__law_changed cd__law_changed ct__law_changed), sl__law_changed⟩)
    (c__law_changed : PySem.W.codeIn K cd__law_changed "_law_changed" = true)
    (k__law_changed : PySem.W.keepIn K (.ref f__law_changed) = true)
    (a__law_other : PySem.W.nsIn K mainGlobals "_law_other" = some (some (.ref f__law_other)))
    (l__law_other : K.lookup f__law_other = some ⟨oc__law_other, od__law_other, .func (PySem.W.fnOf "_law_other" "_law_other" (defArgs s__law_other) (defBody s__law_other) (defScope s__law_other) .none kV__law_other dc__law_other pm__law_other an__law_other cd__law_other ct__law_other), sl__law_other⟩)
    (c__law_other : PySem.W.codeIn K cd__law_other "_law_other" = true)
    (k__law_other : PySem.W.keepIn K (.ref f__law_other) = true)
    (a_law : PySem.W.nsIn K mainGlobals "law" = some (some (.ref f_law)))
    (l_law : K.lookup f_law = some ⟨oc_law, od_law, .func (PySem.W.fnOf "law" "law" (defArgs s_law) (defBody s_law) (defScope s_law) .none kV_law dc_law pm_law an_law cd_law ct_law), sl_law⟩)
    (c_law : PySem.W.codeIn K cd_law "law" = true)
    (k_law : PySem.W.keepIn K (.ref f_law) = true)
    (z_ANSWER : PySem.W.nsIn K mainGlobals "ANSWER" = some (some (.int 5 t_ANSWER)))
    (z_ANSWERED : PySem.W.nsIn K mainGlobals "ANSWERED" = some (some (.int 4 t_ANSWERED)))
    (z_ASKED : PySem.W.nsIn K mainGlobals "ASKED" = some (some (.int 3 t_ASKED)))
    (z_DEAL : PySem.W.nsIn K mainGlobals "DEAL" = some (some (.int 2 t_DEAL)))
    (z_HIGH_SIGNS : PySem.W.nsIn K mainGlobals "HIGH_SIGNS" = some (some (.str "&'()*+,-./0123456789:;<=>?@ABCDEFGHIJKLMNOPQRSTUVWXYZ[\\]^_`abcdefghijklmnopqrstuvwxyz{|}~" t_HIGH_SIGNS)))
    (z_LOW_SIGNS : PySem.W.nsIn K mainGlobals "LOW_SIGNS" = some (some (.str " !\"#$" t_LOW_SIGNS)))
    (z_MOST_VALUE : PySem.W.nsIn K mainGlobals "MOST_VALUE" = some (some (.int 1000000000000000 t_MOST_VALUE)))
    (z_VALUE_SIGNS : PySem.W.nsIn K mainGlobals "VALUE_SIGNS" = some (some (.int 20 t_VALUE_SIGNS)))
    (lT_Store___init__ : K.lookup dT_Store___init__ = some ⟨.type "tuple", dn_Store___init__, .seq #[.none] nd_Store___init__, sd_Store___init__⟩)
    (z_abs : PySem.W.nsIn K mainGlobals "abs" = some none)
    (z_all : PySem.W.nsIn K mainGlobals "all" = some none)
    (z_bool : PySem.W.nsIn K mainGlobals "bool" = some none)
    (z_dict : PySem.W.nsIn K mainGlobals "dict" = some none)
    (z_enumerate : PySem.W.nsIn K mainGlobals "enumerate" = some none)
    (z_int : PySem.W.nsIn K mainGlobals "int" = some none)
    (z_isinstance : PySem.W.nsIn K mainGlobals "isinstance" = some none)
    (z_len : PySem.W.nsIn K mainGlobals "len" = some none)
    (z_list : PySem.W.nsIn K mainGlobals "list" = some none)
    (z_max : PySem.W.nsIn K mainGlobals "max" = some none)
    (z_range : PySem.W.nsIn K mainGlobals "range" = some none)
    (z_str : PySem.W.nsIn K mainGlobals "str" = some none)
    (z_tuple : PySem.W.nsIn K mainGlobals "tuple" = some none)
    : ∃ fd : FuncData, (∀ (s : Shared) (v : Value), BindsTo s fd ⟨[v], []⟩ [("script", v)]) ∧ ∀ base : Heap, K.In base → base.Ns mainGlobals mg → FnOk l.prog w K mg base CX0 10 fa fd ["script"] (sp_law K) := by
  have e := hfa.symm.trans (PySem.W.mg_of X G a_law)
  cases e
  have F__wall := fun_mk (st := s__wall) l__wall c__wall k__wall
  have b__wall := F__wall.binds (ps := ["k"]) fun _ _ _ _ _ _ us hl => match us, hl with | [_], _ => rfl
  have F_is_integer := fun_mk (st := s_is_integer) l_is_integer c_is_integer k_is_integer
  have b_is_integer := F_is_integer.binds (ps := ["data"]) fun _ _ _ _ _ _ us hl => match us, hl with | [_], _ => rfl
  have F_is_text := fun_mk (st := s_is_text) l_is_text c_is_text k_is_text
  have b_is_text := F_is_text.binds (ps := ["data"]) fun _ _ _ _ _ _ us hl => match us, hl with | [_], _ => rfl
  have F_is_integer_within := fun_mk (st := s_is_integer_within) l_is_integer_within c_is_integer_within k_is_integer_within
  have b_is_integer_within := F_is_integer_within.binds (ps := ["data", "most"]) fun _ _ _ _ _ _ us hl => match us, hl with | [_, _], _ => rfl
  have F_is_value := fun_mk (st := s_is_value) l_is_value c_is_value k_is_value
  have b_is_value := F_is_value.binds (ps := ["data"]) fun _ _ _ _ _ _ us hl => match us, hl with | [_], _ => rfl
  have F_key_of_deed := fun_mk (st := s_key_of_deed) l_key_of_deed c_key_of_deed k_key_of_deed
  have b_key_of_deed := F_key_of_deed.binds (ps := ["deed"]) fun _ _ _ _ _ _ us hl => match us, hl with | [_], _ => rfl
  have F_apply_deed := fun_mk (st := s_apply_deed) l_apply_deed c_apply_deed k_apply_deed
  have b_apply_deed := F_apply_deed.binds (ps := ["rows", "deed"]) fun _ _ _ _ _ _ us hl => match us, hl with | [_, _], _ => rfl
  have F__add := fun_mk (st := s__add) l__add c__add k__add
  have b__add := F__add.binds (ps := ["rows", "key", "number"]) fun _ _ _ _ _ _ us hl => match us, hl with | [_, _, _], _ => rfl
  have F_do_deal := fun_mk (st := s_do_deal) l_do_deal c_do_deal k_do_deal
  have b_do_deal := F_do_deal.binds (ps := ["rows", "deal"]) fun _ _ _ _ _ _ us hl => match us, hl with | [_, _], _ => rfl
  have F_Store___init__ := Xk.funD_mk (st := s_Store___init__) (dvs := [.non]) l_Store___init__ c_Store___init__ k_Store___init__ (by simp) lT_Store___init__ rfl (its := [.none]) (.cons rfl Paired.nil)
  obtain ⟨D0_Store___init__, V0_Store___init__, b0_Store___init__⟩ := F_Store___init__.binds1 (ps := ["self", "rows"]) 1 0 (by simp) rfl fun _ _ _ _ _ _ _ us its h1 h2 => match us, h1, its, h2 with | [_], _, [_], _ => ⟨_, rfl, rfl⟩
  obtain ⟨D1_Store___init__, V1_Store___init__, b1_Store___init__⟩ := F_Store___init__.binds1 (ps := ["self", "rows"]) 2 1 (by simp) rfl fun _ _ _ _ _ _ _ us its h1 h2 => match us, h1, its, h2 with | [_, _], _, [_], _ => ⟨_, rfl, rfl⟩
  have F_Store_do := fun_mk (st := s_Store_do) l_Store_do c_Store_do k_Store_do
  have b_Store_do := F_Store_do.binds (ps := ["self", "deal"]) fun _ _ _ _ _ _ us hl => match us, hl with | [_, _], _ => rfl
  have F_Store_fork := fun_mk (st := s_Store_fork) l_Store_fork c_Store_fork k_Store_fork
  have b_Store_fork := F_Store_fork.binds (ps := ["self"]) fun _ _ _ _ _ _ us hl => match us, hl with | [_], _ => rfl
  have F_fault_of := fun_mk (st := s_fault_of) l_fault_of c_fault_of k_fault_of
  have b_fault_of := F_fault_of.binds (ps := ["history", "order"]) fun _ _ _ _ _ _ us hl => match us, hl with | [_, _], _ => rfl
  have F_store_behind := fun_mk (st := s_store_behind) l_store_behind c_store_behind k_store_behind
  have b_store_behind := F_store_behind.binds (ps := ["history", "order"]) fun _ _ _ _ _ _ us hl => match us, hl with | [_, _], _ => rfl
  have F_is_decided := fun_mk (st := s_is_decided) l_is_decided c_is_decided k_is_decided
  have b_is_decided := F_is_decided.binds (ps := ["answer"]) fun _ _ _ _ _ _ us hl => match us, hl with | [_], _ => rfl
  have F__by_name := fun_mk (st := s__by_name) l__by_name c__by_name k__by_name
  have b__by_name := F__by_name.binds (ps := ["history"]) fun _ _ _ _ _ _ us hl => match us, hl with | [_], _ => rfl
  have F__fault_of_names := fun_mk (st := s__fault_of_names) l__fault_of_names c__fault_of_names k__fault_of_names
  have b__fault_of_names := F__fault_of_names.binds (ps := ["records", "order"]) fun _ _ _ _ _ _ us hl => match us, hl with | [_, _], _ => rfl
  have F__fault_of_answers := fun_mk (st := s__fault_of_answers) l__fault_of_answers c__fault_of_answers k__fault_of_answers
  have b__fault_of_answers := F__fault_of_answers.binds (ps := ["records", "order"]) fun _ _ _ _ _ _ us hl => match us, hl with | [_, _], _ => rfl
  have F__missing := fun_mk (st := s__missing) l__missing c__missing k__missing
  have b__missing := F__missing.binds (ps := ["history", "order"]) fun _ _ _ _ _ _ us hl => match us, hl with | [_, _], _ => rfl
  have F__late := fun_mk (st := s__late) l__late c__late k__late
  have b__late := F__late.binds (ps := ["records", "order"]) fun _ _ _ _ _ _ us hl => match us, hl with | [_, _], _ => rfl
  have F__law_number := fun_mk (st := s__law_number) l__law_number c__law_number k__law_number
  have b__law_number := F__law_number.binds (ps := ["script", "k"]) fun _ _ _ _ _ _ us hl => match us, hl with | [_, _], _ => rfl
  have F__law_take := fun_mk (st := s__law_take) l__law_take c__law_take k__law_take
  have b__law_take := F__law_take.binds (ps := ["box", "size"]) fun _ _ _ _ _ _ us hl => match us, hl with | [_, _], _ => rfl
  have F__law_key := fun_mk (st := s__law_key) l__law_key c__law_key k__law_key
  have b__law_key := F__law_key.binds (ps := ["box", "sign"]) fun _ _ _ _ _ _ us hl => match us, hl with | [_, _], _ => rfl
  have F__law_keys := fun_mk (st := s__law_keys) l__law_keys c__law_keys k__law_keys
  have b__law_keys := F__law_keys.binds (ps := ["box"]) fun _ _ _ _ _ _ us hl => match us, hl with | [_], _ => rfl
  have F__law_value := fun_mk (st := s__law_value) l__law_value c__law_value k__law_value
  have b__law_value := F__law_value.binds (ps := ["box"]) fun _ _ _ _ _ _ us hl => match us, hl with | [_], _ => rfl
  have F__law_maybe := fun_mk (st := s__law_maybe) l__law_maybe c__law_maybe k__law_maybe
  have b__law_maybe := F__law_maybe.binds (ps := ["box"]) fun _ _ _ _ _ _ us hl => match us, hl with | [_], _ => rfl
  have F__law_deed := fun_mk (st := s__law_deed) l__law_deed c__law_deed k__law_deed
  have b__law_deed := F__law_deed.binds (ps := ["box", "keys"]) fun _ _ _ _ _ _ us hl => match us, hl with | [_, _], _ => rfl
  have F__law_deal := fun_mk (st := s__law_deal) l__law_deal c__law_deal k__law_deal
  have b__law_deal := F__law_deal.binds (ps := ["box", "keys", "rows"]) fun _ _ _ _ _ _ us hl => match us, hl with | [_, _, _], _ => rfl
  have F__law_done := fun_mk (st := s__law_done) l__law_done c__law_done k__law_done
  have b__law_done := F__law_done.binds (ps := ["rows", "deed"]) fun _ _ _ _ _ _ us hl => match us, hl with | [_, _], _ => rfl
  have F__law_do := fun_mk (st := s__law_do) l__law_do c__law_do k__law_do
  have b__law_do := F__law_do.binds (ps := ["rows", "deal"]) fun _ _ _ _ _ _ us hl => match us, hl with | [_, _], _ => rfl
  have F__law_history := fun_mk (st := s__law_history) l__law_history c__law_history k__law_history
  have b__law_history := F__law_history.binds (ps := ["script", "keys", "count"]) fun _ _ _ _ _ _ us hl => match us, hl with | [_, _, _], _ => rfl
  have F__law_closed := fun_mk (st := s__law_closed) l__law_closed c__law_closed k__law_closed
  have b__law_closed := F__law_closed.binds (ps := ["row", "call", "events"]) fun _ _ _ _ _ _ us hl => match us, hl with | [_, _, _], _ => rfl
  have F__law_fate := fun_mk (st := s__law_fate) l__law_fate c__law_fate k__law_fate
  have b__law_fate := F__law_fate.binds (ps := ["box", "rows", "call", "order"]) fun _ _ _ _ _ _ us hl => match us, hl with | [_, _, _, _], _ => rfl
  have F__law_record := fun_mk (st := s__law_record) l__law_record c__law_record k__law_record
  have b__law_record := F__law_record.binds (ps := ["history", "name"]) fun _ _ _ _ _ _ us hl => match us, hl with | [_, _], _ => rfl
  have F__law_names_fault := fun_mk (st := s__law_names_fault) l__law_names_fault c__law_names_fault k__law_names_fault
  have b__law_names_fault := F__law_names_fault.binds (ps := ["history", "order"]) fun _ _ _ _ _ _ us hl => match us, hl with | [_, _], _ => rfl
  have F__law_answers_fault := fun_mk (st := s__law_answers_fault) l__law_answers_fault c__law_answers_fault k__law_answers_fault
  have b__law_answers_fault := F__law_answers_fault.binds (ps := ["history", "order"]) fun _ _ _ _ _ _ us hl => match us, hl with | [_, _], _ => rfl
  have F__law_rest_fault := fun_mk (st := s__law_rest_fault) l__law_rest_fault c__law_rest_fault k__law_rest_fault
  have b__law_rest_fault := F__law_rest_fault.binds (ps := ["history", "order"]) fun _ _ _ _ _ _ us hl => match us, hl with | [_, _], _ => rfl
  have F__law_fault := fun_mk (st := s__law_fault) l__law_fault c__law_fault k__law_fault
  have b__law_fault := F__law_fault.binds (ps := ["history", "order"]) fun _ _ _ _ _ _ us hl => match us, hl with | [_, _], _ => rfl
  have F__law_changed := fun_mk (st := s__law_changed) l__law_changed c__law_changed k__law_changed
  have b__law_changed := F__law_changed.binds (ps := ["history", "order", "box"]) fun _ _ _ _ _ _ us hl => match us, hl with | [_, _, _], _ => rfl
  have F__law_other := fun_mk (st := s__law_other) l__law_other c__law_other k__law_other
  have b__law_other := F__law_other.binds (ps := ["record", "name"]) fun _ _ _ _ _ _ us hl => match us, hl with | [_, _], _ => rfl
  have F_law := fun_mk (st := s_law) l_law c_law k_law
  have b_law := F_law.binds (ps := ["script"]) fun _ _ _ _ _ _ us hl => match us, hl with | [_], _ => rfl
  let T : Txt K mg := ⟨C_Store, ⟨pg_Store, hd_Store, po_Store, sa_Store⟩, PySem.W.mg_of X G aC_Store, na_Store_rows, t_ANSWER, PySem.W.mg_of X G z_ANSWER, t_ANSWERED, PySem.W.mg_of X G z_ANSWERED, t_ASKED, PySem.W.mg_of X G z_ASKED, t_DEAL, PySem.W.mg_of X G z_DEAL, t_HIGH_SIGNS, PySem.W.mg_of X G z_HIGH_SIGNS, t_LOW_SIGNS, PySem.W.mg_of X G z_LOW_SIGNS, t_MOST_VALUE, PySem.W.mg_of X G z_MOST_VALUE, t_VALUE_SIGNS, PySem.W.mg_of X G z_VALUE_SIGNS, f__wall, _, F__wall, b__wall, PySem.W.mg_of X G a__wall, f_is_integer, _, F_is_integer, b_is_integer, PySem.W.mg_of X G a_is_integer, f_is_text, _, F_is_text, b_is_text, PySem.W.mg_of X G a_is_text, f_is_integer_within, _, F_is_integer_within, b_is_integer_within, PySem.W.mg_of X G a_is_integer_within, f_is_value, _, F_is_value, b_is_value, PySem.W.mg_of X G a_is_value, f_key_of_deed, _, F_key_of_deed, b_key_of_deed, PySem.W.mg_of X G a_key_of_deed, f_apply_deed, _, F_apply_deed, b_apply_deed, PySem.W.mg_of X G a_apply_deed, f__add, _, F__add, b__add, PySem.W.mg_of X G a__add, f_do_deal, _, F_do_deal, b_do_deal, PySem.W.mg_of X G a_do_deal, f_Store___init__, _, F_Store___init__, D0_Store___init__, V0_Store___init__, b0_Store___init__, D1_Store___init__, V1_Store___init__, b1_Store___init__, ⟨mk_Store, a_Store___init__, i_Store___init__, kc_Store⟩, f_Store_do, _, F_Store_do, b_Store_do, ⟨a_Store_do, i_Store_do, k_Store_do⟩, f_Store_fork, _, F_Store_fork, b_Store_fork, ⟨a_Store_fork, i_Store_fork, k_Store_fork⟩, f_fault_of, _, F_fault_of, b_fault_of, PySem.W.mg_of X G a_fault_of, f_store_behind, _, F_store_behind, b_store_behind, PySem.W.mg_of X G a_store_behind, f_is_decided, _, F_is_decided, b_is_decided, PySem.W.mg_of X G a_is_decided, f__by_name, _, F__by_name, b__by_name, PySem.W.mg_of X G a__by_name, f__fault_of_names, _, F__fault_of_names, b__fault_of_names, PySem.W.mg_of X G a__fault_of_names, f__fault_of_answers, _, F__fault_of_answers, b__fault_of_answers, PySem.W.mg_of X G a__fault_of_answers, f__missing, _, F__missing, b__missing, PySem.W.mg_of X G a__missing, f__late, _, F__late, b__late, PySem.W.mg_of X G a__late, f__law_number, _, F__law_number, b__law_number, PySem.W.mg_of X G a__law_number, f__law_take, _, F__law_take, b__law_take, PySem.W.mg_of X G a__law_take, f__law_key, _, F__law_key, b__law_key, PySem.W.mg_of X G a__law_key, f__law_keys, _, F__law_keys, b__law_keys, PySem.W.mg_of X G a__law_keys, f__law_value, _, F__law_value, b__law_value, PySem.W.mg_of X G a__law_value, f__law_maybe, _, F__law_maybe, b__law_maybe, PySem.W.mg_of X G a__law_maybe, f__law_deed, _, F__law_deed, b__law_deed, PySem.W.mg_of X G a__law_deed, f__law_deal, _, F__law_deal, b__law_deal, PySem.W.mg_of X G a__law_deal, f__law_done, _, F__law_done, b__law_done, PySem.W.mg_of X G a__law_done, f__law_do, _, F__law_do, b__law_do, PySem.W.mg_of X G a__law_do, f__law_history, _, F__law_history, b__law_history, PySem.W.mg_of X G a__law_history, f__law_closed, _, F__law_closed, b__law_closed, PySem.W.mg_of X G a__law_closed, f__law_fate, _, F__law_fate, b__law_fate, PySem.W.mg_of X G a__law_fate, f__law_record, _, F__law_record, b__law_record, PySem.W.mg_of X G a__law_record, f__law_names_fault, _, F__law_names_fault, b__law_names_fault, PySem.W.mg_of X G a__law_names_fault, f__law_answers_fault, _, F__law_answers_fault, b__law_answers_fault, PySem.W.mg_of X G a__law_answers_fault, f__law_rest_fault, _, F__law_rest_fault, b__law_rest_fault, PySem.W.mg_of X G a__law_rest_fault, f__law_fault, _, F__law_fault, b__law_fault, PySem.W.mg_of X G a__law_fault, f__law_changed, _, F__law_changed, b__law_changed, PySem.W.mg_of X G a__law_changed, f__law_other, _, F__law_other, b__law_other, PySem.W.mg_of X G a__law_other, fa, _, F_law, b_law, PySem.W.mg_of X G a_law, PySem.W.mg_none_of X G z_abs, PySem.W.mg_none_of X G z_all, PySem.W.mg_none_of X G z_bool, PySem.W.mg_none_of X G z_dict, PySem.W.mg_none_of X G z_enumerate, PySem.W.mg_none_of X G z_int, PySem.W.mg_none_of X G z_isinstance, PySem.W.mg_none_of X G z_len, PySem.W.mg_none_of X G z_list, PySem.W.mg_none_of X G z_max, PySem.W.mg_none_of X G z_range, PySem.W.mg_none_of X G z_str, PySem.W.mg_none_of X G z_tuple⟩
  exact ⟨PySem.W.fnOf "law" "law" (defArgs s_law) (defBody s_law) (defScope s_law) .none kV_law dc_law pm_law an_law cd_law ct_law, fun s v => .of_eq rfl, fun base _ _ => ok_law T⟩
end K80
open PySem PySem.W PyProof.Rows
set_option maxRecDepth 100000 in
set_option maxHeartbeats 0 in
theorem PySem.Challenge.cw_crosskeep_k80_orders_are_judged_holds : PySem.Challenge.rw_crosskeep_k80_orders_are_judged.Holds := by
  w_on; o_law; k_head; (case hw => w_witness2)
  k_fill
  refine L2.walk_of (l := PySem.Challenge.rw_crosskeep_k80_orders_are_judged) (n := 63) (k := 10) (x := "script") (CX := fun _ => L2.CX0) (sp := fun w => K80.sp_law _) rfl (by decide) rfl ⟨rfl, by decide, by decide⟩ (fun w h Y => PySem.W.kIn_of Y) ?F (fun _ _ a ns hl _ hS => ⟨a, ns, rfl, hS, hl, fun _ => rfl⟩) (fun _ _ _ _ _ h => h)
  case F =>
    intro w mg fa h KX G hmg
    refine' K80.all_mk KX G hmg ?aC_Store ?pg_Store ?hd_Store ?po_Store ?sa_Store ?mk_Store ?kc_Store ?na_Store_rows ?a__wall ?l__wall ?c__wall ?k__wall ?a_is_integer ?l_is_integer ?c_is_integer ?k_is_integer ?a_is_text ?l_is_text ?c_is_text ?k_is_text ?a_is_integer_within ?l_is_integer_within ?c_is_integer_within ?k_is_integer_within ?a_is_value ?l_is_value ?c_is_value ?k_is_value ?a_key_of_deed ?l_key_of_deed ?c_key_of_deed ?k_key_of_deed ?a_apply_deed ?l_apply_deed ?c_apply_deed ?k_apply_deed ?a__add ?l__add ?c__add ?k__add ?a_do_deal ?l_do_deal ?c_do_deal ?k_do_deal ?a_Store___init__ ?i_Store___init__ ?l_Store___init__ ?c_Store___init__ ?k_Store___init__ ?a_Store_do ?i_Store_do ?l_Store_do ?c_Store_do ?k_Store_do ?a_Store_fork ?i_Store_fork ?l_Store_fork ?c_Store_fork ?k_Store_fork ?a_fault_of ?l_fault_of ?c_fault_of ?k_fault_of ?a_store_behind ?l_store_behind ?c_store_behind ?k_store_behind ?a_is_decided ?l_is_decided ?c_is_decided ?k_is_decided ?a__by_name ?l__by_name ?c__by_name ?k__by_name ?a__fault_of_names ?l__fault_of_names ?c__fault_of_names ?k__fault_of_names ?a__fault_of_answers ?l__fault_of_answers ?c__fault_of_answers ?k__fault_of_answers ?a__missing ?l__missing ?c__missing ?k__missing ?a__late ?l__late ?c__late ?k__late ?a__law_number ?l__law_number ?c__law_number ?k__law_number ?a__law_take ?l__law_take ?c__law_take ?k__law_take ?a__law_key ?l__law_key ?c__law_key ?k__law_key ?a__law_keys ?l__law_keys ?c__law_keys ?k__law_keys ?a__law_value ?l__law_value ?c__law_value ?k__law_value ?a__law_maybe ?l__law_maybe ?c__law_maybe ?k__law_maybe ?a__law_deed ?l__law_deed ?c__law_deed ?k__law_deed ?a__law_deal ?l__law_deal ?c__law_deal ?k__law_deal ?a__law_done ?l__law_done ?c__law_done ?k__law_done ?a__law_do ?l__law_do ?c__law_do ?k__law_do ?a__law_history ?l__law_history ?c__law_history ?k__law_history ?a__law_closed ?l__law_closed ?c__law_closed ?k__law_closed ?a__law_fate ?l__law_fate ?c__law_fate ?k__law_fate ?a__law_record ?l__law_record ?c__law_record ?k__law_record ?a__law_names_fault ?l__law_names_fault ?c__law_names_fault ?k__law_names_fault ?a__law_answers_fault ?l__law_answers_fault ?c__law_answers_fault ?k__law_answers_fault ?a__law_rest_fault ?l__law_rest_fault ?c__law_rest_fault ?k__law_rest_fault ?a__law_fault ?l__law_fault ?c__law_fault ?k__law_fault ?a__law_changed ?l__law_changed ?c__law_changed ?k__law_changed ?a__law_other ?l__law_other ?c__law_other ?k__law_other ?a_law ?l_law ?c_law ?k_law ?z_ANSWER ?z_ANSWERED ?z_ASKED ?z_DEAL ?z_HIGH_SIGNS ?z_LOW_SIGNS ?z_MOST_VALUE ?z_VALUE_SIGNS ?lT_Store___init__ ?z_abs ?z_all ?z_bool ?z_dict ?z_enumerate ?z_int ?z_isinstance ?z_len ?z_list ?z_max ?z_range ?z_str ?z_tuple
    (case aC_Store => k_is)
    (case pg_Store => k_is)
    (case hd_Store => k_is)
    (case po_Store => k_is)
    (case sa_Store => k_is)
    (case mk_Store => k_is)
    (case kc_Store => k_is)
    (case na_Store_rows => k_is)
    (case a__wall => k_is)
    (case l__wall => k_is)
    (case c__wall => k_is)
    (case k__wall => k_is)
    (case a_is_integer => k_is)
    (case l_is_integer => k_is)
    (case c_is_integer => k_is)
    (case k_is_integer => k_is)
    (case a_is_text => k_is)
    (case l_is_text => k_is)
    (case c_is_text => k_is)
    (case k_is_text => k_is)
    (case a_is_integer_within => k_is)
    (case l_is_integer_within => k_is)
    (case c_is_integer_within => k_is)
    (case k_is_integer_within => k_is)
    (case a_is_value => k_is)
    (case l_is_value => k_is)
    (case c_is_value => k_is)
    (case k_is_value => k_is)
    (case a_key_of_deed => k_is)
    (case l_key_of_deed => k_is)
    (case c_key_of_deed => k_is)
    (case k_key_of_deed => k_is)
    (case a_apply_deed => k_is)
    (case l_apply_deed => k_is)
    (case c_apply_deed => k_is)
    (case k_apply_deed => k_is)
    (case a__add => k_is)
    (case l__add => k_is)
    (case c__add => k_is)
    (case k__add => k_is)
    (case a_do_deal => k_is)
    (case l_do_deal => k_is)
    (case c_do_deal => k_is)
    (case k_do_deal => k_is)
    (case a_Store___init__ => k_is)
    (case i_Store___init__ => k_is)
    (case l_Store___init__ => k_is)
    (case c_Store___init__ => k_is)
    (case k_Store___init__ => k_is)
    (case a_Store_do => k_is)
    (case i_Store_do => k_is)
    (case l_Store_do => k_is)
    (case c_Store_do => k_is)
    (case k_Store_do => k_is)
    (case a_Store_fork => k_is)
    (case i_Store_fork => k_is)
    (case l_Store_fork => k_is)
    (case c_Store_fork => k_is)
    (case k_Store_fork => k_is)
    (case a_fault_of => k_is)
    (case l_fault_of => k_is)
    (case c_fault_of => k_is)
    (case k_fault_of => k_is)
    (case a_store_behind => k_is)
    (case l_store_behind => k_is)
    (case c_store_behind => k_is)
    (case k_store_behind => k_is)
    (case a_is_decided => k_is)
    (case l_is_decided => k_is)
    (case c_is_decided => k_is)
    (case k_is_decided => k_is)
    (case a__by_name => k_is)
    (case l__by_name => k_is)
    (case c__by_name => k_is)
    (case k__by_name => k_is)
    (case a__fault_of_names => k_is)
    (case l__fault_of_names => k_is)
    (case c__fault_of_names => k_is)
    (case k__fault_of_names => k_is)
    (case a__fault_of_answers => k_is)
    (case l__fault_of_answers => k_is)
    (case c__fault_of_answers => k_is)
    (case k__fault_of_answers => k_is)
    (case a__missing => k_is)
    (case l__missing => k_is)
    (case c__missing => k_is)
    (case k__missing => k_is)
    (case a__late => k_is)
    (case l__late => k_is)
    (case c__late => k_is)
    (case k__late => k_is)
    (case a__law_number => k_is)
    (case l__law_number => k_is)
    (case c__law_number => k_is)
    (case k__law_number => k_is)
    (case a__law_take => k_is)
    (case l__law_take => k_is)
    (case c__law_take => k_is)
    (case k__law_take => k_is)
    (case a__law_key => k_is)
    (case l__law_key => k_is)
    (case c__law_key => k_is)
    (case k__law_key => k_is)
    (case a__law_keys => k_is)
    (case l__law_keys => k_is)
    (case c__law_keys => k_is)
    (case k__law_keys => k_is)
    (case a__law_value => k_is)
    (case l__law_value => k_is)
    (case c__law_value => k_is)
    (case k__law_value => k_is)
    (case a__law_maybe => k_is)
    (case l__law_maybe => k_is)
    (case c__law_maybe => k_is)
    (case k__law_maybe => k_is)
    (case a__law_deed => k_is)
    (case l__law_deed => k_is)
    (case c__law_deed => k_is)
    (case k__law_deed => k_is)
    (case a__law_deal => k_is)
    (case l__law_deal => k_is)
    (case c__law_deal => k_is)
    (case k__law_deal => k_is)
    (case a__law_done => k_is)
    (case l__law_done => k_is)
    (case c__law_done => k_is)
    (case k__law_done => k_is)
    (case a__law_do => k_is)
    (case l__law_do => k_is)
    (case c__law_do => k_is)
    (case k__law_do => k_is)
    (case a__law_history => k_is)
    (case l__law_history => k_is)
    (case c__law_history => k_is)
    (case k__law_history => k_is)
    (case a__law_closed => k_is)
    (case l__law_closed => k_is)
    (case c__law_closed => k_is)
    (case k__law_closed => k_is)
    (case a__law_fate => k_is)
    (case l__law_fate => k_is)
    (case c__law_fate => k_is)
    (case k__law_fate => k_is)
    (case a__law_record => k_is)
    (case l__law_record => k_is)
    (case c__law_record => k_is)
    (case k__law_record => k_is)
    (case a__law_names_fault => k_is)
    (case l__law_names_fault => k_is)
    (case c__law_names_fault => k_is)
    (case k__law_names_fault => k_is)
    (case a__law_answers_fault => k_is)
    (case l__law_answers_fault => k_is)
    (case c__law_answers_fault => k_is)
    (case k__law_answers_fault => k_is)
    (case a__law_rest_fault => k_is)
    (case l__law_rest_fault => k_is)
    (case c__law_rest_fault => k_is)
    (case k__law_rest_fault => k_is)
    (case a__law_fault => k_is)
    (case l__law_fault => k_is)
    (case c__law_fault => k_is)
    (case k__law_fault => k_is)
    (case a__law_changed => k_is)
    (case l__law_changed => k_is)
    (case c__law_changed => k_is)
    (case k__law_changed => k_is)
    (case a__law_other => k_is)
    (case l__law_other => k_is)
    (case c__law_other => k_is)
    (case k__law_other => k_is)
    (case a_law => k_is)
    (case l_law => k_is)
    (case c_law => k_is)
    (case k_law => k_is)
    (case z_ANSWER => k_is)
    (case z_ANSWERED => k_is)
    (case z_ASKED => k_is)
    (case z_DEAL => k_is)
    (case z_HIGH_SIGNS => k_is)
    (case z_LOW_SIGNS => k_is)
    (case z_MOST_VALUE => k_is)
    (case z_VALUE_SIGNS => k_is)
    (case lT_Store___init__ => k_is)
    (case z_abs => k_is)
    (case z_all => k_is)
    (case z_bool => k_is)
    (case z_dict => k_is)
    (case z_enumerate => k_is)
    (case z_int => k_is)
    (case z_isinstance => k_is)
    (case z_len => k_is)
    (case z_list => k_is)
    (case z_max => k_is)
    (case z_range => k_is)
    (case z_str => k_is)
    (case z_tuple => k_is)
#print axioms PySem.Challenge.cw_crosskeep_k80_orders_are_judged_holds

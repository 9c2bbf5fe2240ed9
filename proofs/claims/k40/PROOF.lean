import PyProof.Rows.All
import Wide.All
import OpenK.AllK
import Wide.FinOn
import HandS.ForMost
import HandS.TryOnly
import HandS.IsInst
import HandS.Evl
import HandS.Wide
import HandS.TupAny
import HandS.SortInts
import HandS.Style
import HandS.Strs
import HandS.SetFor
import HandS.Conv
import HandS.More
import HandS.Walk
import HandS.WideBits
import HandS.Property
import HandS.TupLe
import HandS.Defaults
import HandS.Deep
import HandS.RevRange
import PyProof.StrOps2
import HandS.TupMul
import HandS.DictComp
import KE.GoesMore
import KE.SortKeyHeap
import KE.DataCmp
import HandS.SetKeys
import PyProof.DictMoreH
import KE.DataMinMax
import HandS.TupLen
import HandS.Head0
import HandS.Head1
import HandS.Head2
import HandS.HeadEnd
import HandS.HeadHook1
import HandS.HeadHook2
import PySem.Challenge.RW_crosskeep_k40_a_node_begins
set_option Elab.async false
set_option linter.all false
set_option maxRecDepth 100000
set_option maxHeartbeats 4000000

/-! ## readings, one step at a time (a layer of our own over the hand layer) -/
namespace Xk
open PySem PySem.Spec PyProof.Rows L2

section
variable {K : PySem.W.Frag} {σ : L2.St} {H H0 H1 H2 : Hp} {Q : VK} {ta tb tc te : TE} {t u : TT} {D : Ends} {tz tu tw : TS} {g : TG} {x y z v : V} {i j : Int} {b : Bool}

/-! ### values -/
theorem rel_ref {a : Addr} : RelV (.ref a) (.ref a) := rfl
theorem rel_ty {T : String} : RelV (.ty T) (.type T) := rfl
theorem rel_int {tk : Tok} : RelV (.int i) (.int i tk) := ⟨tk, rfl⟩
theorem rel_str {s : Str} {tk : Tok} : RelV (.str s) (.str s tk) := ⟨tk, rfl⟩

/-! ### heaps -/
/-- nothing stands at p -/
structure Fr (p : Addr) (H : Hp) : Prop where
  is : H p = none
theorem same_fr {p : Addr} {o : HO} (h : Fr p H) : Same H (upd H p o) := fun c x e => by
  rw [upd_ne (ne_of_none e h.is)]
  exact e
theorem same_new {p : Addr} {o : HO} (h : H p = none) : Same H (upd H p o) := fun c x e => by
  rw [upd_ne (ne_of_none e h)]
  exact e
theorem same_mut {p : Addr} {o : HO} (e : Same H H1) (h : Fr p H) : Same H (upd H1 p o) := fun c x ha => by
  rw [upd_ne (ne_of_none ha h.is)]
  exact e c x ha
theorem same_at {a : Addr} {o : HO} (e : Same H H1) (h : H a = some o) : H1 a = some o := e a o h
theorem free_back {p : Addr} (h : Fr p H1) (e : Same H H1) : Fr p H := ⟨Same.free e h.is⟩
theorem ne_new {a p : Addr} {o : HO} (h' : Fr p H) (h : H a = some o) : a ≠ p := ne_of_none h h'.is
theorem sq_of {a : Addr} {xs : List V} (h : H a = some (.lst xs)) : SqL K H a xs := Or.inl (Or.inl h)
theorem st_of {a : Addr} {xs : List V} (h : H a = some (.tup xs)) : SqT K H a xs := Or.inl (Or.inl h)
theorem sq_same {a : Addr} {xs : List V} (h : SqL K H a xs) (e : Same H H1) : SqL K H1 a xs := e.seq h
theorem st_same {a : Addr} {xs : List V} (h : SqT K H a xs) (e : Same H H1) : SqT K H1 a xs := by
  rcases h with (h | ⟨o, h⟩) | h
  · exact .inl (.inl (e _ _ h))
  · exact .inl (.inr ⟨o, e _ _ h⟩)
  · exact .inr h
theorem size_ok {n : Nat} (h : n ≤ 100000) : n ≤ sizeLine := Nat.le_trans h (by decide)
theorem size_lt {n : Nat} (h : n < 100000) : n < sizeLine := Nat.lt_of_lt_of_le h (by decide)

/-- all that was tracked but at p is as it was -/
def But (p : Addr) (H H' : Hp) : Prop := ∀ b o, b ≠ p → H b = some o → H' b = some o
theorem But.refl (p : Addr) (H : Hp) : But p H H := fun _ _ _ h => h
theorem but_same {p : Addr} (e : Same H H1) : But p H H1 := fun b o _ h => e b o h
theorem but_trans {p : Addr} (e : But p H H1) (e' : But p H1 H2) : But p H H2 := fun b o n h => e' b o n (e b o n h)
theorem but_mut {p : Addr} {o : HO} (e : But p H H1) : But p H (upd H1 p o) := fun b u n h => by
  rw [upd_ne n]
  exact e b u n h
theorem but_new {p q : Addr} {o : HO} (e : But p H H1) (h : Fr q H) : But p H (upd H1 q o) := fun b u n g => by
  rw [upd_ne (ne_of_none g h.is)]
  exact e b u n g
theorem but_at {p a : Addr} {o : HO} (e : But p H H1) (n : a ≠ p) (h : H a = some o) : H1 a = some o := e a o n h
theorem none_but {p a : Addr} {o u : HO} (h : H p = some o) (e : But p H H1) (h1 : H1 p = some u) (ha : Fr a H1) : Fr a H := by
  refine ⟨?_⟩
  cases q : H a with
  | none => rfl
  | some v =>
    by_cases n : a = p
    · subst n
      rw [ha.is] at h1
      cases h1
    · have := e a v n q
      rw [ha.is] at this
      cases this
theorem fr_upd {p q : Addr} {o : HO} (h : Fr p (upd H q o)) : Fr p H := by
  refine ⟨?_⟩
  have h1 := h.is
  unfold upd at h1
  split at h1
  · cases h1
  · exact h1
theorem same_but {p : Addr} (e : But p H H1) (h : Fr p H0) (e0 : Same H0 H) : Same H0 H1 := fun b o g => e b o (ne_of_none g h.is) (e0 b o g)

/-! ### expressions -/
theorem x_var {n : Nat} (h : σ[n]? = some (some v)) (q : Q v H) : tVar n σ H Q := ⟨v, h, q⟩
theorem x_c (q : Q v H) : tC v σ H Q := q
theorem x_op {r : R2} (q : ta σ H fun x H1 => tb σ H1 fun y H2 => r x y H2 Q) : tOp r ta tb σ H Q := q
theorem x_un {r : V → Hp → VK → Prop} (q : ta σ H fun x H1 => r x H1 Q) : tUn r ta σ H Q := q
theorem x_I0 {f : Int → Int → V} (q : Q (f i j) H) : rI0 f (.int i) (.int j) H Q := ⟨i, j, rfl, rfl, q⟩
theorem x_I {C : Int → Int → Prop} {f : Int → Int → V} (hc : C i j) (q : Q (f i j) H) : rI C f (.int i) (.int j) H Q := ⟨i, j, rfl, rfl, hc, q⟩
theorem x_U {f : Int → V} (q : Q (f i) H) : rU f (.int i) H Q := ⟨i, rfl, q⟩
theorem x_eq (h : scal x y = true) (q : Q (.bl (decide (x = y))) H) : rEq x y H Q := ⟨h, q⟩
theorem x_ne (h : scal x y = true) (q : Q (.bl (!decide (x = y))) H) : rNe x y H Q := ⟨h, q⟩
theorem x_ixL {p : Addr} {xs : List V} (h : SqL K H p xs) (ha : atI xs i = some v) (q : Q v H) : rIxL K (.ref p) (.int i) H Q := ⟨p, xs, i, v, rfl, rfl, h, ha, q⟩
theorem x_ixT {p : Addr} {xs : List V} (h : SqT K H p xs) (ha : atI xs i = some v) (q : Q v H) : rIxT K (.ref p) (.int i) H Q := ⟨p, xs, i, v, rfl, rfl, h, ha, q⟩
theorem x_ixS {w : Str} {c : Nat} (h : w.length ≤ 100000) (ha : atI w.cps.toList i = some c) (q : Q (.str ⟨#[c]⟩) H) : rIxS (.str w) (.int i) H Q := ⟨w, i, c, rfl, rfl, size_ok h, ha, q⟩
theorem x_nil {R : List V → Hp → Prop} (q : R [] H) : tNil σ H R := q
theorem x_cons {tr : TA} {R : List V → Hp → Prop} (q : ta σ H fun x H1 => tr σ H1 fun xs H2 => R (x :: xs) H2) : tCons ta tr σ H R := q
def New (Q : VK) (o : HO) (n : Nat) (H : Hp) : Prop := n ≤ sizeLine ∧ ∀ p, H p = none → Q (.ref p) (upd H p o)
theorem x_lst {tr : TA} (q : tr σ H fun xs H1 => New Q (.lst xs) xs.length H1) : tLst tr σ H Q := q
theorem x_tup {tr : TA} (q : tr σ H fun xs H1 => New Q (.tup xs) xs.length H1) : tTup tr σ H Q := q
/-- what is new is told by what it holds; the heap gets a name -/
theorem x_new {n : Nat} {o : HO} (hl : n ≤ 100000) (k : ∀ p H2, Fr p H → Same H H2 → H2 p = some o → Q (.ref p) H2) : New Q o n H :=
  ⟨size_ok hl, fun p hp => k p _ ⟨hp⟩ (same_new hp) upd_same⟩
theorem x_new1 {o : HO} (k : ∀ p H2, Fr p H → Same H H2 → H2 p = some o → Q (.ref p) H2) : ∀ p, H p = none → Q (.ref p) (upd H p o) :=
  fun p hp => k p _ ⟨hp⟩ (same_new hp) upd_same
theorem x_cb {r : List V → Hp → VK → Prop} {tr : TA} (q : tr σ H fun vs H1 => r vs H1 Q) : tCB r tr σ H Q := q
theorem x_call {sp : Sp} {dvs : List V} {E : XK} {tr : TA} (q : tr σ H fun vs H1 => sp (vs ++ dvs) H1 Q E) : tCall sp dvs E tr σ H Q := q
theorem x_sl {r : V → Option Int → Option Int → Hp → VK → Prop} {tl th : TO} (q : te σ H fun x H1 => tl σ H1 fun l H2 => th σ H2 fun u H3 => r x l u H3 Q) : tSl r te tl th σ H Q := q
theorem x_nopart {R : Option Int → Hp → Prop} (q : R none H) : tNoPart σ H R := q
theorem x_part {R : Option Int → Hp → Prop} (q : te σ H fun x H1 => ∃ i, x = .int i ∧ R (some i) H1) : tPart te σ H R := q
theorem x_if (q : t σ H fun c H1 => if c = true then ta σ H1 Q else tb σ H1 Q) : tIf t ta tb σ H Q := q
theorem x_andV (q : ta σ H fun x H1 => ∃ c, x = .bl c ∧ if c = true then tb σ H1 Q else Q (.bl false) H1) : tAndV ta tb σ H Q := q
theorem x_orV (q : ta σ H fun x H1 => ∃ c, x = .bl c ∧ if c = true then Q (.bl true) H1 else tb σ H1 Q) : tOrV ta tb σ H Q := q
theorem x_notV (q : ta σ H fun x H1 => ∃ c, x = .bl c ∧ Q (.bl (!c)) H1) : tNotV ta σ H Q := q
theorem x_bl {R : Bool → Prop} (q : R b) : ∃ c, V.bl b = .bl c ∧ R c := ⟨b, rfl, q⟩
theorem x_isI {R : Int → Prop} (q : R i) : ∃ c, V.int i = .int c ∧ R c := ⟨i, rfl, q⟩

/-! ### built-ins by names -/
def nInt : List V → Hp → VK → Prop := fun xs H Q => (∃ i, xs = [.int i] ∧ Q (.int i) H) ∨ ∃ k, xs = [.bl k] ∧ Q (.int (if k then 1 else 0)) H
theorem call_nInt {X : Cx} : CallR X (.type "int") nInt := call_int1
theorem x_nInt (q : Q (.int i) H) : nInt [.int i] H Q := .inl ⟨i, rfl, q⟩
theorem x_nIntB (q : Q (.int (if b then 1 else 0)) H) : nInt [.bl b] H Q := .inr ⟨b, rfl, q⟩
def nLen (K : PySem.W.Frag) : List V → Hp → VK → Prop := fun xs H Q => ∃ p ys, xs = [.ref p] ∧ (SqL K H p ys ∨ SqT K H p ys) ∧ Q (.int ys.length) H
theorem call_nLen {X : Cx} : CallR X (.builtin "len") (nLen X.K) := call_len_seq
theorem x_lenL {p : Addr} {ys : List V} (h : SqL K H p ys) (q : Q (.int ys.length) H) : nLen K [.ref p] H Q := ⟨p, ys, rfl, .inl h, q⟩
theorem x_lenT {p : Addr} {ys : List V} (h : SqT K H p ys) (q : Q (.int ys.length) H) : nLen K [.ref p] H Q := ⟨p, ys, rfl, .inr h, q⟩
def nListOf (K : PySem.W.Frag) : List V → Hp → VK → Prop := fun xs H Q => ∃ p ys, xs = [.ref p] ∧ (SqL K H p ys ∨ SqT K H p ys) ∧ ∀ l, H l = none → Q (.ref l) (upd H l (.lst ys))
theorem call_nListOf {X : Cx} : CallR X (.type "list") (nListOf X.K) := call_list_of
theorem x_listL {p : Addr} {ys : List V} (h : SqL K H p ys) (k : ∀ l H2, Fr l H → Same H H2 → H2 l = some (.lst ys) → Q (.ref l) H2) : nListOf K [.ref p] H Q := ⟨p, ys, rfl, .inl h, x_new1 k⟩
theorem x_listT {p : Addr} {ys : List V} (h : SqT K H p ys) (k : ∀ l H2, Fr l H → Same H H2 → H2 l = some (.lst ys) → Q (.ref l) H2) : nListOf K [.ref p] H Q := ⟨p, ys, rfl, .inr h, x_new1 k⟩
def nTupleOf (K : PySem.W.Frag) : List V → Hp → VK → Prop := fun xs H Q => ∃ p ys, xs = [.ref p] ∧ ((SqL K H p ys ∧ ∀ l, H l = none → Q (.ref l) (upd H l (.tup ys))) ∨ (SqT K H p ys ∧ Q (.ref p) H))
theorem call_nTupleOf {X : Cx} : CallR X (.type "tuple") (nTupleOf X.K) := call_tuple_of
theorem x_tupleL {p : Addr} {ys : List V} (h : SqL K H p ys) (k : ∀ l H2, Fr l H → Same H H2 → H2 l = some (.tup ys) → Q (.ref l) H2) : nTupleOf K [.ref p] H Q := ⟨p, ys, rfl, .inl ⟨h, x_new1 k⟩⟩
theorem x_tupleT {p : Addr} {ys : List V} (h : SqT K H p ys) (q : Q (.ref p) H) : nTupleOf K [.ref p] H Q := ⟨p, ys, rfl, .inr ⟨h, q⟩⟩
theorem kit_T {a c : String} (h : kitB a c = some true) : kitB a c = some true := h
theorem kit_F {a c : String} (h : kitB a c = some false) : kitB a c = some false := h
theorem x_isi {c : String} {tt : String} {k : Bool} (ty : TyX K H x (.type tt)) (e : kitB tt c = some k) (q : Q (.bl k) H) : rIsi K [x, .ty c] H Q := ⟨x, .ty c, .type tt, .type c, k, rfl, .ty _, ty, kit_ty e, q⟩
theorem x_isiInt {c : String} {k : Bool} (e : kitB "int" c = some k) (q : Q (.bl k) H) : rIsi K [.int i, .ty c] H Q := x_isi (.base (.int i)) e q
theorem x_isiBl {c : String} {k b : Bool} (e : kitB "bool" c = some k) (q : Q (.bl k) H) : rIsi K [.bl b, .ty c] H Q := x_isi (.base (.bl b)) e q
theorem x_isiStr {c : String} {k : Bool} {s : Str} (e : kitB "str" c = some k) (q : Q (.bl k) H) : rIsi K [.str s, .ty c] H Q := x_isi (.base (.str s)) e q
theorem x_isiNon {c : String} {k : Bool} (e : kitB "NoneType" c = some k) (q : Q (.bl k) H) : rIsi K [.non, .ty c] H Q := x_isi (.base .non) e q
theorem x_isiLst {c : String} {k : Bool} {a : Addr} {xs : List V} (h : H a = some (.lst xs)) (e : kitB "list" c = some k) (q : Q (.bl k) H) : rIsi K [.ref a, .ty c] H Q := x_isi (.base (.lst h)) e q
theorem x_isiTup {c : String} {k : Bool} {a : Addr} {xs : List V} (h : H a = some (.tup xs)) (e : kitB "tuple" c = some k) (q : Q (.bl k) H) : rIsi K [.ref a, .ty c] H Q := x_isi (.base (.tup h)) e q

def nSorted (K : PySem.W.Frag) : List V → Hp → VK → Prop := fun vs H Q => ∃ (a : Addr) (ns : List Int), vs = [V.ref a] ∧ SqL K H a (ns.map V.int) ∧ ns.length < 64 ∧
  ∀ (ns' : List Int) (p : Addr), ns'.Perm ns → ns'.Pairwise (· ≤ ·) → H p = none → Q (.ref p) (upd H p (.lst (ns'.map V.int)))
theorem x_sorted {a : Addr} {ns : List Int} (h : SqL K H a (ns.map V.int)) (hl : ns.length < 64) (k : ∀ p H2 (ns' : List Int), ns'.Perm ns → ns'.Pairwise (· ≤ ·) → Fr p H → Same H H2 → H2 p = some (.lst (ns'.map V.int)) → Q (.ref p) H2) : rSorted K [.ref a] H Q :=
  ⟨a, ns, rfl, h, hl, fun ns' p h1 h2 h3 => k p _ ns' h1 h2 ⟨h3⟩ (same_new h3) upd_same⟩
/-- set(t), t a tuple of ints -/
def rSetOfI (K : PySem.W.Frag) (w : World) : List V → Hp → VK → Prop := fun vs H Q => ∃ (p : Addr) (ns : List Int), vs = [V.ref p] ∧ SqT K H p (ns.map V.int) ∧ ns.length ≤ 1000 ∧ ∀ a n, H a = none → n ≤ ns.length → Q (.ref a) (upd H a (SetO w a (fun j => decide (j ∈ ns)) n))
theorem cr_setOfI {X : Cx} (hc : X.calm = true) : CallR X (.type "set") (rSetOfI X.K X.w) := by
  intro pins s σ H xs us Q I r h
  obtain ⟨p0, ns, rfl, hq, hl, q⟩ := h
  cases r with
  | cons r rr =>
    cases rr
    cases r
    obtain ⟨its, rv, pt, hz⟩ := I.tuple hq
    have hi : IntsAre its.toArray.toList ns := ints_of_vals rv
    have hd := I.ok.hd hc
    refine call_set_tupI ns hd (show s.heap.IsTuple p0 its.toArray from pt) hi (by unfold scanBound; omega) fun h' tk c R1 hcn k => ?_
    exact ⟨.ref _, upd H s.heap.objs.size (SetO X.w s.heap.objs.size (fun j => decide (j ∈ ns)) c), I.laid (t' := tk) k (Nat.le_refl _) (setO_new R1), rfl, q _ _ (I.hok.fresh (Nat.le_refl _)) hcn⟩
theorem x_setOfI {w : World} {p : Addr} {ns : List Int} (h : SqT K H p (ns.map V.int)) (hl : ns.length ≤ 1000) (k : ∀ a H2 n, Fr a H → Same H H2 → H2 a = some (SetO w a (fun j => decide (j ∈ ns)) n) → n ≤ ns.length → Q (.ref a) H2) : rSetOfI K w [.ref p] H Q :=
  ⟨p, ns, rfl, h, hl, fun a n h1 h2 => k a _ n ⟨h1⟩ (same_new h1) upd_same h2⟩
theorem x_sortedSet {w : World} {a : Addr} {S : Int → Bool} {n : Nat} (h : H a = some (SetO w a S n)) (hl : n < 64) (k : ∀ p H2 (ns : List Int), ns.Pairwise (· < ·) → (∀ k : Int, k ∈ ns ↔ S k = true) → ns.length = n → Fr p H → Same H H2 → H2 p = some (.lst (ns.map V.int)) → Q (.ref p) H2) : rSortedSet w [.ref a] H Q :=
  ⟨a, S, n, rfl, h, hl, fun ns p h1 h2 h3 h4 => k p _ ns h1 h2 h3 ⟨h4⟩ (same_new h4) upd_same⟩
theorem x_all {a : Addr} {bs : List Bool} (h : SqL K H a (bs.map V.bl)) (q : Q (.bl (bs.all id)) H) : rAll K [.ref a] H Q := ⟨a, bs, rfl, h, q⟩
theorem x_any {a : Addr} {bs : List Bool} (h : SqL K H a (bs.map V.bl)) (q : Q (.bl (bs.any id)) H) : rAny K [.ref a] H Q := ⟨a, bs, rfl, h, q⟩
theorem x_sum {a : Addr} {ns : List Int} (h : SqL K H a (ns.map V.int)) (q : Q (.int ns.sum) H) : rSum K [.ref a] H Q := ⟨a, ns, rfl, h, q⟩
theorem x_inL {p : Addr} {xs : List V} (h : SqL K H p xs) (hx : flatV x = true) (ha : xs.all flatV = true) (q : Q (.bl (inV x xs)) H) : rIn K false x (.ref p) H Q := ⟨p, xs, rfl, .inl h, hx, ha, q⟩
theorem x_inT {p : Addr} {xs : List V} (h : SqT K H p xs) (hx : flatV x = true) (ha : xs.all flatV = true) (q : Q (.bl (inV x xs)) H) : rIn K false x (.ref p) H Q := ⟨p, xs, rfl, .inr h, hx, ha, q⟩
theorem x_niL {p : Addr} {xs : List V} (h : SqL K H p xs) (hx : flatV x = true) (ha : xs.all flatV = true) (q : Q (.bl (!inV x xs)) H) : rIn K true x (.ref p) H Q := ⟨p, xs, rfl, .inl h, hx, ha, q⟩
theorem x_niT {p : Addr} {xs : List V} (h : SqT K H p xs) (hx : flatV x = true) (ha : xs.all flatV = true) (q : Q (.bl (!inV x xs)) H) : rIn K true x (.ref p) H Q := ⟨p, xs, rfl, .inr h, hx, ha, q⟩
theorem flat_ints : ∀ ns : List Int, (ns.map V.int).all flatV = true
  | [] => rfl
  | n :: r => by
    rw [List.map_cons, List.all_cons, flat_ints r]
    rfl
theorem in_ints (i : Int) : ∀ ns : List Int, inV (.int i) (ns.map V.int) = decide (i ∈ ns)
  | [] => by simp [inV]
  | n :: r => by
    have h := in_ints i r
    unfold inV at h ⊢
    rw [List.map_cons, List.any_cons, h]
    by_cases e : n = i
    · subst e
      simp [eqV]
    · have e' : ¬ i = n := fun z => e z.symm
      simp [eqV, e, e']

def nIsN : R2 := fun x y H Q => y = .non ∧ Q (.bl (decide (x = .non))) H
def nNotN : R2 := fun x y H Q => y = .non ∧ Q (.bl (!decide (x = .non))) H
theorem op_nIsN {X : Cx} : OpR X (compareOp .Is) nIsN := op_isN
theorem op_nNotN {X : Cx} : OpR X (compareOp .IsNot) nNotN := op_notN
theorem x_nIsN (q : Q (.bl (decide (x = .non))) H) : nIsN x .non H Q := ⟨rfl, q⟩
theorem x_nNotN (q : Q (.bl (!decide (x = .non))) H) : nNotN x .non H Q := ⟨rfl, q⟩
def nAndM : R2 := fun x y H Q => ∃ (i : Int) (k : Nat), x = .int i ∧ y = .int (2 ^ k - 1) ∧ Q (.int (i % 2 ^ k)) H
theorem op_nAndM {X : Cx} : OpR X (binaryOp .BitAnd) nAndM := op_andM
theorem x_and255 (q : Q (.int (i % 256)) H) : nAndM (.int i) (.int 255) H Q := ⟨i, 8, rfl, rfl, q⟩

/-! ### the same rules, K told: within a comprehension's block too -/
section
variable {X : Cx} {w : World}
theorem k_in (e : X.K = K) : OpR X (compareOp .In) (rIn K false) := e ▸ op_in_seq
theorem k_enum {e : Expr} {ta : TA} {p pos tpos : Pos} {elts : List Expr} {kk : Nat} (hk : X.K = K) (hg : Gl X "enumerate") (hm : X.mg "enumerate" = none) (ha : PA X [e] ta) (hs : starEach [e] X.env = [(false, eval e X.env)] := by rfl) :
    PI X (.Tuple elts kk tpos) (.Call (.Name "enumerate" p) [e] [] pos) (iEnum K ta) := hk ▸ pi_enum hg hm ha hs
theorem k_gtup {es : List Expr} {k : Nat} {pos : Pos} {gs : TGs} {n : Nat} (hk : X.K = K) (hc : X.calm = true) (h : PGs X es gs)
    (hn : (assignEach es X.env).length = n := by rfl) (hst : (assignEach es X.env).findIdx? (·.1) = none := by rfl) : PG X (.Tuple es k pos) (gTup K n gs) := hk ▸ pg_tup hc h hn hst
theorem k_nin (e : X.K = K) : OpR X (compareOp .NotIn) (rIn K true) := e ▸ op_notIn_seq
theorem k_ixL (e : X.K = K) : IxR X (rIxL K) := e ▸ ix_list
theorem k_ixT (e : X.K = K) : IxR X (rIxT K) := e ▸ ix_tup
theorem k_slL (e : X.K = K) : SlR X (rSlL K) := e ▸ sl_list
theorem k_len (e : X.K = K) : CallR X (.builtin "len") (nLen K) := e ▸ call_nLen
theorem k_list (e : X.K = K) : CallR X (.type "list") (nListOf K) := e ▸ call_nListOf
theorem k_tuple (e : X.K = K) : CallR X (.type "tuple") (nTupleOf K) := e ▸ call_nTupleOf
theorem k_isi (e : X.K = K) : CallR X (.builtin "isinstance") (rIsi K) := e ▸ call_isi
theorem k_all (hc : X.calm = true) (e : X.K = K) : CallR X (.builtin "all") (rAll K) := e ▸ cr_all hc
theorem k_any (hc : X.calm = true) (e : X.K = K) : CallR X (.builtin "any") (rAny K) := e ▸ cr_any hc
theorem k_sum (hc : X.calm = true) (e : X.K = K) : CallR X (.builtin "sum") (rSum K) := e ▸ cr_sum hc
theorem k_sorted (e : X.K = K) : CallR X (.builtin "sorted") (rSorted K) := e ▸ cr_sorted
theorem k_sortedS (e : X.K = K) : CallR X (.builtin "sorted") (rSortedS K) := e ▸ cr_sortedS
theorem k_sortedSet (hc : X.calm = true) (e : X.w = w) : CallR X (.builtin "sorted") (rSortedSet w) := e ▸ cr_sortedSet hc
theorem k_setOfI (hc : X.calm = true) (e : X.K = K) (e' : X.w = w) : CallR X (.type "set") (rSetOfI K w) := e ▸ e' ▸ cr_setOfI hc
theorem k_eqD (hu : X.A.units + 64 < cLine) (e : X.K = K) : OpR X (compareOp .Eq) (rEqD K) := e ▸ op_eqD hu
theorem k_neD (hu : X.A.units + 64 < cLine) (e : X.K = K) : OpR X (compareOp .NotEq) (rNeD K) := e ▸ op_neD hu
end

/-! ### tests -/
theorem x_test {R : Bool → Hp → Prop} (q : te σ H fun x H1 => ∃ k, x = .bl k ∧ R k H1) : tTest te σ H R := q
theorem x_B {R : Bool → Hp → Prop} (q : te σ H fun x H1 => ∃ k, x = .bl k ∧ R k H1) : tB te σ H R := q
theorem x_and {R : Bool → Hp → Prop} (q : t σ H fun c H1 => if c = true then u σ H1 R else R false H1) : tAnd t u σ H R := q
theorem x_or {R : Bool → Hp → Prop} (q : t σ H fun c H1 => if c = true then R true H1 else u σ H1 R) : tOr t u σ H R := q
theorem x_not {R : Bool → Hp → Prop} (q : t σ H fun c H1 => R (!c) H1) : tNot t σ H R := q
theorem x_yes {R : Bool → Hp → Prop} (q : R true H) : tYes σ H R := q
theorem x_chain {r r' : R2} (q : ta σ H fun x H1 => tb σ H1 fun y H2 => r x y H2 fun z H3 => ∃ k, z = .bl k ∧ (if k = true then tc σ H3 fun w' H4 => r' y w' H4 Q else Q (.bl false) H3)) : tChain r r' ta tb tc σ H Q := q
theorem x_itd {p A B : Prop} [Decidable p] (h1 : p → A) (h2 : ¬p → B) : if decide p = true then A else B := by
  by_cases h : p
  · rw [if_pos (decide_eq_true h)]
    exact h1 h
  · rw [if_neg (by rw [decide_eq_false h]; decide)]
    exact h2 h
theorem x_itn {p A B : Prop} [Decidable p] (h1 : ¬p → A) (h2 : p → B) : if (!decide p) = true then A else B := by
  by_cases h : p
  · rw [decide_eq_true h, if_neg (by decide)]
    exact h2 h
  · rw [decide_eq_false h, if_pos (by decide)]
    exact h1 h
theorem x_itb {A B : Prop} (h1 : b = true → A) (h2 : b = false → B) : if b = true then A else B := by
  cases b with
  | true => rw [if_pos rfl]; exact h1 rfl
  | false => rw [if_neg (by decide)]; exact h2 rfl
theorem x_itnb {A B : Prop} (h1 : b = false → A) (h2 : b = true → B) : if (!b) = true then A else B := by
  cases b with
  | true => exact h2 rfl
  | false => exact h1 rfl

theorem x_nT {A B : Prop} (h : B) : if (!true) = true then A else B := h
theorem x_nF {A B : Prop} (h : A) : if (!false) = true then A else B := h
theorem x_dY {p A B : Prop} [Decidable p] (hp : p) (h : A) : if decide p = true then A else B := x_itd (fun _ => h) fun z => absurd hp z
theorem x_dN {p A B : Prop} [Decidable p] (hp : ¬p) (h : B) : if decide p = true then A else B := x_itd (fun z => absurd z hp) fun _ => h
theorem x_ndY {p A B : Prop} [Decidable p] (hp : p) (h : B) : if (!decide p) = true then A else B := x_itn (fun z => absurd hp z) fun _ => h
theorem x_ndN {p A B : Prop} [Decidable p] (hp : ¬p) (h : A) : if (!decide p) = true then A else B := x_itn (fun _ => h) fun z => absurd z hp

/-! ### statements -/
theorem x_seq (q : tu { D with nx := tz D } σ H) : tSeq tu tz D σ H := q
theorem x_sasg {n : Nat} (q : te σ H fun v H1 => tz D (σ.set n (some v)) H1) : tSeq (tAsg te (gName n)) tz D σ H := q
theorem x_asg {n : Nat} (q : te σ H fun v H1 => D.nx (σ.set n (some v)) H1) : tAsg te (gName n) D σ H := q
theorem x_sasgG (q : te σ H fun v H1 => g v σ H1 (tz D)) : tSeq (tAsg te g) tz D σ H := q
theorem x_asgG (q : te σ H fun v H1 => g v σ H1 D.nx) : tAsg te g D σ H := q
theorem x_ret (q : te σ H D.rt) : tRet te D σ H := q
theorem x_retN (q : D.rt .non H) : tRetN D σ H := q
theorem x_next (q : D.nx σ H) : tNext D σ H := q
theorem x_brk (q : D.bk σ H) : tBreak D σ H := q
theorem x_ct (q : D.ct σ H) : tCont D σ H := q
theorem x_sif (q : t σ H fun b H1 => if b = true then tu { D with nx := tz D } σ H1 else tw { D with nx := tz D } σ H1) : tSeq (tIfS t tu tw) tz D σ H := q
theorem x_ifS (q : t σ H fun b H1 => if b = true then tu D σ H1 else tw D σ H1) : tIfS t tu tw D σ H := q
theorem x_sdrop (q : te σ H fun _ H1 => tz D σ H1) : tSeq (tDrop te) tz D σ H := q
theorem x_drop (q : te σ H fun _ H1 => D.nx σ H1) : tDrop te D σ H := q
theorem x_saug {n : Nat} {ti : TIp} (h : σ[n]? = some (some x)) (q : te σ H fun y H1 => ti x y H1 fun z H2 => tz D (σ.set n (some z)) H2) : tSeq (tAug n te ti) tz D σ H := ⟨x, h, q⟩
theorem x_aug {n : Nat} {ti : TIp} (h : σ[n]? = some (some x)) (q : te σ H fun y H1 => ti x y H1 fun z H2 => D.nx (σ.set n (some z)) H2) : tAug n te ti D σ H := ⟨x, h, q⟩
theorem x_ipI {f : Int → Int → Int} (q : Q (.int (f i j)) H) : ipI f (.int i) (.int j) H Q := ⟨i, j, rfl, rfl, q⟩
/-- an if, then the rest: what follows is shown once -/
theorem x_cut (M : L2.St → Hp → Prop) (h : tu { D with nx := M } σ H) (k : ∀ σ' H', M σ' H' → tz D σ' H') : Evl.tCut tu tz D σ H := ⟨M, h, k⟩
theorem x_nocut (h : tu { D with nx := tz D } σ H) : Evl.tCut tu tz D σ H := ⟨_, h, fun _ _ q => q⟩

theorem x_nocutW (h : tSeq (tWhile t tu) tz D σ H) : Evl.tCut (tWhile t tu) tz D σ H := ⟨_, h, fun _ _ q => q⟩

/-! ### targets -/
theorem x_gName {n : Nat} {R : L2.St → Hp → Prop} (q : R (σ.set n (some v)) H) : gName n v σ H R := q
theorem x_gTup {n : Nat} {gs : TGs} {R : L2.St → Hp → Prop} {a : Addr} {xs : List V} (h : SqT K H a xs) (hn : xs.length = n) (q : gs xs σ H R) : gTup K n gs (.ref a) σ H R := ⟨a, xs, rfl, h, hn, q⟩
theorem x_gLst {n : Nat} {gs : TGs} {R : L2.St → Hp → Prop} {a : Addr} {xs : List V} (h : SqL K H a xs) (hn : xs.length = n) (q : gs xs σ H R) : gLst K n gs (.ref a) σ H R := ⟨a, xs, rfl, h, hn, q⟩
theorem x_gCons {gs : TGs} {R : L2.St → Hp → Prop} {vs : List V} (q : g v σ H fun σ' H' => gs vs σ' H' R) : gCons g gs (v :: vs) σ H R := ⟨v, vs, rfl, q⟩
theorem x_gNil {R : L2.St → Hp → Prop} (q : R σ H) : gNil [] σ H R := ⟨rfl, q⟩
theorem x_gSub {to ti : TE} {ts : TSet} {R : L2.St → Hp → Prop} (q : to σ H fun o H1 => ti σ H1 fun i H2 => ts o i v H2 fun H3 => R σ H3) : gSub to ti ts v σ H R := q
theorem ixN_nat {n j : Nat} (hj : j < n) : ixN n (j : Int) = some j := by
  unfold ixN
  rw [if_pos (by omega), if_pos (by omega)]
  simp
theorem ixN_of {n j : Nat} {k : Int} (e : k = (j : Int)) (hj : j < n) : ixN n k = some j := by
  rw [e]
  exact ixN_nat hj
theorem at_nat {α : Type} {xs : List α} {k : Int} {j : Nat} {v : α} (e : k = (j : Int)) (h : xs[j]? = some v) : atI xs k = some v := by
  rw [e]
  exact atI_nat h
theorem at_neg {α : Type} {xs : List α} {k : Int} {j : Nat} {v : α} (hk : k < 0) (e : k + (xs.length : Int) = (j : Int)) (h : xs[j]? = some v) : atI xs k = some v := by
  unfold atI ixN
  rw [if_neg (by omega), if_pos (by omega)]
  have e2 : (k + (xs.length : Int)).toNat = j := by omega
  rw [e2]
  exact h
theorem x_setL {p : Addr} {xs : List V} {k : Int} {j : Nat} {R : Hp → Prop} (h : H p = some (.lst xs)) (hj : ixN xs.length k = some j) (q : R (upd H p (.lst (xs.set j v)))) : rSetL (.ref p) (.int k) v H R := ⟨p, xs, k, j, rfl, rfl, h, hj, q⟩
/-- xs.append(e) -/
theorem x_bm {T : String} {r : V → List V → Hp → VK → Prop} {tr : TA} (q : te σ H fun x H1 => tyV K T x H1 ∧ tr σ H1 fun xs H2 => r x xs H2 Q) : tBM K T r te tr σ H Q := q
theorem x_bm0 {T : String} {r : V → List V → Hp → VK → Prop} (q : te σ H fun x H1 => tyV K T x H1 ∧ r x [] H1 Q) : tBM0 K T r te σ H Q := q
theorem x_tyL {a : Addr} {xs : List V} {P : Prop} (h : SqL K H a xs) (q : P) : tyV K "list" (.ref a) H ∧ P := ⟨.inl ⟨rfl, xs, h⟩, q⟩
theorem x_app {l : Addr} {xs : List V} (h : H l = some (.lst xs)) (hz : xs.length < 100000) (q : Q .non (upd H l (.lst (xs ++ [v])))) : rAppend (.ref l) [v] H Q := ⟨l, xs, v, rfl, rfl, h, size_lt hz, q⟩
theorem x_cat {a c : Addr} {xs ys : List V} (h : H a = some (.lst xs)) (h' : H c = some (.lst ys)) (hz : xs.length + ys.length ≤ 100000) (k : ∀ p H2, Fr p H → Same H H2 → H2 p = some (.lst (xs ++ ys)) → Q (.ref p) H2) : rCat (.ref a) (.ref c) H Q :=
  ⟨a, c, xs, ys, rfl, rfl, h, h', size_ok hz, x_new1 k⟩
theorem x_slL {a : Addr} {xs : List V} {lo hi : Option Int} (h : SqL K H a xs) (k : ∀ p H2, Fr p H → Same H H2 → H2 p = some (.lst (cutV xs lo hi)) → Q (.ref p) H2) : rSlL K (.ref a) lo hi H Q := ⟨a, xs, rfl, h, x_new1 k⟩

/-! ### loops -/
theorem x_forR {n : Nat} (q : te σ H fun x H1 => ∃ m : Int, x = .int m ∧ 0 ≤ m ∧ m ≤ 100000 ∧ ∃ Pv : Nat → L2.St → Hp → Prop, Pv 0 σ H1 ∧
      (∀ (i : Nat) σ' H', (i : Int) < m → Pv i σ' H' → tu { D with nx := Pv (i + 1), ct := Pv (i + 1), bk := D.nx } (σ'.set n (some (.int (i : Int)))) H') ∧ (∀ σ' H', Pv m.toNat σ' H' → D.nx σ' H'))
    (mono : ∀ Q Q' : VK, (∀ v H1, Q v H1 → Q' v H1) → te σ H Q → te σ H Q') : tFor (iRng1 (tCons te tNil)) (gName n) tu D σ H := by
  refine mono _ _ (fun v H1 h => ?_) q
  obtain ⟨m, rfl, h0, h1, Pv, p0, ps, pd⟩ := h
  refine ⟨m, rfl, by omega, by omega, for_range (lo := 0) (n := m.toNat) Pv p0 (fun i σ' H' hi p => ?_) pd⟩
  have e0 : (0 : Int) + (i : Int) = (i : Int) := Int.zero_add _
  show tu { D with nx := Pv (i + 1), ct := Pv (i + 1), bk := D.nx } (σ'.set n (some (.int ((0 : Int) + (i : Int))))) H'
  rw [e0]
  exact ps i σ' H' (by omega) p
def RRange (n : Nat) (m : Int) (tu : TS) (D : Ends) (σ : L2.St) (H : Hp) : Prop := ∃ Pv : Nat → L2.St → Hp → Prop, Pv 0 σ H ∧
      (∀ (i : Nat) σ' H', (i : Int) < m → Pv i σ' H' → tu { D with nx := Pv (i + 1), ct := Pv (i + 1), bk := D.nx } (σ'.set n (some (.int (i : Int)))) H') ∧ (∀ σ' H', Pv m.toNat σ' H' → D.nx σ' H')
def rRange (n : Nat) (tu : TS) (D : Ends) (σ : L2.St) : List V → Hp → Prop := fun vs H => ∃ j : Int, vs = [.int j] ∧ -(2 ^ 62) ≤ j ∧ j < 2 ^ 62 ∧ ∃ W : Nat → Nat → L2.St → Hp → Prop, (∃ m, W 0 m σ H) ∧ ∀ i m σ H, W i m σ H →
  ((Itr 0 j.toNat).stop i H ∧ D.nx σ H) ∨ ((Itr 0 j.toNat).go i H ∧ ∃ N : L2.St → Hp → Prop, (∀ σ' H', N σ' H' → ∃ m', m' < m ∧ W (i + 1) m' σ' H') ∧ ∀ x H', (Itr 0 j.toNat).yld i H x H' → gName n x σ H' fun σ2 H2 => tu { D with nx := N, ct := N, bk := D.nx } σ2 H2)
theorem x_forR1 {n : Nat} {tr : TA} (q : tr σ H (rRange n tu D σ)) : tFor (iRng1 tr) (gName n) tu D σ H := q
theorem x_range {n : Nat} {m : Int} (Pv : Nat → L2.St → Hp → Prop) (hm : 0 ≤ m ∧ m ≤ 100000) (p0 : Pv 0 σ H)
    (ps : ∀ (i : Nat) σ' H', (i : Int) < m → Pv i σ' H' → tu { D with nx := Pv (i + 1), ct := Pv (i + 1), bk := D.nx } (σ'.set n (some (.int (i : Int)))) H') (pd : ∀ σ' H', Pv m.toNat σ' H' → D.nx σ' H') : rRange n tu D σ [.int m] H := by
  refine ⟨m, rfl, by omega, by omega, for_range (lo := 0) (n := m.toNat) Pv p0 (fun i σ' H' hi p => ?_) pd⟩
  have e0 : (0 : Int) + (i : Int) = (i : Int) := Int.zero_add _
  show tu { D with nx := Pv (i + 1), ct := Pv (i + 1), bk := D.nx } (σ'.set n (some (.int ((0 : Int) + (i : Int))))) H'
  rw [e0]
  exact ps i σ' H' (by omega) p
def rForL (K : PySem.W.Frag) (g : TG) (tu : TS) (D : Ends) (σ : L2.St) : VK := fun x H => ∃ a, x = .ref a ∧ (∃ xs, SqL K H a xs) ∧ ∃ W : Nat → Nat → L2.St → Hp → Prop, (∃ m, W 0 m σ H) ∧ ∀ i m σ H, W i m σ H →
  ((Itl K a).stop i H ∧ D.nx σ H) ∨ ((Itl K a).go i H ∧ ∃ N : L2.St → Hp → Prop, (∀ σ' H', N σ' H' → ∃ m', m' < m ∧ W (i + 1) m' σ' H') ∧ ∀ x H', (Itl K a).yld i H x H' → g x σ H' fun σ2 H2 => tu { D with nx := N, ct := N, bk := D.nx } σ2 H2)
theorem x_forL1 (q : te σ H (rForL K g tu D σ)) : tFor (iList K te) g tu D σ H := q
theorem x_forL {a : Addr} {xs : List V} (Pv : Nat → L2.St → Hp → Prop) (hx : SqL K H a xs) (p0 : Pv 0 σ H) (hl : ∀ i σ' H', i ≤ xs.length → Pv i σ' H' → SqL K H' a xs)
    (ps : ∀ i x σ' H', xs[i]? = some x → Pv i σ' H' → g x σ' H' fun σ2 H2 => tu { D with nx := Pv (i + 1), ct := Pv (i + 1), bk := D.nx } σ2 H2) (pd : ∀ σ' H', Pv xs.length σ' H' → D.nx σ' H') : rForL K g tu D σ (.ref a) H :=
  ⟨a, rfl, ⟨xs, hx⟩, for_list Pv p0 hl ps pd⟩
def rForT (K : PySem.W.Frag) (g : TG) (tu : TS) (D : Ends) (σ : L2.St) : VK := fun x H => ∃ a, x = .ref a ∧ (∃ xs, SqT K H a xs) ∧ ∃ W : Nat → Nat → L2.St → Hp → Prop, (∃ m, W 0 m σ H) ∧ ∀ i m σ H, W i m σ H →
  ((Itt K a).stop i H ∧ D.nx σ H) ∨ ((Itt K a).go i H ∧ ∃ N : L2.St → Hp → Prop, (∀ σ' H', N σ' H' → ∃ m', m' < m ∧ W (i + 1) m' σ' H') ∧ ∀ x H', (Itt K a).yld i H x H' → g x σ H' fun σ2 H2 => tu { D with nx := N, ct := N, bk := D.nx } σ2 H2)
theorem x_forT1 (q : te σ H (rForT K g tu D σ)) : tFor (iTup K te) g tu D σ H := q
theorem x_forT {a : Addr} {xs : List V} (Pv : Nat → L2.St → Hp → Prop) (hx : SqT K H a xs) (p0 : Pv 0 σ H) (hl : ∀ i σ' H', i ≤ xs.length → Pv i σ' H' → SqT K H' a xs)
    (ps : ∀ i x σ' H', xs[i]? = some x → Pv i σ' H' → g x σ' H' fun σ2 H2 => tu { D with nx := Pv (i + 1), ct := Pv (i + 1), bk := D.nx } σ2 H2) (pd : ∀ σ' H', Pv xs.length σ' H' → D.nx σ' H') : rForT K g tu D σ (.ref a) H :=
  ⟨a, rfl, ⟨xs, hx⟩, for_tup Pv p0 hl ps pd⟩
/-- while: W by a number that falls -/
def Falls (W : Nat → L2.St → Hp → Prop) (m : Nat) : L2.St → Hp → Prop := fun σ' H' => ∃ m', m' < m ∧ W m' σ' H'
theorem x_while (W : Nat → L2.St → Hp → Prop) (m0 : Nat) (h0 : W m0 σ H) (hs : ∀ m σ' H', W m σ' H' → t σ' H' fun b H1 => if b = true then tu { D with nx := Falls W m, ct := Falls W m, bk := D.nx } σ' H1 else D.nx σ' H1)
    (mono : ∀ (σ' : L2.St) (H' : Hp) (R R' : Bool → Hp → Prop), (∀ y H4, R y H4 → R' y H4) → t σ' H' R → t σ' H' R') : tWhile t tu D σ H :=
  ⟨W, ⟨m0, h0⟩, fun m σ' H' hw => mono _ _ _ _ (fun b H1 q => by
    cases b with
    | true =>
      rw [if_pos rfl] at q ⊢
      exact ⟨Falls W m, fun _ _ h => h, q⟩
    | false =>
      rw [if_neg (by decide)] at q ⊢
      exact q) (hs m σ' H' hw)⟩
def WTurn (W : Nat → L2.St → Hp → Prop) (m : Nat) (tu : TS) (D : Ends) (σ : L2.St) : Bool → Hp → Prop := fun b H1 => if b = true then ∃ N : L2.St → Hp → Prop, (∀ σ' H', N σ' H' → ∃ m', m' < m ∧ W m' σ' H') ∧ tu { D with nx := N, ct := N, bk := D.nx } σ H1 else D.nx σ H1
theorem x_while1 (W : Nat → L2.St → Hp → Prop) (m0 : Nat) (h0 : W m0 σ H) (hs : ∀ m σ' H', W m σ' H' → t σ' H' (WTurn W m tu D σ')) : tWhile t tu D σ H := ⟨W, ⟨m0, h0⟩, hs⟩
theorem x_wT {W : Nat → L2.St → Hp → Prop} {m : Nat} (q : tu { D with nx := Falls W m, ct := Falls W m, bk := D.nx } σ H) : WTurn W m tu D σ true H := by
  unfold WTurn
  rw [if_pos rfl]
  exact ⟨Falls W m, fun _ _ h => h, q⟩
theorem x_wF {W : Nat → L2.St → Hp → Prop} {m : Nat} (q : D.nx σ H) : WTurn W m tu D σ false H := by
  unfold WTurn
  rw [if_neg (by decide)]
  exact q
theorem x_wd {W : Nat → L2.St → Hp → Prop} {m : Nat} {p : Prop} [Decidable p] (h1 : p → WTurn W m tu D σ true H) (h2 : ¬p → WTurn W m tu D σ false H) : WTurn W m tu D σ (decide p) H := by
  by_cases h : p
  · rw [decide_eq_true h]
    exact h1 h
  · rw [decide_eq_false h]
    exact h2 h
theorem x_wn {W : Nat → L2.St → Hp → Prop} {m : Nat} {p : Prop} [Decidable p] (h1 : ¬p → WTurn W m tu D σ true H) (h2 : p → WTurn W m tu D σ false H) : WTurn W m tu D σ (!decide p) H := by
  by_cases h : p
  · rw [decide_eq_true h]
    exact h2 h
  · rw [decide_eq_false h]
    exact h1 h

/-! ### comprehensions -/
def RLc (J : It) (g : TG) (tt : TT) (te : TE) (vs : List Nat) (σ : L2.St) (Q : VK) : Hp → Prop := fun H1 => ∀ D, H1 D = none → ∃ W : Nat → Nat → Hp → Prop, (∃ m, W 0 m (upd H1 D (.lst []))) ∧ ∀ i m H, W i m H →
  (J.stop i H ∧ Q (.ref D) H) ∨ (J.go i H ∧ ∃ Nx : Hp → Prop, (∀ H', Nx H' → ∃ m', m' < m ∧ W (i + 1) m' H') ∧ ∀ x H', J.yld i H x H' → g x (wipe σ vs) H' fun σ2 H2 => wipe σ2 vs = wipe σ vs ∧ tt σ2 H2 fun b H3 =>
    if b = true then te σ2 H3 fun y H4 => ∃ acc, H4 D = some (.lst acc) ∧ acc.length < sizeLine ∧ Nx (upd H4 D (.lst (acc ++ [y]))) else Nx H3)
def rLcL (K : PySem.W.Frag) (g : TG) (tt : TT) (te : TE) (vs : List Nat) (σ : L2.St) (Q : VK) : VK := fun x H1 => ∃ a, x = .ref a ∧ (∃ xs, SqL K H1 a xs) ∧ RLc (Itl K a) g tt te vs σ Q H1
def rLcT (K : PySem.W.Frag) (g : TG) (tt : TT) (te : TE) (vs : List Nat) (σ : L2.St) (Q : VK) : VK := fun x H1 => ∃ a, x = .ref a ∧ (∃ xs, SqT K H1 a xs) ∧ RLc (Itt K a) g tt te vs σ Q H1
def rLcR (g : TG) (tt : TT) (te : TE) (vs : List Nat) (σ : L2.St) (Q : VK) : List V → Hp → Prop := fun xs H1 => ∃ j : Int, xs = [.int j] ∧ -(2 ^ 62) ≤ j ∧ j < 2 ^ 62 ∧ RLc (Itr 0 j.toNat) g tt te vs σ Q H1
theorem x_lcL1 {tx : TE} {vs : List Nat} (q : tx σ H (rLcL K g t te vs σ Q)) : tLc (iList K tx) g t te vs σ H Q := q
theorem x_lcT1 {tx : TE} {vs : List Nat} (q : tx σ H (rLcT K g t te vs σ Q)) : tLc (iTup K tx) g t te vs σ H Q := q
theorem x_lcR1 {tr : TA} {vs : List Nat} (q : tr σ H (rLcR g t te vs σ Q)) : tLc (iRng1 tr) g t te vs σ H Q := q
/-- a list comprehension: Pv of the new list's place, the turn and the heap -/
theorem x_lcL {a : Addr} {xs : List V} {vs : List Nat} (Pv : Addr → Nat → Hp → Prop) (hx : SqL K H a xs) (h0 : ∀ Dl, Fr Dl H → Pv Dl 0 (upd H Dl (.lst []))) (hl : ∀ Dl i H', Fr Dl H → Pv Dl i H' → SqL K H' a xs)
    (hs : ∀ Dl, Fr Dl H → ∀ i x H', xs[i]? = some x → Pv Dl i H' → g x (wipe σ vs) H' fun σ2 H2 => wipe σ2 vs = wipe σ vs ∧ t σ2 H2 fun b H3 =>
      if b = true then te σ2 H3 fun y H4 => ∃ acc, H4 Dl = some (.lst acc) ∧ acc.length < sizeLine ∧ Pv Dl (i + 1) (upd H4 Dl (.lst (acc ++ [y]))) else Pv Dl (i + 1) H3)
    (hd : ∀ Dl H', Fr Dl H → Pv Dl xs.length H' → Q (.ref Dl) H') : rLcL K g t te vs σ Q (.ref a) H := ⟨a, rfl, ⟨xs, hx⟩, fun Dl hD =>
  lc_list (xs := xs) (Pv Dl) (h0 Dl ⟨hD⟩) (fun i H' _ p => hl Dl i H' ⟨hD⟩ p) (fun i x H' hi p => hs Dl ⟨hD⟩ i x H' hi p) (fun H' p => hd Dl H' ⟨hD⟩ p)⟩
theorem x_lcT {a : Addr} {xs : List V} {vs : List Nat} (Pv : Addr → Nat → Hp → Prop) (hx : SqT K H a xs) (h0 : ∀ Dl, Fr Dl H → Pv Dl 0 (upd H Dl (.lst []))) (hl : ∀ Dl i H', Fr Dl H → Pv Dl i H' → SqT K H' a xs)
    (hs : ∀ Dl, Fr Dl H → ∀ i x H', xs[i]? = some x → Pv Dl i H' → g x (wipe σ vs) H' fun σ2 H2 => wipe σ2 vs = wipe σ vs ∧ t σ2 H2 fun b H3 =>
      if b = true then te σ2 H3 fun y H4 => ∃ acc, H4 Dl = some (.lst acc) ∧ acc.length < sizeLine ∧ Pv Dl (i + 1) (upd H4 Dl (.lst (acc ++ [y]))) else Pv Dl (i + 1) H3)
    (hd : ∀ Dl H', Fr Dl H → Pv Dl xs.length H' → Q (.ref Dl) H') : rLcT K g t te vs σ Q (.ref a) H := ⟨a, rfl, ⟨xs, hx⟩, fun Dl hD =>
  lc_tup (xs := xs) (Pv Dl) (h0 Dl ⟨hD⟩) (fun i H' _ p => hl Dl i H' ⟨hD⟩ p) (fun i x H' hi p => hs Dl ⟨hD⟩ i x H' hi p) (fun H' p => hd Dl H' ⟨hD⟩ p)⟩
theorem x_lcR {m : Int} {vs : List Nat} (Pv : Addr → Nat → Hp → Prop) (hm : 0 ≤ m ∧ m ≤ 100000) (h0 : ∀ Dl, Fr Dl H → Pv Dl 0 (upd H Dl (.lst [])))
    (hs : ∀ Dl, Fr Dl H → ∀ (i : Nat) H', (i : Int) < m → Pv Dl i H' → g (.int (i : Int)) (wipe σ vs) H' fun σ2 H2 => wipe σ2 vs = wipe σ vs ∧ t σ2 H2 fun b H3 =>
      if b = true then te σ2 H3 fun y H4 => ∃ acc, H4 Dl = some (.lst acc) ∧ acc.length < sizeLine ∧ Pv Dl (i + 1) (upd H4 Dl (.lst (acc ++ [y]))) else Pv Dl (i + 1) H3)
    (hd : ∀ Dl H', Fr Dl H → Pv Dl m.toNat H' → Q (.ref Dl) H') : rLcR g t te vs σ Q [.int m] H := ⟨m, rfl, by omega, by omega, fun Dl hD =>
  lc_range (lo := 0) (n := m.toNat) (Pv Dl) (h0 Dl ⟨hD⟩) (fun i H' hi p => by
    have e0 : (0 : Int) + (i : Int) = (i : Int) := Int.zero_add _
    rw [e0]
    exact hs Dl ⟨hD⟩ i H' (by omega) p) (fun H' p => hd Dl H' ⟨hD⟩ p)⟩
def rLcE (K : PySem.W.Frag) (g : TG) (tt : TT) (te : TE) (vs : List Nat) (σ : L2.St) (Q : VK) : List V → Hp → Prop := fun vs' H1 => ∃ a xs, vs' = [.ref a] ∧ SqL K H1 a xs ∧ RLc (Ite K a) g tt te vs σ Q H1
theorem x_lcE1 {tr : TA} {vs : List Nat} (q : tr σ H (rLcE K g t te vs σ Q)) : tLc (iEnum K tr) g t te vs σ H Q := q
theorem x_lcE {a : Addr} {xs : List V} {vs : List Nat} (Pv : Addr → Nat → Hp → Prop) (hx : SqL K H a xs) (h0 : ∀ Dl, Fr Dl H → Pv Dl 0 (upd H Dl (.lst []))) (hl : ∀ Dl i H', Fr Dl H → Pv Dl i H' → SqL K H' a xs)
    (hs : ∀ Dl, Fr Dl H → ∀ i x H1 T H', xs[i]? = some x → Pv Dl i H1 → Fr T H1 → Same H1 H' → H' T = some (.tup [.int (i : Nat), x]) → g (.ref T) (wipe σ vs) H' fun σ2 H2 => wipe σ2 vs = wipe σ vs ∧ t σ2 H2 fun b H3 =>
      if b = true then te σ2 H3 fun y H4 => ∃ acc, H4 Dl = some (.lst acc) ∧ acc.length < sizeLine ∧ Pv Dl (i + 1) (upd H4 Dl (.lst (acc ++ [y]))) else Pv Dl (i + 1) H3)
    (hd : ∀ Dl H', Fr Dl H → Pv Dl xs.length H' → Q (.ref Dl) H') : rLcE K g t te vs σ Q [.ref a] H := ⟨a, xs, rfl, hx, fun Dl hD =>
  lc_it walk_enum (Pv Dl) (h0 Dl ⟨hD⟩) (fun i H' _ p => hl Dl i H' ⟨hD⟩ p) (fun i x H1 H' hi p y => by
    obtain ⟨T, u, v, rfl, hT, rfl, e1, e2⟩ := y
    cases Option.some.inj e1
    exact hs Dl ⟨hD⟩ i v H1 T _ e2 p ⟨hT⟩ (same_new hT) upd_same) (fun H' p => hd Dl H' ⟨hD⟩ p)⟩
/-- the end of a turn: what is kept goes into the list -/
def Keep (Dl : Addr) (N : Hp → Prop) : VK := fun y H => ∃ acc, H Dl = some (.lst acc) ∧ acc.length < sizeLine ∧ N (upd H Dl (.lst (acc ++ [y])))
theorem x_keep {Dl : Addr} {N : Hp → Prop} {acc : List V} (h : H Dl = some (.lst acc)) (hz : acc.length < 100000) (q : N (upd H Dl (.lst (acc ++ [y])))) : ∃ acc, H Dl = some (.lst acc) ∧ acc.length < sizeLine ∧ N (upd H Dl (.lst (acc ++ [y]))) := ⟨acc, h, size_lt hz, q⟩
theorem x_wiped {A : Prop} {a b : L2.St} (h : a = b) (q : A) : a = b ∧ A := ⟨h, q⟩
end

/-! ### lists -/
theorem map_at {α β : Type} {f : α → β} {xs : List α} {j : Nat} {x : α} (h : xs[j]? = some x) : (xs.map f)[j]? = some (f x) := by
  rw [List.getElem?_map, h]
  rfl
theorem of_map_at {α β : Type} {f : α → β} {xs : List α} {j : Nat} {y : β} (h : (xs.map f)[j]? = some y) : ∃ x, xs[j]? = some x ∧ y = f x := by
  rw [List.getElem?_map] at h
  obtain ⟨x, hx, rfl⟩ := Option.map_eq_some_iff.mp h
  exact ⟨x, hx, rfl⟩
theorem at_lt {α : Type} {xs : List α} {j : Nat} {x : α} (h : xs[j]? = some x) : j < xs.length := (List.getElem?_eq_some_iff.mp h).1
theorem lt_at {α : Type} {xs : List α} {j : Nat} (h : j < xs.length) : ∃ x, xs[j]? = some x := ⟨xs[j], List.getElem?_eq_getElem h⟩
theorem drop_at {α : Type} {xs : List α} {j : Nat} {x : α} (h : xs[j]? = some x) : xs.drop j = x :: xs.drop (j + 1) := by
  obtain ⟨h1, h2⟩ := List.getElem?_eq_some_iff.mp h
  rw [List.drop_eq_getElem_cons h1, h2]
theorem snoc_map {α β : Type} {f : α → β} {xs : List α} {x : α} : xs.map f ++ [f x] = (xs ++ [x]).map f := by
  rw [List.map_append]
  rfl
theorem mem_snoc {α : Type} {P : α → Prop} {xs : List α} {x : α} (h : ∀ y ∈ xs, P y) (hx : P x) : ∀ y ∈ xs ++ [x], P y := fun y hy => by
  rcases List.mem_append.mp hy with hy | hy
  · exact h y hy
  · rw [List.mem_singleton.mp hy]
    exact hx

def upto (a b : Int) : List Int := (List.range (b - a).toNat).map fun i => a + (i : Nat)
theorem rgV_ints (a b : Int) : rgV a b = (upto a b).map V.int := by
  unfold rgV upto
  rw [List.map_map]
  rfl
theorem upto_len (a b : Int) : (upto a b).length = (b - a).toNat := by
  unfold upto
  rw [List.length_map, List.length_range]
def nRg (Q : VK) : Int → Int → Hp → Prop := fun a b H1 => RgOk a b ∧ ∀ q, H1 q = none → Q (.ref q) (upd H1 q (.lst (rgV a b)))
theorem x_lstRg {σ : L2.St} {H : Hp} {Q : VK} {te : L2.St → Hp → (Int → Int → Hp → Prop) → Prop} (q : te σ H (nRg Q)) : tLstRg te σ H Q := q
theorem x_rg1 {σ : L2.St} {H : Hp} {ta : TE} {R : Int → Int → Hp → Prop} (q : ta σ H fun x H1 => ∃ n, x = .int n ∧ R 0 n H1) : tRg1 ta σ H R := q
theorem x_nRg {H : Hp} {Q : VK} {a b : Int} (h : 0 ≤ a ∧ a ≤ 100000 ∧ 0 ≤ b ∧ b ≤ 100000) (k : ∀ p H2, Fr p H → Same H H2 → H2 p = some (.lst ((upto a b).map V.int)) → Q (.ref p) H2) : nRg Q a b H :=
  ⟨RgOk.of_le (by omega) (by omega) (by omega) (by omega), fun p hp => k p _ ⟨hp⟩ (same_new hp) (by rw [upd_same, rgV_ints])⟩
theorem upto_at {a b : Int} {j : Nat} (h : (j : Int) < b - a) : (upto a b)[j]? = some (a + j) := by
  unfold upto
  rw [List.getElem?_map, List.getElem?_range (by omega)]
  rfl

/-! ### lists of lists of ints -/
/-- at a stands a list of lists of ints: L their places and what they hold -/
def LL (H : Hp) (a : Addr) (L : List (Addr × List Int)) : Prop := H a = some (.lst (L.map fun e => V.ref e.1)) ∧ ∀ e ∈ L, H e.1 = some (.lst (e.2.map V.int))
theorem ll_same {H H' : Hp} {a : Addr} {L : List (Addr × List Int)} (e : Same H H') (h : LL H a L) : LL H' a L := ⟨e _ _ h.1, fun p hp => e _ _ (h.2 p hp)⟩
theorem ll_nil {H : Hp} {a : Addr} (h : H a = some (.lst [])) : LL H a [] := ⟨h, fun _ z => absurd z List.not_mem_nil⟩
theorem ll_snoc {H H' : Hp} {a p : Addr} {ns : List Int} {L : List (Addr × List Int)} (h : LL H a L) (h1 : H' a = some (.lst ((L.map fun e => V.ref e.1) ++ [V.ref p]))) (h2 : H' p = some (.lst (ns.map V.int))) (k : ∀ e ∈ L, H' e.1 = H e.1) : LL H' a (L ++ [(p, ns)]) := by
  refine ⟨?_, fun e he => ?_⟩
  · rw [h1, List.map_append]
    rfl
  · rcases List.mem_append.mp he with he | he
    · rw [k e he]
      exact h.2 e he
    · rw [List.mem_singleton.mp he]
      exact h2

/-! ### data -/
def dInts (ns : List Int) : List PyData := ns.map PyData.int
theorem dp_ints {K : PySem.W.Frag} {H : Hp} : ∀ ns : List Int, DpAll K H (ns.map V.int) (dInts ns)
  | [] => .nil
  | n :: r => .cons (.int n) (dp_ints r)
theorem canLay_ints : ∀ ns : List Int, PyData.canLayAll0 (dInts ns) = true
  | [] => by simp [dInts, PyData.canLayAll0]
  | n :: r => by
    have h := canLay_ints r
    unfold dInts at h ⊢
    rw [List.map_cons]
    simp only [PyData.canLayAll0, PyData.canLay0, h, Bool.and_self]
theorem eqv_ints : ∀ ns ms : List Int, PyData.eqvAll (dInts ns) (dInts ms) = decide (ns = ms)
  | [], [] => by simp [dInts, PyData.eqvAll]
  | [], m :: r => by simp [dInts, PyData.eqvAll]
  | n :: r, [] => by simp [dInts, PyData.eqvAll]
  | n :: r, m :: q => by
    have h := eqv_ints r q
    unfold dInts at h ⊢
    rw [List.map_cons, List.map_cons, PyData.eqvAll, h, PyData.eqv]
    by_cases h1 : n = m <;> by_cases h2 : r = q <;> simp [h1, h2]
theorem canLayAll_map {α : Type} {f : α → PyData} : ∀ (xs : List α), (∀ x ∈ xs, (f x).canLay0 = true) → PyData.canLayAll0 (xs.map f) = true
  | [], _ => by simp [PyData.canLayAll0]
  | x :: r, h => by
    have h1 := h x List.mem_cons_self
    have h2 := canLayAll_map r fun y hy => h y (List.mem_cons_of_mem _ hy)
    rw [List.map_cons]
    simp only [PyData.canLayAll0, h1, h2, Bool.and_self]
theorem depthAll_map {α : Type} {f : α → PyData} {n : Nat} : ∀ (xs : List α), (∀ x ∈ xs, (f x).depth ≤ n) → PyData.depthAll (xs.map f) ≤ n
  | [], _ => by simp [PyData.depthAll]
  | x :: r, h => by
    have h1 := h x List.mem_cons_self
    have h2 := depthAll_map r fun y hy => h y (List.mem_cons_of_mem _ hy)
    rw [List.map_cons, PyData.depthAll]
    omega
theorem depth_ints : ∀ ns : List Int, PyData.depthAll (dInts ns) = 0
  | [] => by simp [dInts, PyData.depthAll]
  | n :: r => by
    have h := depth_ints r
    unfold dInts at h ⊢
    rw [List.map_cons, PyData.depthAll, h, PyData.depth]
    rfl
theorem shaped_lints (ns : List Int) : SeqAt.shaped (.list (dInts ns)) = true := by
  unfold SeqAt.shaped
  rw [PyData.canLay0, canLay_ints, PyData.depth, depth_ints]
  rfl
theorem shaped_tints (ns : List Int) : SeqAt.shaped (.tuple (dInts ns)) = true := by
  unfold SeqAt.shaped
  rw [PyData.canLay0, canLay_ints, PyData.depth, depth_ints]
  rfl
theorem eqv_lints (ns ms : List Int) : PyData.eqv (.list (dInts ns)) (.list (dInts ms)) = decide (ns = ms) := by
  rw [PyData.eqv]
  exact eqv_ints ns ms
theorem eqv_tints (ns ms : List Int) : PyData.eqv (.tuple (dInts ns)) (.tuple (dInts ms)) = decide (ns = ms) := by
  rw [PyData.eqv]
  exact eqv_ints ns ms
theorem shaped_of {d : PyData} (h1 : d.canLay0 = true) (h2 : d.depth ≤ 64) : SeqAt.shaped d = true := by
  unfold SeqAt.shaped
  rw [h1, decide_eq_true h2]
  rfl
theorem canLay_lints (ns : List Int) : PyData.canLay0 (.list (dInts ns)) = true := by
  rw [PyData.canLay0, canLay_ints]
theorem depth_lints (ns : List Int) : PyData.depth (.list (dInts ns)) = 1 := by
  rw [PyData.depth, depth_ints]
/-- lists of lists of ints as data -/
def dLists (ps : List (List Int)) : List PyData := ps.map fun p => .list (dInts p)
theorem canLay_lists (ps : List (List Int)) : PyData.canLayAll0 (dLists ps) = true := canLayAll_map ps fun p _ => canLay_lints p
theorem depth_lists (ps : List (List Int)) : PyData.depthAll (dLists ps) ≤ 1 := depthAll_map ps fun p _ => Nat.le_of_eq (depth_lints p)
theorem dp_list {K : PySem.W.Frag} {H : Hp} : ∀ (L : List (Addr × List Int)), (∀ e ∈ L, H e.1 = some (.lst (e.2.map V.int))) → DpAll K H (L.map fun e => V.ref e.1) (dLists (L.map (·.2)))
  | [], _ => .nil
  | e :: r, h => .cons (.lst (sq_of (h e List.mem_cons_self)) (dp_ints _)) (dp_list r fun x hx => h x (List.mem_cons_of_mem _ hx))
theorem dp_LL {K : PySem.W.Frag} {H : Hp} {a : Addr} {L : List (Addr × List Int)} (h : LL H a L) : Dp K H (.ref a) (.list (dLists (L.map (·.2)))) := .lst (sq_of h.1) (dp_list L h.2)
mutual
theorem dp_same {K : PySem.W.Frag} {H H' : Hp} (e : Same H H') : ∀ (d : PyData) (v : V), Dp K H v d → Dp K H' v d
  | .none, _, h => by cases h; exact .non
  | .bool b, _, h => by cases h; exact .bl b
  | .int i, _, h => by cases h; exact .int i
  | .str x, _, h => by cases h; exact .str x
  | .list ds, _, h => by
    cases h with
    | lst hs ha => exact .lst (sq_same hs e) (dpAll_same e ds _ ha)
  | .tuple ds, _, h => by
    cases h with
    | tup hs ha => exact .tup (st_same hs e) (dpAll_same e ds _ ha)
  | .dict _, _, h => by cases h
theorem dpAll_same {K : PySem.W.Frag} {H H' : Hp} (e : Same H H') : ∀ (ds : List PyData) (vs : List V), DpAll K H vs ds → DpAll K H' vs ds
  | [], _, h => by cases h; exact .nil
  | d :: ds, _, h => by
    cases h with
    | cons h1 h2 => exact .cons (dp_same e d _ h1) (dpAll_same e ds _ h2)
end
/-- equal data -/
theorem x_neSame {K : PySem.W.Frag} {H : Hp} {Q : VK} {x y : V} {d : PyData} (h : Dp K H x d) (h' : Dp K H y d) (c : d.canLay0 = true) (n : d.depth ≤ 64) (q : Q (.bl false) H) : rNeD K x y H Q :=
  ⟨d, d, h, h', shaped_of c n, shaped_of c n, by rw [SeqAt.eqv_refl d c]; exact q⟩
theorem x_eqSame {K : PySem.W.Frag} {H : Hp} {Q : VK} {x y : V} {d : PyData} (h : Dp K H x d) (h' : Dp K H y d) (c : d.canLay0 = true) (n : d.depth ≤ 64) (q : Q (.bl true) H) : rEqD K x y H Q :=
  ⟨d, d, h, h', shaped_of c n, shaped_of c n, by rw [SeqAt.eqv_refl d c]; exact q⟩
section
variable {K : PySem.W.Frag} {H : Hp} {Q : VK} {a c : Addr} {ns ms : List Int}
theorem x_neInts (h : SqL K H a (ns.map V.int)) (h' : SqL K H c (ms.map V.int)) (q : Q (.bl (!decide (ns = ms))) H) : rNeD K (.ref a) (.ref c) H Q :=
  ⟨.list (dInts ns), .list (dInts ms), .lst h (dp_ints ns), .lst h' (dp_ints ms), shaped_lints ns, shaped_lints ms, by rw [eqv_lints]; exact q⟩
theorem x_eqInts (h : SqL K H a (ns.map V.int)) (h' : SqL K H c (ms.map V.int)) (q : Q (.bl (decide (ns = ms))) H) : rEqD K (.ref a) (.ref c) H Q :=
  ⟨.list (dInts ns), .list (dInts ms), .lst h (dp_ints ns), .lst h' (dp_ints ms), shaped_lints ns, shaped_lints ms, by rw [eqv_lints]; exact q⟩
theorem x_neTInts (h : SqT K H a (ns.map V.int)) (h' : SqT K H c (ms.map V.int)) (q : Q (.bl (!decide (ns = ms))) H) : rNeD K (.ref a) (.ref c) H Q :=
  ⟨.tuple (dInts ns), .tuple (dInts ms), .tup h (dp_ints ns), .tup h' (dp_ints ms), shaped_tints ns, shaped_tints ms, by rw [eqv_tints]; exact q⟩
theorem x_eqTInts (h : SqT K H a (ns.map V.int)) (h' : SqT K H c (ms.map V.int)) (q : Q (.bl (decide (ns = ms))) H) : rEqD K (.ref a) (.ref c) H Q :=
  ⟨.tuple (dInts ns), .tuple (dInts ms), .tup h (dp_ints ns), .tup h' (dp_ints ms), shaped_tints ns, shaped_tints ms, by rw [eqv_tints]; exact q⟩
end
end Xk
/-! ## slices stored and deleted, properties, own objects -/
namespace Xk
open PySem PySem.Spec PyProof.Rows L2
section
variable {X : Cx} {o : Expr} {lo hi : Option Expr} {to : TE} {tl th : TO} {pos p2 tpos : Pos}
/-- o[lo:hi] = another list -/
def gSubSl (to : TE) (tl th : TO) : TG := fun v σ H R => to σ H fun x H1 => tl σ H1 fun l H2 => th σ H2 fun u H3 => ∃ (a b : Addr) (xs ys : List V) (i j : Int), x = .ref a ∧ v = .ref b ∧ l = some i ∧ u = some j ∧
  H3 a = some (.lst xs) ∧ H3 b = some (.lst ys) ∧ a ≠ b ∧ 0 ≤ i ∧ i ≤ j ∧ j ≤ xs.length ∧ xs.length + ys.length ≤ sizeLine ∧ R σ (upd H3 a (.lst (xs.take i.toNat ++ ys ++ xs.drop j.toNat)))
theorem pg_subSl (ho : PE X o to) (hl : PO X lo tl) (hu : PO X hi th)
    (ha : ∀ v, assign (.Subscript o (.Slice lo hi none p2) pos) X.env v = (do
      let ov ← holding [v] (eval o X.env)
      let iv ← holding [v, ov] (eval (.Slice lo hi none p2) X.env)
      standAt pos
      holding [v, ov, iv] (setItem ov iv v)
      release [iv, v, ov] []) := by intro _; rfl) : PG X (.Subscript o (.Slice lo hi none p2) pos) (gSubSl to tl th) := by
  refine ⟨fun pins s σ H v u Q I r h => ?_⟩
  rw [ha]
  refine wpAny_bind (wpAny_holding (thn (ho.run pins s σ H _ I h) fun ov s1 ⟨x, H1, I1, r1, q1⟩ => ?_))
  refine wpAny_bind (wpAny_holding ?_)
  refine wpAny_Slice (thn (hl.run pins s1 σ H1 _ I1 q1) fun vl s2 ⟨l, H2, I2, pl, q2⟩ => thn (hu.run pins s2 σ H2 _ I2 q2) fun vu s3 ⟨w, H3, I3, pu, q3⟩ => ?_)
  rw [evalPart_none]
  refine wpAny_pure ?_
  have I4 : Inv X pins σ H3 { s3 with heap := s3.heap.push { cls := .type "slice", data := .fields #[vl, vu, .none] } } := I3.kept (t' := s3.toks) fun b ob q => Heap.get?_push_of_some _ q
  obtain ⟨a, b, xs, ys, i, j, rfl, rfl, rfl, rfl, hA, hB, hne, h0, hij, hj, hz, q⟩ := q3
  cases r1
  cases r
  cases pl with
  | int _ ti =>
  cases pu with
  | int _ tj =>
  refine wpAny_bind (wpAny_standAt (wpAny_bind (wpAny_holding ?_)))
  exact set_slice I4 hA hB hne (Heap.IsSliceOf.new ..) ⟨_, rfl⟩ ⟨_, rfl⟩ h0 hij hj hz fun s' I5 => wpAny_release ⟨σ, _, I5, q⟩

theorem sel_take (f : Nat → Bool) (i n : Nat) (h : ∀ k : Nat, f k = (decide ((i : Int) ≤ (k : Int)) && decide ((k : Int) < (n : Int)) && (((k : Int) - (i : Int)) % 1 == 0))) :
    ∀ (xs : List Value) (m : Nat), m + xs.length ≤ n → (xs.zipIdx m).filterMap (fun (x, k) => if f k then none else some x) = xs.take (i - m)
  | [], m, hm => by simp
  | x :: r, m, hm => by
    rw [List.length_cons] at hm
    have ih := sel_take f i n h r (m + 1) (by omega)
    rw [List.zipIdx_cons, List.filterMap_cons]
    have hf : f m = decide (i ≤ m) := by
      rw [h m]
      by_cases h1 : i ≤ m
      · have h2 : (i : Int) ≤ (m : Int) := by omega
        have h3 : (m : Int) < (n : Int) := by omega
        have h4 : ((m : Int) - (i : Int)) % 1 = 0 := by omega
        rw [h4, decide_eq_true h1, decide_eq_true h2, decide_eq_true h3]
        rfl
      · have h2 : ¬ (i : Int) ≤ (m : Int) := by omega
        rw [decide_eq_false h1, decide_eq_false h2]
        rfl
    by_cases h1 : i ≤ m
    · have e : f m = true := by rw [hf, decide_eq_true h1]
      simp only [e, if_true]
      rw [ih, show i - (m + 1) = 0 by omega, show i - m = 0 by omega]
      rfl
    · have e : f m = false := by rw [hf, decide_eq_false h1]
      simp only [e]
      show x :: _ = _
      rw [ih, show i - m = (i - (m + 1)) + 1 by omega]
      rfl
theorem bounds_from {i n : Nat} (hi : i ≤ n) : sliceBounds (some (i : Int)) none none n = ((i : Int), (n : Int), 1) := by
  simp only [sliceBounds, Option.getD_none]
  have h1 : ¬ ((i : Int) < 0) := by omega
  simp only [h1, if_false, show (1 : Int) > 0 by decide, if_true]
  congr 1
  omega
section
variable {prog : Program} {w : World} {A : Around} {E : Value → Shared → Prop} {s : Shared}
open PySem.P PySem.F in
theorem delItem_tail {l sl : Addr} {items : Array Value} {n : Nat} {vl : Value} {i : Nat} {Q : Unit → Shared → Prop}
    (e : s.heap.get? l = some { cls := .type "list", data := .seq items n }) (hs : s.heap.IsSliceOf sl vl .none .none) (pl : IsPart vl (some (i : Int))) (hi : i ≤ items.size) (hsz : items.size ≤ sizeLine)
    (h : ∀ f : Array Value → Array Value, f items = (items.toList.take i).toArray → Q () { s with heap := s.heap.update l (Obj.mapSeq f) }) :
    wpAny (model prog w) A (delItem (.ref l) (.ref sl)) Q E s := by
  have hl : s.heap.IsList l items := PySem.IsL.isList e
  obtain ⟨os, hos, hcs, hds⟩ := id hs
  have hTs : s.TypeIs (.ref sl) "slice" := ⟨os, hos, hcs⟩
  have hstep : ¬ ((rawPart none == rawInt 0) = true) := Bool.false_ne_true
  unfold delItem
  refine wpAny_holding ?_
  refine wpAny_bind (wpAny_sequenceKey hl.typeIs (by decide) ?_)
  refine wpAny_bind (wpAny_callSpecial?_slot (name := Str.ofString "__delitem__") hl.typeIs PySem.F.slot_list_delitem
    (wpAny_call_entry PySem.F.slot_list_delitem hl.typeIs PySem.F.entry_list_delitem ?_ (PySem.F.args_list_delitem_2 _ _)))
  show wpAny _ _ (Builtin.List.listSubscript? (.ref sl) >>= _) _ _ s
  refine wpAny_bind ?_
  unfold Builtin.List.listSubscript?
  refine wpAny_bind (wpAny_specialOf hTs slice_no_index ?_)
  simp only [Option.isNone_none, if_true]
  refine wpAny_pure ?_
  show wpAny _ _ (typeOf (.ref sl) >>= _) _ _ s
  refine wpAny_bind (wpAny_typeOf hTs ?_)
  first
    | rw [if_neg (by decide)]
    | refine PySem.W.KFB.if_not (by decide) ?_
  rw [listSliceParts_eq]
  refine wpAny_bind (wpAny_bind (wpAny_field hos hds (x := .none) rfl (wpAny_bind (wpAny_listPart .none ?_))))
  rw [if_neg hstep]
  refine wpAny_bind (wpAny_field hos hds (x := vl) rfl (wpAny_bind (wpAny_listPart pl ?_)))
  refine wpAny_bind (wpAny_field hos hds (x := .none) rfl (wpAny_bind (wpAny_listPart .none (wpAny_pure ?_))))
  refine wpAny_bind (m := Builtin.List.listItems (.ref l)) ?_
  unfold Builtin.List.listItems
  refine wpAny_bind (wpAny_seqItems e rfl (wpAny_pure ?_))
  refine wpAny_bind (wpAny_of_eq ((sliceIndices_raw (some (i : Int)) none none items.size (by simp)).trans (congrArg (pure : Int × Int × Int → Sem (Int × Int × Int)) (bounds_from hi))) ?_)
  refine wpAny_bind (wpAny_rule ?_)
  show wpAny _ _ (updateSeq l _ >>= _) _ _ s
  have hf := sel_take _ i items.size (fun k => rfl) items.toList 0 (by simp)
  refine wpAny_bind (wpAny_updateSeq (hz := hsz) (_hz' := ?_) e rfl ?_)
  refine wpAny_bind (wpAny_letGo ?_)
  · exact wpAny_pure ⟨.none, rfl, wpAny_pure (h _ (congrArg List.toArray hf))⟩
  · refine Nat.le_trans (Nat.le_of_eq (congrArg Array.size (congrArg List.toArray hf))) ?_
    rw [List.size_toArray, List.length_take, Array.length_toList]
    omega
end
variable {pins : List (Addr × Obj)}
theorem del_tail {s : Shared} {σ : L2.St} {H : Hp} {l sl : Addr} {xs : List V} {i : Nat} {vl : Value} {Q : Unit → Shared → Prop} (I : Inv X pins σ H s) (hH : H l = some (.lst xs))
    (hs : s.heap.IsSliceOf sl vl .none .none) (pl : IsPart vl (some (i : Int))) (hi : i ≤ xs.length) (h : ∀ s', Inv X pins σ (upd H l (.lst (xs.take i))) s' → Q () s') :
    wpAny (model X.prog X.w) X.A (delItem (.ref l) (.ref sl)) Q X.xe s := by
  obtain ⟨z, its, n, r, hl, e⟩ := I.lstM hH
  refine delItem_tail e hs pl (by rw [List.size_toArray]; omega) (by rw [List.size_toArray]; omega) fun f hf => h _ ?_
  refine I.lset (its' := its.take i) (t' := s.toks) hH e ?_ (r.take i) ?_
  · rw [hf]
  · rw [List.length_take]
    omega
/-- del o[i:] -/
def tDelT (to : TE) (tl : TO) : TS := fun D σ H => to σ H fun x H1 => tl σ H1 fun u H2 => ∃ (l : Addr) (xs : List V) (i : Nat), x = .ref l ∧ u = some (i : Int) ∧ H2 l = some (.lst xs) ∧ i ≤ xs.length ∧ D.nx σ (upd H2 l (.lst (xs.take i)))
theorem ps_delT (ho : PE X o to) (hl : PO X lo tl) : PS X (.Delete [.Subscript o (.Slice lo none none p2) tpos] pos) (tDelT to tl) := by
  refine ⟨fun pins s σ H D I h => ?_⟩
  refine wpAny_Delete (wpAny_deleteEach_cons (wpAny_delete_Subscript (thn (ho.run pins s σ H _ I h) fun u s1 ⟨x, H1, I1, rx, q1⟩ => ?_)))
  refine wpAny_Slice (thn (hl.run pins s1 σ H1 _ I1 q1) fun vl s2 ⟨w, H2, I2, pl, q2⟩ => ?_)
  rw [evalPart_none]
  refine wpAny_pure (wpAny_pure ?_)
  have I4 : Inv X pins σ H2 { s2 with heap := s2.heap.push { cls := .type "slice", data := .fields #[vl, .none, .none] } } := I2.kept (t' := s2.toks) fun b ob q => Heap.get?_push_of_some _ q
  obtain ⟨l, xs, i, rfl, rfl, hA, hi, q⟩ := q2
  cases rx
  exact del_tail I4 hA (Heap.IsSliceOf.new ..) pl hi fun s3 I3 => wpAny_deleteEach_nil ⟨σ, _, I3, q⟩
end
section
variable {K : PySem.W.Frag} {σ σ2 : L2.St} {H H1 H2 : Hp} {Q : VK} {ta tv te te1 : TE} {D : Ends} {tz : TS} {g g1 : TG} {t tt1 : TT} {x v : V}
theorem k_pil {X : Cx} {tg l : Expr} {tl : TE} (e : X.K = K) (h : PE X l tl) : PI X tg l (iList K tl) := e ▸ pi_list h
/-- the inner for of a comprehension -/
def RIn (J : It) (g1 : TG) (tt1 : TT) (te : TE) (vs1 : List Nat) (σ2 : L2.St) (Dl : Addr) (N : Hp → Prop) : Hp → Prop := fun H4 => ∃ W1 : Nat → Nat → Hp → Prop, (∃ m, W1 0 m H4) ∧ ∀ j k H, W1 j k H →
  (J.stop j H ∧ N H) ∨ (J.go j H ∧ ∃ Nx1 : Hp → Prop, (∀ H', Nx1 H' → ∃ k', k' < k ∧ W1 (j + 1) k' H') ∧ ∀ x H', J.yld j H x H' → g1 x (wipe σ2 vs1) H' fun σ3 H5 => wipe σ3 vs1 = wipe σ2 vs1 ∧ tt1 σ3 H5 fun b H6 =>
    if b = true then te σ3 H6 fun y H7 => ∃ acc, H7 Dl = some (.lst acc) ∧ acc.length < sizeLine ∧ Nx1 (upd H7 Dl (.lst (acc ++ [y]))) else Nx1 H6)
def rInL (K : PySem.W.Frag) (g1 : TG) (tt1 : TT) (te : TE) (vs1 : List Nat) (σ2 : L2.St) (Dl : Addr) (N : Hp → Prop) : VK := fun x H4 => ∃ a, x = .ref a ∧ (∃ xs, SqL K H4 a xs) ∧ RIn (Itl K a) g1 tt1 te vs1 σ2 Dl N H4
theorem x_infL {a Dl : Addr} {xs : List V} {vs1 : List Nat} {N : Hp → Prop} (Pv : Nat → Hp → Prop) (hx : SqL K H a xs) (p0 : Pv 0 H) (hl : ∀ i H', Pv i H' → SqL K H' a xs)
    (hs : ∀ i x H', xs[i]? = some x → Pv i H' → g1 x (wipe σ2 vs1) H' fun σ3 H5 => wipe σ3 vs1 = wipe σ2 vs1 ∧ tt1 σ3 H5 fun b H6 => if b = true then te σ3 H6 (fun y H7 => ∃ acc, H7 Dl = some (.lst acc) ∧ acc.length < sizeLine ∧ Pv (i + 1) (upd H7 Dl (.lst (acc ++ [y])))) else Pv (i + 1) H6)
    (hd : ∀ H', Pv xs.length H' → N H') : rInL K g1 tt1 te vs1 σ2 Dl N (.ref a) H := by
  refine ⟨a, rfl, ⟨xs, hx⟩, fun i m H => m = xs.length - i ∧ i ≤ xs.length ∧ Pv i H, ⟨xs.length, by simp, Nat.zero_le _, p0⟩, ?_⟩
  rintro i m H' ⟨rfl, hi, p⟩
  have q := hl i H' p
  by_cases hlt : i < xs.length
  · refine .inr ⟨⟨xs, xs[i], q, by simp [hlt]⟩, Pv (i + 1), fun H' p' => ⟨xs.length - (i + 1), by omega, rfl, hlt, p'⟩, fun x H2 y => ?_⟩
    obtain ⟨e, y⟩ := y
    subst e
    exact hs i x _ (y xs q) p
  · have e : i = xs.length := by omega
    subst e
    exact .inl ⟨⟨xs, q, Nat.le_refl _⟩, hd H' p⟩
/-- the outer for -/
def rLc2L (K : PySem.W.Frag) (g : TG) (te1 : TE) (g1 : TG) (tt1 : TT) (te : TE) (vs vs1 : List Nat) (σ : L2.St) (Q : VK) : VK := fun x H1 => ∃ a, x = .ref a ∧ (∃ xs, SqL K H1 a xs) ∧ ∀ D, H1 D = none → ∃ W : Nat → Nat → Hp → Prop, (∃ m, W 0 m (upd H1 D (.lst []))) ∧ ∀ i m H, W i m H →
  ((Itl K a).stop i H ∧ Q (.ref D) H) ∨ ((Itl K a).go i H ∧ ∃ Nx : Hp → Prop, (∀ H', Nx H' → ∃ m', m' < m ∧ W (i + 1) m' H') ∧ ∀ x H', (Itl K a).yld i H x H' → g x (wipe σ vs) H' fun σ2 H2 => wipe σ2 vs = wipe σ vs ∧
    te1 σ2 H2 (rInL K g1 tt1 te vs1 σ2 D Nx))
theorem x_lc2 {tx : TE} {vs vs1 : List Nat} (q : tx σ H (rLc2L K g te1 g1 tt1 te vs vs1 σ Q)) : tLc2 (iList K tx) g tYes (iList K te1) g1 tt1 te vs vs1 σ H Q := q
theorem x_lc2L {a : Addr} {xs : List V} {vs vs1 : List Nat} (Pv : Addr → Nat → Hp → Prop) (hx : SqL K H a xs) (h0 : ∀ Dl, Fr Dl H → Pv Dl 0 (upd H Dl (.lst []))) (hl : ∀ Dl i H', Fr Dl H → Pv Dl i H' → SqL K H' a xs)
    (hs : ∀ Dl, Fr Dl H → ∀ i x H', xs[i]? = some x → Pv Dl i H' → g x (wipe σ vs) H' fun σ2 H2 => wipe σ2 vs = wipe σ vs ∧ te1 σ2 H2 (rInL K g1 tt1 te vs1 σ2 Dl (Pv Dl (i + 1))))
    (hd : ∀ Dl H', Fr Dl H → Pv Dl xs.length H' → Q (.ref Dl) H') : rLc2L K g te1 g1 tt1 te vs vs1 σ Q (.ref a) H := by
  refine ⟨a, rfl, ⟨xs, hx⟩, fun Dl hD => ⟨fun i m H => m = xs.length - i ∧ i ≤ xs.length ∧ Pv Dl i H, ⟨xs.length, by simp, Nat.zero_le _, h0 Dl ⟨hD⟩⟩, ?_⟩⟩
  rintro i m H' ⟨rfl, hi, p⟩
  have q := hl Dl i H' ⟨hD⟩ p
  by_cases hlt : i < xs.length
  · refine .inr ⟨⟨xs, xs[i], q, by simp [hlt]⟩, Pv Dl (i + 1), fun H' p' => ⟨xs.length - (i + 1), by omega, rfl, hlt, p'⟩, fun x H2 y => ?_⟩
    obtain ⟨e, y⟩ := y
    subst e
    exact hs Dl ⟨hD⟩ i x _ (y xs q) p
  · have e : i = xs.length := by omega
    subst e
    exact .inl ⟨⟨xs, q, Nat.le_refl _⟩, hd Dl H' ⟨hD⟩ p⟩
/-- attributes -/
theorem x_fld {a C dx : Addr} {fs : List (Str × V)} {f : Str} (h : H a = some (.ins C dx fs)) (c : Cls K C) (n : NoAttr K C f) (l : fs.lookup f = some v) (q : Q v H) : (∃ a' C dx fs v, V.ref a = .ref a' ∧ H a' = some (.ins C dx fs) ∧ Cls K C ∧ NoAttr K C f ∧ fs.lookup f = some v ∧ Q v H) :=
  ⟨a, C, dx, fs, v, rfl, h, c, n, l, q⟩
/-- what is read from an instance -/
def rFld (K : PySem.W.Frag) (f : Str) (Q : VK) : VK := fun x H1 => ∃ a C dx fs v, x = .ref a ∧ H1 a = some (.ins C dx fs) ∧ Cls K C ∧ NoAttr K C f ∧ fs.lookup f = some v ∧ Q v H1
theorem x_fld1 {f : Str} (q : ta σ H (rFld K f Q)) : tFld K ta f σ H Q := q
theorem x_rFld {a C dx : Addr} {fs : List (Str × V)} {f : Str} (h : H a = some (.ins C dx fs)) (c : Cls K C) (n : NoAttr K C f) (l : fs.lookup f = some v) (q : Q v H) : rFld K f Q (.ref a) H := ⟨a, C, dx, fs, v, rfl, h, c, n, l, q⟩
def rSetF (K : PySem.W.Frag) (f : Str) (y : V) (R : Hp → Prop) : VK := fun x H2 => ∃ a C dx fs, x = .ref a ∧ H2 a = some (.ins C dx fs) ∧ Cls K C ∧ NoAttr K C f ∧ fs.length < 1000 ∧ R (upd H2 a (.ins C dx (putF f y fs)))
theorem x_sfld {f : Str} (q : tv σ H fun y H1 => ta σ H1 (rSetF K f y (D.nx σ))) : sFld K ta tv f D σ H := q
theorem x_ssfld {f : Str} (q : tv σ H fun y H1 => ta σ H1 (rSetF K f y fun H2 => tz D σ H2)) : tSeq (sFld K ta tv f) tz D σ H := q
theorem x_rSetF {a C dx : Addr} {fs : List (Str × V)} {f : Str} {R : Hp → Prop} (h : H a = some (.ins C dx fs)) (c : Cls K C) (n : NoAttr K C f) (l : fs.length < 1000) (q : R (upd H a (.ins C dx (putF f x fs)))) : rSetF K f x R (.ref a) H := ⟨a, C, dx, fs, rfl, h, c, n, l, q⟩
def rProp (C : Addr) (sp : Sp) (dvs : List V) (E : XK) (Q : VK) : VK := fun x H1 => ∃ a dx fs, x = .ref a ∧ H1 a = some (.ins C dx fs) ∧ sp (.ref a :: dvs) H1 Q E
theorem x_prop {C : Addr} {sp : Sp} {dvs : List V} {E : XK} (q : ta σ H (rProp C sp dvs E Q)) : tProp C sp dvs E ta σ H Q := q
theorem x_rProp {a C dx : Addr} {fs : List (Str × V)} {sp : Sp} {dvs : List V} {E : XK} (h : H a = some (.ins C dx fs)) (q : sp (.ref a :: dvs) H Q E) : rProp C sp dvs E Q (.ref a) H := ⟨a, dx, fs, rfl, h, q⟩
def rMeth (C : Addr) (m : Str) (tr : TA) (sp : Sp) (dvs : List V) (E : XK) (σ : L2.St) (Q : VK) : VK := fun x H1 => ∃ a dx fs, x = .ref a ∧ H1 a = some (.ins C dx fs) ∧ fs.lookup m = none ∧ tr σ H1 fun vs H2 => sp (x :: (vs ++ dvs)) H2 Q E
theorem x_meth {C : Addr} {m : Str} {tr : TA} {sp : Sp} {dvs : List V} {E : XK} (q : ta σ H (rMeth C m tr sp dvs E σ Q)) : tMeth C m sp dvs E ta tr σ H Q := q
theorem x_rMeth {a C dx : Addr} {fs : List (Str × V)} {m : Str} {tr : TA} {sp : Sp} {dvs : List V} {E : XK} (h : H a = some (.ins C dx fs)) (l : fs.lookup m = none) (q : tr σ H fun vs H2 => sp (.ref a :: (vs ++ dvs)) H2 Q E) : rMeth C m tr sp dvs E σ Q (.ref a) H := ⟨a, dx, fs, rfl, h, l, q⟩
def rMake (C : Addr) (sp : Sp) (dvs : List V) (E : XK) (Q : VK) : List V → Hp → Prop := fun vs H1 => ∀ x dx, H1 x = none → H1 dx = none → dx ≠ x → sp (.ref x :: (vs ++ dvs)) (upd (upd H1 dx (.own x)) x (.ins C dx [])) (fun v H2 => v = .non ∧ Q (.ref x) H2) E
theorem x_make {C : Addr} {tr : TA} {sp : Sp} {dvs : List V} {E : XK} (q : tr σ H (rMake C sp dvs E Q)) : tMake C sp dvs E tr σ H Q := q
theorem x_rMake {C : Addr} {sp : Sp} {dvs vs : List V} {E : XK} (k : ∀ x dx H2, Fr x H → Fr dx H → dx ≠ x → Same H H2 → H2 dx = some (.own x) → H2 x = some (.ins C dx []) → sp (.ref x :: (vs ++ dvs)) H2 (fun v H3 => v = .non ∧ Q (.ref x) H3) E) : rMake C sp dvs E Q vs H :=
  fun x dx hx hd hn => k x dx _ ⟨hx⟩ ⟨hd⟩ hn (same_mut (same_fr ⟨hd⟩) ⟨hx⟩) ((upd_ne hn).trans upd_same) upd_same
/-- slices stored and deleted -/
def rDelT (R : Hp → Prop) (l : Addr) (xs : List V) (i : Nat) (u : Option Int) (H2 : Hp) : Prop := u = some (i : Int) ∧ H2 l = some (.lst xs) ∧ i ≤ xs.length ∧ R (upd H2 l (.lst (xs.take i)))
theorem x_delT {to : TE} {tl : TO} (q : to σ H fun x H1 => tl σ H1 fun u H2 => ∃ l xs i, x = .ref l ∧ rDelT (D.nx σ) l xs i u H2) : tDelT to tl D σ H := q
theorem x_sdelT {to : TE} {tl : TO} (q : to σ H fun x H1 => tl σ H1 fun u H2 => ∃ l xs i, x = .ref l ∧ rDelT (fun H3 => tz D σ H3) l xs i u H2) : tSeq (tDelT to tl) tz D σ H := q
theorem x_rDelT {l : Addr} {xs : List V} {i : Nat} {k : Int} {R : Hp → Prop} (e : k = (i : Int)) (h : H l = some (.lst xs)) (hi : i ≤ xs.length) (q : R (upd H l (.lst (xs.take i)))) : ∃ l' xs i', V.ref l = .ref l' ∧ rDelT R l' xs i' (some k) H := ⟨l, xs, i, rfl, by rw [e], h, hi, q⟩
end
end Xk
/-! ## pairs in order, defs with defaults -/
namespace Xk
open PySem PySem.Spec PyProof.Rows L2
/-- the pair (p, q) stands below (r, s) -/
def Bf (p q r s : Int) : Prop := p < r ∨ (p = r ∧ q < s)
instance {p q r s : Int} : Decidable (Bf p q r s) := by unfold Bf; infer_instance
section
variable {X : Cx} {K : PySem.W.Frag} {H : Hp} {Q : VK} {a b : Addr} {p q r s : Int}
theorem pair_in {pins : List (Addr × Obj)} {σ : L2.St} {z : Shared} (I : Inv X pins σ H z) (h : SqT X.K H a [.int p, .int q]) : ∃ t u, z.heap.IsTuple a #[.int p t, .int q u] := by
  obtain ⟨vs, rv, it, _⟩ := I.tuple h
  cases rv with
  | cons x y =>
    cases y with
    | cons y w =>
      cases w
      obtain ⟨t, rfl⟩ := x
      obtain ⟨u, rfl⟩ := y
      exact ⟨t, u, it⟩
theorem eq_ints {A : Around} {z : Shared} (i j : Int) (t u : Tok) : SeqAt.EqAt A z (.int i t) (.int j u) (decide (i = j)) := by
  have h : (i == j) = decide (i = j) := by
    by_cases e : i = j
    · subst e
      simp
    · simp [e]
  rw [← h]
  exact SeqAt.EqAt.int_int _ _ _ _
def rGeP (K : PySem.W.Frag) : R2 := fun x y H Q => ∃ a b p q r s, x = .ref a ∧ y = .ref b ∧ SqT K H a [.int p, .int q] ∧ SqT K H b [.int r, .int s] ∧ Q (.bl (!decide (Bf p q r s))) H
def rLtP (K : PySem.W.Frag) : R2 := fun x y H Q => ∃ a b p q r s, x = .ref a ∧ y = .ref b ∧ SqT K H a [.int p, .int q] ∧ SqT K H b [.int r, .int s] ∧ Q (.bl (decide (Bf p q r s))) H
theorem op_geP (hu : X.A.units < cLine) : OpR X (compareOp .GtE) (rGeP X.K) := by
  intro pins σ0 σ H x y v u Q I rx ry h
  obtain ⟨a, b, p, q, r, s, rfl, rfl, ha, hb, k⟩ := h
  cases rx
  cases ry
  obtain ⟨t1, t2, ia⟩ := pair_in I ha
  obtain ⟨t3, t4, ib⟩ := pair_in I hb
  have R := Ob.RcOp.tuples_ge (e := fun j => if j = 0 then decide (p = r) else decide (q = s)) (r := fun j => if j = 0 then decide (r ≤ p) else decide (s ≤ q)) ia ib hu
    (fun j h1 h2 => match j, h1, h2 with | 0, _, _ => eq_ints _ _ _ _ | 1, _, _ => eq_ints _ _ _ _ | j + 2, z, _ => absurd (show j + 2 < 2 from z) (by omega))
    (fun j h1 h2 _ => match j, h1, h2 with | 0, _, _ => Ob.RcOp.ge_int _ _ _ _ | 1, _, _ => Ob.RcOp.ge_int _ _ _ _ | j + 2, z, _ => absurd (show j + 2 < 2 from z) (by omega))
  refine R X.prog X.w X.xe _ ?_
  have e : Ob.lexAt (fun j => if j = 0 then decide (p = r) else decide (q = s)) (fun j => if j = 0 then decide (r ≤ p) else decide (s ≤ q)) (decide (2 ≥ 2)) 0 2 = !decide (Bf p q r s) := by
    simp only [Ob.lexAt_succ, Ob.lexAt_zero, Bf]
    by_cases h1 : p = r
    · by_cases h2 : q = s
      · simp [h1, h2]
      · by_cases h3 : s ≤ q
        · have h4 : ¬ q < s := by omega
          simp [h1, h2, h3, h4]
        · have h4 : q < s := by omega
          simp [h1, h2, h3, h4]
    · by_cases h3 : r ≤ p
      · have h4 : ¬ p < r := by omega
        simp [h1, h3, h4]
      · have h4 : p < r := by omega
        simp [h1, h3, h4]
  exact ⟨.bl _, H, I, rfl, (congrArg (fun z => Q (.bl z) H) e).mpr k⟩
theorem op_ltP (hu : X.A.units < cLine) : OpR X (compareOp .Lt) (rLtP X.K) := by
  intro pins σ0 σ H x y v u Q I rx ry h
  obtain ⟨a, b, p, q, r, s, rfl, rfl, ha, hb, k⟩ := h
  cases rx
  cases ry
  obtain ⟨t1, t2, ia⟩ := pair_in I ha
  obtain ⟨t3, t4, ib⟩ := pair_in I hb
  have R := Ob.RcOp.tuples_lt (e := fun j => if j = 0 then decide (p = r) else decide (q = s)) (r := fun j => if j = 0 then decide (p < r) else decide (q < s)) ia ib hu
    (fun j h1 h2 => match j, h1, h2 with | 0, _, _ => eq_ints _ _ _ _ | 1, _, _ => eq_ints _ _ _ _ | j + 2, z, _ => absurd (show j + 2 < 2 from z) (by omega))
    (fun j h1 h2 _ => match j, h1, h2 with | 0, _, _ => Ob.RcOp.lt_int _ _ _ _ | 1, _, _ => Ob.RcOp.lt_int _ _ _ _ | j + 2, z, _ => absurd (show j + 2 < 2 from z) (by omega))
  refine R X.prog X.w X.xe _ ?_
  have e : Ob.lexAt (fun j => if j = 0 then decide (p = r) else decide (q = s)) (fun j => if j = 0 then decide (p < r) else decide (q < s)) (decide (2 < 2)) 0 2 = decide (Bf p q r s) := by
    simp only [Ob.lexAt_succ, Ob.lexAt_zero, Bf]
    by_cases h1 : p = r
    · by_cases h2 : q = s
      · simp [h1, h2]
      · by_cases h3 : q < s
        · simp [h1, h2, h3]
        · simp [h1, h2, h3]
    · by_cases h3 : p < r
      · simp [h1, h3]
      · simp [h1, h3]
  exact ⟨.bl _, H, I, rfl, (congrArg (fun z => Q (.bl z) H) e).mpr k⟩
theorem k_geP (hu : X.A.units + 64 < cLine) (e : X.K = K) : OpR X (compareOp .GtE) (rGeP K) := e ▸ op_geP (by omega)
theorem k_ltP (hu : X.A.units + 64 < cLine) (e : X.K = K) : OpR X (compareOp .Lt) (rLtP K) := e ▸ op_ltP (by omega)
theorem x_geP (h : SqT K H a [.int p, .int q]) (h' : SqT K H b [.int r, .int s]) (k : Q (.bl (!decide (Bf p q r s))) H) : rGeP K (.ref a) (.ref b) H Q := ⟨a, b, p, q, r, s, rfl, rfl, h, h', k⟩
theorem x_ltP (h : SqT K H a [.int p, .int q]) (h' : SqT K H b [.int r, .int s]) (k : Q (.bl (decide (Bf p q r s))) H) : rLtP K (.ref a) (.ref b) H Q := ⟨a, b, p, q, r, s, rfl, rfl, h, h', k⟩
def nMax2 : List V → Hp → VK → Prop := fun xs H Q => ∃ i j : Int, xs = [.int i, .int j] ∧ Q (.int (max i j)) H
def nMin2 : List V → Hp → VK → Prop := fun xs H Q => ∃ i j : Int, xs = [.int i, .int j] ∧ Q (.int (min i j)) H
theorem call_nMax2 (hc : X.calm = true) : CallR X (.builtin "max") nMax2 := by
  intro pins s σ H xs us Q I r h
  obtain ⟨i, j, e, q⟩ := h
  refine call_max2 hc pins s σ H xs us Q I r ⟨i, j, e, ?_⟩
  have z : (if j > i then j else i) = max i j := by
    by_cases h : i < j
    · rw [if_pos h]
      omega
    · rw [if_neg h]
      omega
  rw [z]
  exact q
theorem call_nMin2 (hc : X.calm = true) : CallR X (.builtin "min") nMin2 := by
  intro pins s σ H xs us Q I r h
  obtain ⟨i, j, e, q⟩ := h
  refine call_min2 hc pins s σ H xs us Q I r ⟨i, j, e, ?_⟩
  have z : (if j < i then j else i) = min i j := by
    by_cases h : j < i
    · rw [if_pos h]
      omega
    · rw [if_neg h]
      omega
  rw [z]
  exact q
theorem x_nMax2 {i j : Int} (k : Q (.int (max i j)) H) : nMax2 [.int i, .int j] H Q := ⟨i, j, rfl, k⟩
theorem x_nMin2 {i j : Int} (k : Q (.int (min i j)) H) : nMin2 [.int i, .int j] H Q := ⟨i, j, rfl, k⟩
/-- lists and tuples stay, though an own object changes -/
structure Sk (K : PySem.W.Frag) (H H' : Hp) : Prop where
  l : ∀ a xs, SqL K H a xs → SqL K H' a xs
  t : ∀ a xs, SqT K H a xs → SqT K H' a xs
theorem sk_same {H' : Hp} (e : Same H H') : Sk K H H' := ⟨fun _ _ h => sq_same h e, fun _ _ h => st_same h e⟩
theorem Sk.refl (H : Hp) : Sk K H H := ⟨fun _ _ h => h, fun _ _ h => h⟩
theorem Sk.trans {H' H'' : Hp} (e : Sk K H H') (e' : Sk K H' H'') : Sk K H H'' := ⟨fun a xs h => e'.l a xs (e.l a xs h), fun a xs h => e'.t a xs (e.t a xs h)⟩
theorem sk_but {H' : Hp} {C dx : Addr} {fs : List (Str × V)} (hi : H a = some (.ins C dx fs)) (e : But a H H') : Sk K H H' := by
  have key : ∀ b o, H b = some o → (∀ C dx fs, o ≠ .ins C dx fs) → H' b = some o := fun b o hb hn => e b o (fun z => by
    subst z
    exact hn _ _ _ (Option.some.inj (hb.symm.trans hi))) hb
  constructor
  · intro b xs h
    rcases h with (h | ⟨o, h⟩) | h
    · exact .inl (.inl (key _ _ h fun _ _ _ z => by cases z))
    · exact .inl (.inr ⟨o, key _ _ h fun _ _ _ z => by cases z⟩)
    · exact .inr h
  · intro b xs h
    rcases h with (h | ⟨o, h⟩) | h
    · exact .inl (.inl (key _ _ h fun _ _ _ z => by cases z))
    · exact .inl (.inr ⟨o, key _ _ h fun _ _ _ z => by cases z⟩)
    · exact .inr h
mutual
theorem dp_sk {H' : Hp} (e : Sk K H H') : ∀ (d : PyData) (v : V), Dp K H v d → Dp K H' v d
  | .none, _, h => by cases h; exact .non
  | .bool b, _, h => by cases h; exact .bl b
  | .int i, _, h => by cases h; exact .int i
  | .str x, _, h => by cases h; exact .str x
  | .list ds, _, h => by
    cases h with
    | lst hs ha => exact .lst (e.l _ _ hs) (dps_sk e ds _ ha)
  | .tuple ds, _, h => by
    cases h with
    | tup hs ha => exact .tup (e.t _ _ hs) (dps_sk e ds _ ha)
  | .dict _, _, h => by cases h
theorem dps_sk {H' : Hp} (e : Sk K H H') : ∀ (ds : List PyData) (vs : List V), DpAll K H vs ds → DpAll K H' vs ds
  | [], _, h => by cases h; exact .nil
  | d :: ds, _, h => by
    cases h with
    | cons h1 h2 => exact .cons (dp_sk e d _ h1) (dps_sk e ds _ h2)
end
/-- tuples stay -/
structure St (K : PySem.W.Frag) (H H' : Hp) : Prop where
  t : ∀ a xs, SqT K H a xs → SqT K H' a xs
theorem Sk.st {H' : Hp} (e : Sk K H H') : St K H H' := ⟨e.t⟩
theorem St.refl (H : Hp) : St K H H := ⟨fun _ _ h => h⟩
theorem St.trans {H' H'' : Hp} (e : St K H H') (e' : St K H' H'') : St K H H'' := ⟨fun a xs h => e'.t a xs (e.t a xs h)⟩
theorem tt_same {H' : Hp} (e : Same H H') : St K H H' := ⟨fun _ _ h => st_same h e⟩
theorem tt_but {H' : Hp} {o : HO} (hi : H a = some o) (h1 : ∀ xs, o ≠ .tup xs) (h2 : ∀ u xs, o ≠ .frz u (.tup xs)) (e : But a H H') : St K H H' := by
  refine ⟨fun b xs h => ?_⟩
  rcases h with (h | ⟨u, h⟩) | h
  · exact .inl (.inl (e b _ (fun z => by subst z; exact h1 xs (Option.some.inj (hi.symm.trans h))) h))
  · exact .inl (.inr ⟨u, e b _ (fun z => by subst z; exact h2 u xs (Option.some.inj (hi.symm.trans h))) h⟩)
  · exact .inr h
theorem tt_butL {H' : Hp} {ys : List V} (hi : H a = some (.lst ys)) (e : But a H H') : St K H H' := tt_but hi (fun _ z => by cases z) (fun _ _ z => by cases z) e
theorem tt_butO {H' : Hp} {C dx : Addr} {fs : List (Str × V)} (hi : H a = some (.ins C dx fs)) (e : But a H H') : St K H H' := tt_but hi (fun _ z => by cases z) (fun _ _ z => by cases z) e
theorem tt_mutL {o : HO} {ys : List V} (hi : H a = some (.lst ys)) : St K H (upd H a o) := tt_butL hi (but_mut (But.refl _ _))
mutual
/-- none, ints, truth values, texts, and tuples of such -/
def tupD : PyData → Bool
  | .none | .bool _ | .int _ => true
  | .str x => PyData.canLay0 (.str x)
  | .tuple xs => tupDs xs
  | .list _ | .dict _ => false
def tupDs : List PyData → Bool
  | [] => true
  | x :: xs => tupD x && tupDs xs
end
mutual
theorem tupD_lay : ∀ (d : PyData), tupD d = true → d.canLay0 = true
  | .none, _ => rfl
  | .bool _, _ => rfl
  | .int _, _ => rfl
  | .str x, h => h
  | .tuple xs, h => tupDs_lay xs h
  | .list _, h => by cases h
  | .dict _, h => by cases h
theorem tupDs_lay : ∀ (ds : List PyData), tupDs ds = true → PyData.canLayAll0 ds = true
  | [], _ => rfl
  | x :: xs, h => by
    have h2 : (tupD x && tupDs xs) = true := h
    rw [Bool.and_eq_true] at h2
    show (x.canLay0 && PyData.canLayAll0 xs) = true
    rw [tupD_lay x h2.1, tupDs_lay xs h2.2]
    rfl
end
mutual
theorem dp_st {H' : Hp} (e : St K H H') : ∀ (d : PyData) (v : V), tupD d = true → Dp K H v d → Dp K H' v d
  | .none, _, _, h => by cases h; exact .non
  | .bool b, _, _, h => by cases h; exact .bl b
  | .int i, _, _, h => by cases h; exact .int i
  | .str x, _, _, h => by cases h; exact .str x
  | .list ds, _, c, _ => by cases c
  | .tuple ds, _, c, h => by
    cases h with
    | tup hs ha => exact .tup (e.t _ _ hs) (dps_st e ds _ c ha)
  | .dict _, _, _, h => by cases h
theorem dps_st {H' : Hp} (e : St K H H') : ∀ (ds : List PyData) (vs : List V), tupDs ds = true → DpAll K H vs ds → DpAll K H' vs ds
  | [], _, _, h => by cases h; exact .nil
  | d :: ds, _, c, h => by
    have h2 : (tupD d && tupDs ds) = true := c
    rw [Bool.and_eq_true] at h2
    cases h with
    | cons h3 h4 => exact .cons (dp_st e d _ h2.1 h3) (dps_st e ds _ h2.2 h4)
end
/-- packable data at v, not deep -/
def Pk (K : PySem.W.Frag) (H : Hp) (n : Nat) (v : V) (d : PyData) : Prop := Dp K H v d ∧ tupD d = true ∧ d.depth ≤ n
theorem Pk.st {H' : Hp} {n : Nat} {v : V} {d : PyData} (h : Pk K H n v d) (e : St K H H') : Pk K H' n v d := ⟨dp_st e d v h.2.1 h.1, h.2⟩
theorem Pk.sk {H' : Hp} {n : Nat} {v : V} {d : PyData} (h : Pk K H n v d) (e : Sk K H H') : Pk K H' n v d := h.st e.st
theorem Pk.same {H' : Hp} {n : Nat} {v : V} {d : PyData} (h : Pk K H n v d) (e : Same H H') : Pk K H' n v d := h.st (tt_same e)
theorem Pk.mono {n m : Nat} {v : V} {d : PyData} (h : Pk K H n v d) (l : n ≤ m) : Pk K H m v d := ⟨h.1, h.2.1, Nat.le_trans h.2.2 l⟩
theorem Pk.lay {n : Nat} {v : V} {d : PyData} (h : Pk K H n v d) : d.canLay0 = true := tupD_lay d h.2.1
theorem pk_non {n : Nat} : Pk K H n .non .none := ⟨.non, rfl, Nat.zero_le _⟩
theorem pk_int {n : Nat} {i : Int} : Pk K H n (.int i) (.int i) := ⟨.int i, rfl, Nat.zero_le _⟩
theorem pk_str {n : Nat} {x : Str} (h : PyData.canLay0 (.str x) = true := by decide +kernel) : Pk K H n (.str x) (.str x) := ⟨.str x, h, Nat.zero_le _⟩
/-- packable data, one behind another -/
def PkAll (K : PySem.W.Frag) (H : Hp) (n : Nat) (vs : List V) (ds : List PyData) : Prop := DpAll K H vs ds ∧ tupDs ds = true ∧ PyData.depthAll ds ≤ n
theorem PkAll.st {H' : Hp} {n : Nat} {vs : List V} {ds : List PyData} (h : PkAll K H n vs ds) (e : St K H H') : PkAll K H' n vs ds := ⟨dps_st e ds vs h.2.1 h.1, h.2⟩
theorem PkAll.same {H' : Hp} {n : Nat} {vs : List V} {ds : List PyData} (h : PkAll K H n vs ds) (e : Same H H') : PkAll K H' n vs ds := h.st (tt_same e)
theorem PkAll.mono {n m : Nat} {vs : List V} {ds : List PyData} (h : PkAll K H n vs ds) (l : n ≤ m) : PkAll K H m vs ds := ⟨h.1, h.2.1, Nat.le_trans h.2.2 l⟩
theorem PkAll.lay {n : Nat} {vs : List V} {ds : List PyData} (h : PkAll K H n vs ds) : PyData.canLayAll0 ds = true := tupDs_lay ds h.2.1
theorem pk_nil {n : Nat} : PkAll K H n [] [] := ⟨.nil, rfl, Nat.zero_le _⟩
theorem pk_cons {n : Nat} {v : V} {vs : List V} {d : PyData} {ds : List PyData} (h : Pk K H n v d) (h' : PkAll K H n vs ds) : PkAll K H n (v :: vs) (d :: ds) :=
  ⟨.cons h.1 h'.1, by show (tupD d && tupDs ds) = true; rw [h.2.1, h'.2.1]; rfl, by show max _ _ ≤ n; have := h.2.2; have := h'.2.2; omega⟩
theorem PkAll.uncons {n : Nat} {v : V} {vs : List V} {ds : List PyData} (h : PkAll K H n (v :: vs) ds) : ∃ d es, ds = d :: es ∧ Pk K H n v d ∧ PkAll K H n vs es := by
  obtain ⟨h1, h2, h3⟩ := h
  cases h1 with
  | cons a b =>
    rename_i d es
    have h4 : (tupD d && tupDs es) = true := h2
    rw [Bool.and_eq_true] at h4
    have h5 : max d.depth (PyData.depthAll es) ≤ n := h3
    exact ⟨d, es, rfl, ⟨a, h4.1, by omega⟩, ⟨b, h4.2, by omega⟩⟩
theorem pk_snoc {n : Nat} : ∀ {vs : List V} {ds : List PyData} {v : V} {d : PyData}, PkAll K H n vs ds → Pk K H n v d → PkAll K H n (vs ++ [v]) (ds ++ [d])
  | [], ds, v, d, h, h' => by
    obtain ⟨h1, _, _⟩ := h
    cases h1
    exact pk_cons h' pk_nil
  | w :: vs, ds, v, d, h, h' => by
    obtain ⟨e, es, rfl, h1, h2⟩ := h.uncons
    exact pk_cons h1 (pk_snoc h2 h')
theorem PkAll.len {n : Nat} : ∀ {vs : List V} {ds : List PyData}, PkAll K H n vs ds → vs.length = ds.length
  | [], ds, h => by
    obtain ⟨h1, _, _⟩ := h
    cases h1
    rfl
  | w :: vs, ds, h => by
    obtain ⟨e, es, rfl, h1, h2⟩ := h.uncons
    show vs.length + 1 = es.length + 1
    rw [h2.len]
theorem PkAll.take {n : Nat} : ∀ {vs : List V} {ds : List PyData} (k : Nat), PkAll K H n vs ds → PkAll K H n (vs.take k) (ds.take k)
  | vs, ds, 0, h => pk_nil
  | [], ds, k + 1, h => by
    obtain ⟨h1, _, _⟩ := h
    cases h1
    exact pk_nil
  | w :: vs, ds, k + 1, h => by
    obtain ⟨e, es, rfl, h1, h2⟩ := h.uncons
    exact pk_cons h1 (h2.take k)
theorem PkAll.at {n : Nat} : ∀ {vs : List V} {ds : List PyData} {i : Nat} {v : V}, PkAll K H n vs ds → vs[i]? = some v → ∃ d, ds[i]? = some d ∧ Pk K H n v d
  | [], ds, i, v, h, e => by simp at e
  | w :: vs, ds, 0, v, h, e => by
    obtain ⟨d, es, rfl, h1, h2⟩ := h.uncons
    cases (show w = v from Option.some.inj e)
    exact ⟨d, rfl, h1⟩
  | w :: vs, ds, i + 1, v, h, e => by
    obtain ⟨d, es, rfl, h1, h2⟩ := h.uncons
    exact h2.at e
theorem pk_tup {n : Nat} {a : Addr} {vs : List V} {ds : List PyData} (h : SqT K H a vs) (h1 : PkAll K H n vs ds) : Pk K H (n + 1) (.ref a) (.tuple ds) :=
  ⟨.tup h h1.1, h1.2.1, Nat.add_le_add_right h1.2.2 1⟩
theorem pk_tup1 {n : Nat} {a : Addr} {v : V} {d : PyData} (h : SqT K H a [v]) (h1 : Pk K H n v d) : Pk K H (n + 1) (.ref a) (.tuple [d]) := pk_tup h (pk_cons h1 pk_nil)
theorem pk_tup2 {n : Nat} {a : Addr} {v w : V} {d e : PyData} (h : SqT K H a [v, w]) (h1 : Pk K H n v d) (h2 : Pk K H n w e) : Pk K H (n + 1) (.ref a) (.tuple [d, e]) := pk_tup h (pk_cons h1 (pk_cons h2 pk_nil))
theorem pk_tup3 {n : Nat} {a : Addr} {u v w : V} {c d e : PyData} (h : SqT K H a [u, v, w]) (h0 : Pk K H n u c) (h1 : Pk K H n v d) (h2 : Pk K H n w e) : Pk K H (n + 1) (.ref a) (.tuple [c, d, e]) := pk_tup h (pk_cons h0 (pk_cons h1 (pk_cons h2 pk_nil)))
/-- equal data, one way or the other -/
theorem x_nePk {n m : Nat} {x y : V} {d : PyData} (h : Pk K H n x d) (h' : Pk K H m y d) (q : Q (.bl false) H) (l : n ≤ 64 := by decide) : rNeD K x y H Q := x_neSame h.1 h'.1 h.lay (Nat.le_trans h.2.2 l) q
theorem x_eqPk {n m : Nat} {x y : V} {d : PyData} (h : Pk K H n x d) (h' : Pk K H m y d) (q : Q (.bl true) H) (l : n ≤ 64 := by decide) : rEqD K x y H Q := x_eqSame h.1 h'.1 h.lay (Nat.le_trans h.2.2 l) q
theorem lay_list {ds : List PyData} (h : PyData.canLayAll0 ds = true) : PyData.canLay0 (.list ds) = true := h
theorem x_nePkL {n m : Nat} {p q' : Addr} {xs ys : List V} {ds : List PyData} (hp : SqL K H p xs) (hq : SqL K H q' ys) (h : PkAll K H n xs ds) (h' : PkAll K H m ys ds) (q : Q (.bl false) H) (l : n ≤ 63 := by decide) : rNeD K (.ref p) (.ref q') H Q :=
  x_neSame (.lst hp h.1) (.lst hq h'.1) (lay_list h.lay) (Nat.add_le_add_right (Nat.le_trans h.2.2 l) 1) q
theorem x_eqPkL {n m : Nat} {p q' : Addr} {xs ys : List V} {ds : List PyData} (hp : SqL K H p xs) (hq : SqL K H q' ys) (h : PkAll K H n xs ds) (h' : PkAll K H m ys ds) (q : Q (.bl true) H) (l : n ≤ 63 := by decide) : rEqD K (.ref p) (.ref q') H Q :=
  x_eqSame (.lst hp h.1) (.lst hq h'.1) (lay_list h.lay) (Nat.add_le_add_right (Nat.le_trans h.2.2 l) 1) q
theorem u65 {k : Nat} {A : Around} (r : Room k A) : A.units + 65 < cLine := by
  have := r.un
  omega
theorem k_inD (hu : X.A.units + 65 < cLine) (e : X.K = K) : OpR X (compareOp .In) (rInD K) := e ▸ op_inD hu
theorem k_ninD (hu : X.A.units + 65 < cLine) (e : X.K = K) : OpR X (compareOp .NotIn) (rNotInD K) := e ▸ op_notInD hu
/-- whether d is among ds -/
def inD (d : PyData) (ds : List PyData) : Bool := ds.any fun z => PyData.eqv z d
theorem x_inPk {n m : Nat} {x : V} {d : PyData} {xs : List V} {ds : List PyData} (h : Pk K H n x d) (hp : SqL K H a xs) (h' : PkAll K H m xs ds) (k : Q (.bl (inD d ds)) H) (l : n ≤ 64 := by decide) (l' : m ≤ 63 := by decide) : rInD K x (.ref a) H Q :=
  ⟨d, ds, h.1, .lst hp h'.1, shaped_of h.lay (Nat.le_trans h.2.2 l), shaped_of (lay_list h'.lay) (Nat.add_le_add_right (Nat.le_trans h'.2.2 l') 1), k⟩
theorem x_ninPk {n m : Nat} {x : V} {d : PyData} {xs : List V} {ds : List PyData} (h : Pk K H n x d) (hp : SqL K H a xs) (h' : PkAll K H m xs ds) (k : Q (.bl (!inD d ds)) H) (l : n ≤ 64 := by decide) (l' : m ≤ 63 := by decide) : rNotInD K x (.ref a) H Q :=
  ⟨d, ds, h.1, .lst hp h'.1, shaped_of h.lay (Nat.le_trans h.2.2 l), shaped_of (lay_list h'.lay) (Nat.add_le_add_right (Nat.le_trans h'.2.2 l') 1), k⟩
theorem x_inD {x : V} {d : PyData} {ds : List PyData} (h : Dp K H x d) (h' : Dp K H (.ref a) (.list ds)) (c : d.canLay0 = true) (n : d.depth ≤ 64) (c' : PyData.canLay0 (.list ds) = true) (n' : PyData.depth (.list ds) ≤ 64) (k : Q (.bl (inD d ds)) H) : rInD K x (.ref a) H Q :=
  ⟨d, ds, h, h', shaped_of c n, shaped_of c' n', k⟩
theorem x_ninD {x : V} {d : PyData} {ds : List PyData} (h : Dp K H x d) (h' : Dp K H (.ref a) (.list ds)) (c : d.canLay0 = true) (n : d.depth ≤ 64) (c' : PyData.canLay0 (.list ds) = true) (n' : PyData.depth (.list ds) ≤ 64) (k : Q (.bl (!inD d ds)) H) : rNotInD K x (.ref a) H Q :=
  ⟨d, ds, h, h', shaped_of c n, shaped_of c' n', k⟩
/-- a sign some times over -/
def repS (x : Str) (n : Int) : Str := if n < 1 then Str.empty else if (n == 1 || x.length == 0) = true then x else ⟨(List.replicate n.toNat x.cps).foldl (· ++ ·) #[]⟩
def nRepS : R2 := fun x y H Q => ∃ (z : Str) (n : Int), x = .str z ∧ y = .int n ∧ 0 ≤ n ∧ n ≤ 1000 ∧ z.length ≤ 100 ∧ Q (.str (repS z n)) H
theorem op_nRepS : OpR X (binaryOp .Mult) nRepS := by
  intro pins s σ H x y v u Q I rx ry h
  obtain ⟨z, n, rfl, rfl, h0, h1, h2, q⟩ := h
  obtain ⟨t, rfl⟩ := rx
  obtain ⟨t', rfl⟩ := ry
  have hlen : z.length * n.toNat ≤ 100000 := by
    have h3 : n.toNat ≤ 1000 := by omega
    calc z.length * n.toNat ≤ 100 * n.toNat := Nat.mul_le_mul_right _ h2
      _ ≤ 100000 := by omega
  refine PySem.P.mul_str ?_ ?_ ?_ ?_
  · rw [decide_eq_false (by omega), decide_eq_false (by omega)]
    rfl
  · intro h3 _ h4
    have h5 : (1000 : Int) ≤ (2 ^ 63 - 1) / n := by
      rw [Int.le_ediv_iff_mul_le (by omega)]
      omega
    omega
  · intro _ _
    exact decide_eq_false (by unfold sizeLine; omega)
  · unfold repS at q
    by_cases h3 : n < 1
    · rw [if_pos h3] at q ⊢
      exact ⟨by decide, .str Str.empty, H, I.tok _, ⟨_, rfl⟩, q⟩
    · rw [if_neg h3] at q ⊢
      by_cases h4 : (n == 1 || z.length == 0) = true
      · rw [if_pos h4] at q ⊢
        exact ⟨.str z, H, I, ⟨_, rfl⟩, q⟩
      · rw [if_neg h4] at q ⊢
        exact ⟨PySem.fits_reps (decide_eq_false (by unfold sizeLine; omega)), .str _, H, I.tok _, ⟨_, rfl⟩, q⟩
theorem x_nRepS {z : Str} {n : Int} (h : 0 ≤ n ∧ n ≤ 1000) (hz : z.length ≤ 100) (k : Q (.str (repS z n)) H) : nRepS (.str z) (.int n) H Q := ⟨z, n, rfl, rfl, h.1, h.2, hz, k⟩
/-- a range from its end -/
def rRevR (i : Nat) (tu : TS) (D : Ends) (σ : L2.St) : Int → Int → Hp → Prop := fun lo hi H => -(2 ^ 62) ≤ lo ∧ lo < 2 ^ 62 ∧ -(2 ^ 62) ≤ hi ∧ hi < 2 ^ 62 ∧ ∃ W : Nat → Nat → L2.St → Hp → Prop, (∃ m, W 0 m σ H) ∧ ∀ j m σ H, W j m σ H →
  ((Itc (lo + (((hi - lo).toNat : Nat) : Int) - 1) (-1) (hi - lo).toNat).stop j H ∧ D.nx σ H) ∨ ((Itc (lo + (((hi - lo).toNat : Nat) : Int) - 1) (-1) (hi - lo).toNat).go j H ∧ ∃ N : L2.St → Hp → Prop, (∀ σ' H', N σ' H' → ∃ m', m' < m ∧ W (j + 1) m' σ' H') ∧
    ∀ x H', (Itc (lo + (((hi - lo).toNat : Nat) : Int) - 1) (-1) (hi - lo).toNat).yld j H x H' → gName i x σ H' fun σ2 H2 => tu { D with nx := N, ct := N, bk := D.nx } σ2 H2)
theorem x_forRev1 {i : Nat} {tu : TS} {D : Ends} {σ : L2.St} {tr : L2.St → Hp → (Int → Int → Hp → Prop) → Prop} (q : tr σ H (rRevR i tu D σ)) : tFor (iRevR tr) (gName i) tu D σ H := q
theorem x_forRev {i : Nat} {tu : TS} {D : Ends} {σ : L2.St} {m : Int} (Pv : Nat → L2.St → Hp → Prop) (hm : 0 ≤ m ∧ m ≤ 100000) (p0 : Pv 0 σ H)
    (ps : ∀ (j : Nat) σ' H', (j : Int) < m → Pv j σ' H' → tu { D with nx := Pv (j + 1), ct := Pv (j + 1), bk := D.nx } (σ'.set i (some (.int (m - 1 - j)))) H') (pd : ∀ σ' H', Pv m.toNat σ' H' → D.nx σ' H') : rRevR i tu D σ 0 m H := by
  have e : (m - 0).toNat = m.toNat := by omega
  refine ⟨by omega, by omega, by omega, by omega, ?_⟩
  rw [e]
  refine for_rangeC (n := m.toNat) Pv p0 (fun j σ' H' hj p => ?_) pd
  have e0 : (0 : Int) + ((m.toNat : Nat) : Int) - 1 + (j : Nat) * (-1) = m - 1 - j := by omega
  show tu { D with nx := Pv (j + 1), ct := Pv (j + 1), bk := D.nx } (σ'.set i (some (.int ((0 : Int) + ((m.toNat : Nat) : Int) - 1 + (j : Nat) * (-1))))) H'
  rw [e0]
  exact ps j σ' H' (by omega) p
theorem cut_take {xs : List V} {k : Int} {n : Nat} (e : k = (n : Int)) : cutV xs none (some k) = xs.take n := by
  subst e
  unfold cutV
  rw [HT.sIx_nat, HT.sIx_none, List.drop_zero, Nat.sub_zero]
  by_cases h : n ≤ xs.length
  · rw [show min n xs.length = n by omega]
  · rw [show min n xs.length = xs.length by omega, List.take_length, List.take_of_length_le (by omega)]
theorem cut_drop {xs : List V} {k : Int} {n : Nat} (e : k = (n : Int)) : cutV xs (some k) none = xs.drop n := by
  subst e
  unfold cutV
  rw [HT.sIx_nat, HT.sIx_none]
  by_cases h : n ≤ xs.length
  · rw [show min n xs.length = n by omega, List.take_of_length_le (by rw [List.length_drop]; omega)]
  · rw [show min n xs.length = xs.length by omega, List.drop_length, List.drop_of_length_le (by omega)]
    simp
/-- range(lo, hi) -/
def rRange2 (n : Nat) (tu : TS) (D : Ends) (σ : L2.St) : List V → Hp → Prop := fun vs H => ∃ i j : Int, vs = [.int i, .int j] ∧ (-(2 ^ 62) ≤ i ∧ i < 2 ^ 62 ∧ -(2 ^ 62) ≤ j ∧ j < 2 ^ 62) ∧ ∃ W : Nat → Nat → L2.St → Hp → Prop, (∃ m, W 0 m σ H) ∧ ∀ k m σ H, W k m σ H →
  ((Itr i (j - i).toNat).stop k H ∧ D.nx σ H) ∨ ((Itr i (j - i).toNat).go k H ∧ ∃ N : L2.St → Hp → Prop, (∀ σ' H', N σ' H' → ∃ m', m' < m ∧ W (k + 1) m' σ' H') ∧ ∀ x H', (Itr i (j - i).toNat).yld k H x H' → gName n x σ H' fun σ2 H2 => tu { D with nx := N, ct := N, bk := D.nx } σ2 H2)
theorem x_forR2 {n : Nat} {tu : TS} {D : Ends} {σ : L2.St} {tr : TA} (q : tr σ H (rRange2 n tu D σ)) : tFor (iRng2 tr) (gName n) tu D σ H := q
theorem x_range2 {n : Nat} {tu : TS} {D : Ends} {σ : L2.St} {lo hi : Int} (Pv : Nat → L2.St → Hp → Prop) (hm : -1000000 ≤ lo ∧ lo ≤ 1000000 ∧ -1000000 ≤ hi ∧ hi ≤ 1000000) (p0 : Pv 0 σ H)
    (ps : ∀ (k : Nat) σ' H', lo + (k : Int) < hi → Pv k σ' H' → tu { D with nx := Pv (k + 1), ct := Pv (k + 1), bk := D.nx } (σ'.set n (some (.int (lo + (k : Int))))) H') (pd : ∀ σ' H', Pv (hi - lo).toNat σ' H' → D.nx σ' H') : rRange2 n tu D σ [.int lo, .int hi] H :=
  ⟨lo, hi, rfl, ⟨by omega, by omega, by omega, by omega⟩, for_range (lo := lo) (n := (hi - lo).toNat) Pv p0 (fun k σ' H' hk p => ps k σ' H' (by omega) p) pd⟩
theorem pk_ints {n : Nat} : ∀ ns : List Int, PkAll K H n (ns.map V.int) (ns.map PyData.int)
  | [] => pk_nil
  | m :: r => pk_cons pk_int (pk_ints r)
/-! dicts whose keys are texts -/
def rDG (x : V) (Q : VK) : VK := fun y H2 => ∃ (a : Addr) (v : V), x = .ref a ∧ DGet H2 a y (some v) ∧ Q v H2
theorem x_dget {td ty : TE} {σ : L2.St} (q : td σ H fun x H1 => ty σ H1 (rDG x Q)) : tDGet td ty σ H Q := q
theorem x_rDG {kvs : List (Key × V)} {k : Str} {v : V} (h : H a = some (.dK kvs)) (e : valV kvs (Sum.inr k) = some v) (q : Q v H) : rDG (.ref a) Q (.str k) H := ⟨a, v, rfl, by rw [← e]; exact (DGet.k (k := Sum.inr k) h : DGet H a (kV (Sum.inr k)) (valV kvs (Sum.inr k))), q⟩
def rDP (x v : V) (R : Hp → Prop) : VK := fun y H3 => ∃ (a : Addr) (H4 : Hp), x = .ref a ∧ DPut H3 a y v H4 ∧ R H4
theorem x_sdput {td ty tv : TE} {D : Ends} {σ : L2.St} {tz : TS} (q : tv σ H fun v H1 => td σ H1 fun x H2 => ty σ H2 (rDP x v fun H4 => tz D σ H4)) : tSeq (sDPut td ty tv) tz D σ H := q
theorem x_dput {td ty tv : TE} {D : Ends} {σ : L2.St} (q : tv σ H fun v H1 => td σ H1 fun x H2 => ty σ H2 (rDP x v fun H4 => D.nx σ H4)) : sDPut td ty tv D σ H := q
theorem x_rDP {kvs kvs' : List (Key × V)} {k : Str} {v : V} {R : Hp → Prop} (h : H a = some (.dK kvs)) (hl : kvs.length < 1000) (e : putK kvs (Sum.inr k) v = kvs') (q : R (upd H a (.dK kvs'))) : rDP (.ref a) v R (.str k) H :=
  ⟨a, upd H a (.dK (putK kvs (Sum.inr k) v)), rfl, (DPut.k (k := Sum.inr k) h (small1000 (Nat.le_of_lt hl)) : DPut H a (kV (Sum.inr k)) v _), by rw [e]; exact q⟩
theorem x_disp {trs : List (TE × TE)} {σ : L2.St} (q : ∀ p, Fr p H → tPairs trs σ (upd H p (.dK [])) fun ps H2 => H2 p = some (.dK []) ∧ ∃ kvs : List (Key × V), ps = kvs.map (fun kv => (kV kv.1, kv.2)) ∧ kvs.length ≤ 15 ∧ Q (.ref p) (upd H2 p (.dK (mergeK [] kvs)))) : tDisp trs σ H Q := fun p hp => q p ⟨hp⟩
theorem x_pcons {tk tv : TE} {r : List (TE × TE)} {σ : L2.St} {R : List (V × V) → Hp → Prop} (q : tk σ H fun x H1 => tv σ H1 fun y H2 => tPairs r σ H2 fun ps H3 => R ((x, y) :: ps) H3) : tPairs ((tk, tv) :: r) σ H R := q
theorem x_pnil {σ : L2.St} {R : List (V × V) → Hp → Prop} (q : R [] H) : tPairs [] σ H R := q
/-! lists of ints sorted where they stand -/
theorem x_rSortI {ns : List Int} (h : H a = some (.lst (ns.map V.int))) (k : ∀ ns' : List Int, ns'.Perm ns → ns'.Pairwise (· ≤ ·) → Q .non (upd H a (.lst (ns'.map V.int)))) : rSortI (.ref a) [] H Q := ⟨a, ns, rfl, rfl, h, k⟩
theorem srt_eq {xs ys : List Int} (p : xs.Perm ys) (h1 : xs.Pairwise (· ≤ ·)) (h2 : ys.Pairwise (· ≤ ·)) : xs = ys := p.eq_of_pairwise (fun x y _ _ h h' => Int.le_antisymm h h') h1 h2
/-! texts -/
def nInS : R2 := fun x y H Q => ∃ (c : Nat) (z : Str), x = .str ⟨#[c]⟩ ∧ y = .str z ∧ Q (.bl (decide (c ∈ z.cps.toList))) H
def nNotInS : R2 := fun x y H Q => ∃ (c : Nat) (z : Str), x = .str ⟨#[c]⟩ ∧ y = .str z ∧ Q (.bl (!decide (c ∈ z.cps.toList))) H
theorem op_nInS : OpR X (compareOp .In) nInS := op_in_sign
theorem op_nNotInS : OpR X (compareOp .NotIn) nNotInS := op_notIn_sign
theorem x_inS {c : Nat} {z : Str} (q : Q (.bl (decide (c ∈ z.cps.toList))) H) : nInS (.str ⟨#[c]⟩) (.str z) H Q := ⟨c, z, rfl, rfl, q⟩
theorem x_notInS {c : Nat} {z : Str} (q : Q (.bl (!decide (c ∈ z.cps.toList))) H) : nNotInS (.str ⟨#[c]⟩) (.str z) H Q := ⟨c, z, rfl, rfl, q⟩
def nAddS : R2 := fun x y H Q => ∃ i j : Str, x = .str i ∧ y = .str j ∧ i.length + j.length ≤ sizeLine ∧ Q (.str (i ++ j)) H
theorem op_nAddS : OpR X (binaryOp .Add) nAddS := op_add_str
theorem x_nAddS {i j : Str} (h : i.length + j.length ≤ 100000) (q : Q (.str (i ++ j)) H) : nAddS (.str i) (.str j) H Q := ⟨i, j, rfl, rfl, size_ok h, q⟩
def nLenS : List V → Hp → VK → Prop := fun xs H Q => ∃ z : Str, xs = [.str z] ∧ z.length ≤ sizeLine ∧ Q (.int z.length) H
theorem call_nLenS : CallR X (.builtin "len") nLenS := call_len_str
theorem x_nLenS {z : Str} (h : z.length ≤ 100000) (q : Q (.int z.length) H) : nLenS [.str z] H Q := ⟨z, rfl, size_ok h, q⟩
theorem x_slS {z : Str} {lo hi : Option Int} (h : z.length ≤ 100000) (q : Q (.str (cutS z lo hi)) H) : rSlS (.str z) lo hi H Q := ⟨z, rfl, size_ok h, q⟩
def rLcS (g : TG) (tt : TT) (te : TE) (vs : List Nat) (σ : L2.St) (Q : VK) : VK := fun x H1 => ∃ z, x = .str z ∧ RLc (Its z) g tt te vs σ Q H1
theorem x_lcS1 {g : TG} {t : TT} {te tx : TE} {vs : List Nat} {σ : L2.St} (q : tx σ H (rLcS g t te vs σ Q)) : tLc (iStr tx) g t te vs σ H Q := q
theorem x_lcS {g : TG} {t : TT} {te : TE} {vs : List Nat} {σ : L2.St} {z : Str} (Pv : Addr → Nat → Hp → Prop) (h0 : ∀ Dl, Fr Dl H → Pv Dl 0 (upd H Dl (.lst [])))
    (hs : ∀ Dl, Fr Dl H → ∀ i c H', z.cps.toList[i]? = some c → Pv Dl i H' → g (.str ⟨#[c]⟩) (wipe σ vs) H' fun σ2 H2 => wipe σ2 vs = wipe σ vs ∧ t σ2 H2 fun b H3 =>
      if b = true then te σ2 H3 fun y H4 => ∃ acc, H4 Dl = some (.lst acc) ∧ acc.length < sizeLine ∧ Pv Dl (i + 1) (upd H4 Dl (.lst (acc ++ [y]))) else Pv Dl (i + 1) H3)
    (hd : ∀ Dl H', Fr Dl H → Pv Dl z.length H' → Q (.ref Dl) H') : rLcS g t te vs σ Q (.str z) H := ⟨z, rfl, fun Dl hD =>
  lc_it walk_str (Pv Dl) (h0 Dl ⟨hD⟩) (fun _ _ _ _ => trivial) (fun i x H1 H' _ p y => by
    obtain ⟨rfl, c, hc, rfl⟩ := y
    exact hs Dl ⟨hD⟩ i c _ (by rw [← hc]; simp) p) (fun H' p => hd Dl H' ⟨hD⟩ p)⟩
/-! ### texts gone through, keys of a dict -/
def rForS (g : TG) (tu : TS) (D : Ends) (σ : L2.St) : VK := fun x H => ∃ z, x = .str z ∧ ∃ W : Nat → Nat → L2.St → Hp → Prop, (∃ m, W 0 m σ H) ∧ ∀ i m σ H, W i m σ H →
  ((Its z).stop i H ∧ D.nx σ H) ∨ ((Its z).go i H ∧ ∃ N : L2.St → Hp → Prop, (∀ σ' H', N σ' H' → ∃ m', m' < m ∧ W (i + 1) m' σ' H') ∧ ∀ x H', (Its z).yld i H x H' → g x σ H' fun σ2 H2 => tu { D with nx := N, ct := N, bk := D.nx } σ2 H2)
theorem x_forS1 {g : TG} {tu : TS} {D : Ends} {σ : L2.St} {te : TE} (q : te σ H (rForS g tu D σ)) : tFor (iStr te) g tu D σ H := q
theorem x_forS {g : TG} {tu : TS} {D : Ends} {σ : L2.St} {z : Str} (Pv : Nat → L2.St → Hp → Prop) (p0 : Pv 0 σ H)
    (ps : ∀ i c σ' H', z.cps.toList[i]? = some c → Pv i σ' H' → g (.str ⟨#[c]⟩) σ' H' fun σ2 H2 => tu { D with nx := Pv (i + 1), ct := Pv (i + 1), bk := D.nx } σ2 H2) (pd : ∀ σ' H', Pv z.length σ' H' → D.nx σ' H') : rForS g tu D σ (.str z) H :=
  ⟨z, rfl, for_it walk_str Pv p0 (fun _ _ _ _ _ => trivial) (fun i x σ H H' _ p y => by
    obtain ⟨rfl, c, hc, rfl⟩ := y
    exact ps i c _ _ (by rw [← hc]; simp) p) pd⟩
def nOrd : List V → Hp → VK → Prop := fun xs H Q => ∃ x : Str, xs = [.str x] ∧ x.length = 1 ∧ Q (.int (x.cps.getD 0 0 : Nat)) H
theorem k_ord {X : Cx} : CallR X (.builtin "ord") nOrd := call_ord
theorem x_ord {c : Nat} (q : Q (.int (c : Nat)) H) : nOrd [.str ⟨#[c]⟩] H Q := ⟨_, rfl, rfl, q⟩
/-- a list comprehension over a dict's keys -/
theorem x_lcK {g : TG} {t : TT} {te : TE} {vs : List Nat} {σ : L2.St} {a : Nat} {r : Addr} {kvs : List (Key × V)} (ea : σ[a]? = some (some (.ref r))) (hr : H r = some (.dK kvs))
    (q : ∀ od H0, H0 = upd H r (.frz od (.dK kvs)) → ∃ Pv : Addr → Nat → Hp → Prop, (∀ Dl, Fr Dl H0 → Pv Dl 0 (upd H0 Dl (.lst []))) ∧ (∀ Dl i H', Fr Dl H0 → Pv Dl i H' → H' r = some (.frz od (.dK kvs))) ∧
      (∀ Dl, Fr Dl H0 → ∀ i k v H', kvs[i]? = some (k, v) → Pv Dl i H' → g (kV k) (wipe σ vs) H' fun σ2 H2 => wipe σ2 vs = wipe σ vs ∧ t σ2 H2 fun b H3 =>
        if b = true then te σ2 H3 fun y H4 => ∃ acc, H4 Dl = some (.lst acc) ∧ acc.length < sizeLine ∧ Pv Dl (i + 1) (upd H4 Dl (.lst (acc ++ [y]))) else Pv Dl (i + 1) H3) ∧
      ∀ Dl H', Fr Dl H0 → Pv Dl kvs.length H' → Q (.ref Dl) (upd H' r (.dK kvs))) : tLockE (tLc (iKeys (tVar a)) g t te vs) σ H Q := by
  refine ⟨r, _, hr, trivial, fun od => ?_⟩
  obtain ⟨Pv, h0, h1, h2, h3⟩ := q od _ rfl
  refine ⟨.ref r, ea, r, od, rfl, .inl ⟨kvs, upd_same, fun Dl hD => ?_⟩⟩
  refine lc_it (walk_keys (o := od)) (Pv Dl) (h0 Dl ⟨hD⟩) (fun i H' _ p => h1 Dl i H' ⟨hD⟩ p) (fun i x H1 H' _ p y => ?_) fun H' p => ⟨h1 Dl _ H' ⟨hD⟩ p, h3 Dl H' ⟨hD⟩ p⟩
  obtain ⟨rfl, k, v, e, rfl⟩ := y
  exact h2 Dl ⟨hD⟩ i k v _ e p
/-- all signs of a text are so -/
def AllC (p : Nat → Bool) (s : Str) : Bool := s.cps.toList.all p
theorem toList_add (i j : Str) : (i ++ j).cps.toList = i.cps.toList ++ j.cps.toList := by
  show (i.cps ++ j.cps).toList = _
  simp
theorem len_add (i j : Str) : (i ++ j).length = i.length + j.length := by
  show (i.cps ++ j.cps).size = i.cps.size + j.cps.size
  simp
theorem allC_add {p : Nat → Bool} {i j : Str} (h : AllC p i = true) (h' : AllC p j = true) : AllC p (i ++ j) = true := by
  unfold AllC at *
  rw [toList_add, List.all_append, h, h']
  rfl
theorem allC_add_inv {p : Nat → Bool} {i j : Str} (h : AllC p (i ++ j) = true) : AllC p i = true ∧ AllC p j = true := by
  unfold AllC at *
  rw [toList_add, List.all_append, Bool.and_eq_true] at h
  exact h
theorem allC_cut {p : Nat → Bool} {z : Str} {lo hi : Option Int} (h : AllC p z = true) : AllC p (cutS z lo hi) = true := by
  unfold AllC at *
  rw [List.all_eq_true] at h ⊢
  intro c hc
  refine h c ?_
  unfold cutS at hc
  simp only at hc
  exact List.mem_of_mem_drop (List.mem_of_mem_take hc)
theorem len_cut (z : Str) (lo hi : Option Int) : (cutS z lo hi).length ≤ z.length := by
  show (cutS z lo hi).cps.size ≤ z.cps.size
  unfold cutS
  simp only [List.size_toArray, List.length_take, List.length_drop, Array.length_toList]
  have : z.length = z.cps.size := rfl
  omega
theorem allC_at {p : Nat → Bool} {z : Str} {i : Nat} {c : Nat} (h : AllC p z = true) (e : z.cps.toList[i]? = some c) : AllC p ⟨#[c]⟩ = true := by
  unfold AllC at *
  rw [List.all_eq_true] at h
  have := h c (List.mem_of_getElem? e)
  simp [this]
theorem allC_mono {p q : Nat → Bool} {s : Str} (h : AllC p s = true) (f : ∀ c, p c = true → q c = true) : AllC q s = true := by
  unfold AllC at *
  rw [List.all_eq_true] at h ⊢
  exact fun c hc => f c (h c hc)
def okC : Nat → Bool := fun c => decide (c < 0x110000)
theorem lay_str {s : Str} (h : AllC okC s = true) : PyData.canLay0 (.str s) = true := by
  have h2 : s.cps.all (fun c => decide (c < 0x110000)) = true := by
    rw [← Array.all_toList]
    exact h
  simpa only [PyData.canLay0, PyData.strOk] using h2
/-! tuples some times over -/
theorem tup_times1 (l : Addr) (items : Array Value) (n : Nat) (dd : Option Addr) (sl : Array (Option Value)) (u : Tok) :
    Meets (Builtin.«tuple.__mul__» ⟨[.ref l, .int 1 u], []⟩) (fun _ R s => s.heap.get? l = some { cls := .type "tuple", dict := dd, data := .seq items n, slots := sl } ∧ R (.ok (.ret (.ref l))) s) :=
  .of_wp fun prog w A R s h => by
    obtain ⟨hp, g, d, tk, os⟩ := s
    obtain ⟨hl, h⟩ := h
    have f1 := AutoSeq1.idx_int
    wp_walk using wpAny_loadPart' hl
    exact ⟨_, rfl, h⟩
def nRepT (K : PySem.W.Frag) : R2 := fun x y H Q => ∃ (l : Addr) (k : Int) (xs : List V), x = .ref l ∧ y = .int k ∧ SqT K H l xs ∧ xs ≠ [] ∧ xs.length ≤ 1000 ∧ ((k = 1 ∧ Q (.ref l) H) ∨ (2 ≤ k ∧ k ≤ 1000 ∧ ∀ p, H p = none → Q (.ref p) (upd H p (.tup (List.replicate k.toNat xs).flatten))))
theorem op_nRepT : OpR X (binaryOp .Mult) (nRepT X.K) := by
  intro pins s σ H x y v u Q I rx ry h
  obtain ⟨l, k, xs, rfl, rfl, hT, hne, hz, q⟩ := h
  rcases q with ⟨rfl, q⟩ | ⟨h1, h2, q⟩
  · cases rx
    obtain ⟨t, rfl⟩ := ry
    obtain ⟨its, r, ⟨⟨cls, dd, data, sl⟩, ho, hc, n, hd⟩, hs⟩ := I.tuple hT
    simp only at hc hd
    subst hc hd
    exact wpAny_binaryOp_repeat_ref (T := "tuple") (U := "int") (by decide) ⟨_, ho, rfl⟩ (fun s' => typeIs_int s' 1 t) noFill_tuple_mul PySem.F.fills_int_mul PySem.F.slot_int_rmul repeat_tuple PySem.F.slot_int_index.lookup
      (call_meets PySem.F.slot_int_rmul (typeIs_int s 1 t) PySem.F.entry_int_rmul (PySem.F.args_int_rmul_2 _ _) (int_rmul_tuple 1 t l its.toArray n dd sl)
        ⟨ho, rfl, ⟨_, ho, rfl⟩, call_meets PySem.F.slot_tuple_mul ⟨_, ho, rfl⟩ PySem.F.entry_tuple_mul (PySem.F.args_tuple_mul_2 _ _) (tup_times1 l its.toArray n dd sl t) ⟨ho, ⟨.ref l, H, I, rfl, q⟩⟩⟩)
  · exact op_repT pins s σ H _ _ v u Q I rx ry ⟨l, k, xs, rfl, rfl, hT, hne, h1, h2, hz, q⟩
theorem k_repT (e : X.K = K) : OpR X (binaryOp .Mult) (nRepT K) := e ▸ op_nRepT
/-! more of dicts -/
def rGet1 (R : VK) (a : Addr) : VK := fun y H2 => ∃ o, DGet H2 a y o ∧ R (o.getD .non) H2
def rGetD (x : V) (ty : TE) (σ : L2.St) (Q : VK) : Hp → Prop := fun H1 => ∃ a, x = .ref a ∧ IsD H1 a ∧ ty σ H1 (rGet1 Q a)
theorem x_dget1 {td ty : TE} {σ : L2.St} (q : td σ H fun x H1 => rGetD x ty σ Q H1) : tDGet1 td ty σ H Q := q
theorem x_rGetD {ty : TE} {σ : L2.St} {kvs : List (Key × V)} (h : H a = some (.dK kvs)) (q : ty σ H (rGet1 Q a)) : rGetD (.ref a) ty σ Q H := ⟨a, rfl, .inl ⟨kvs, .inl h⟩, q⟩
theorem x_rGet1 {kvs : List (Key × V)} {k : Str} (h : H a = some (.dK kvs)) (q : Q ((valV kvs (Sum.inr k)).getD .non) H) : rGet1 Q a (.str k) H := ⟨_, (DGet.k (k := Sum.inr k) h : DGet H a (kV (Sum.inr k)) (valV kvs (Sum.inr k))), q⟩
def rGet2 (R : VK) (a : Addr) (y z : V) : Hp → Prop := fun H3 => ∃ o, DGet H3 a y o ∧ R (o.getD z) H3
def rGetE (x : V) (ty tx : TE) (σ : L2.St) (Q : VK) : Hp → Prop := fun H1 => ∃ a, x = .ref a ∧ IsD H1 a ∧ ty σ H1 fun y H2 => tx σ H2 fun z H3 => rGet2 Q a y z H3
theorem x_dget2 {td ty tx : TE} {σ : L2.St} (q : td σ H fun x H1 => rGetE x ty tx σ Q H1) : tDGet2 td ty tx σ H Q := q
theorem x_rGetE {ty tx : TE} {σ : L2.St} {kvs : List (Key × V)} (h : H a = some (.dK kvs)) (q : ty σ H fun y H2 => tx σ H2 fun z H3 => rGet2 Q a y z H3) : rGetE (.ref a) ty tx σ Q H := ⟨a, rfl, .inl ⟨kvs, .inl h⟩, q⟩
theorem x_rGet2 {kvs : List (Key × V)} {k : Str} {z : V} (h : H a = some (.dK kvs)) (q : Q ((valV kvs (Sum.inr k)).getD z) H) : rGet2 Q a (.str k) z H := ⟨_, (DGet.k (k := Sum.inr k) h : DGet H a (kV (Sum.inr k)) (valV kvs (Sum.inr k))), q⟩
def rPop1 (R : VK) (a : Addr) : VK := fun y H2 => ∃ (kvs : List (Key × V)) (k : Key) (v : V), H2 a = some (.dK kvs) ∧ y = kV k ∧ valV kvs k = some v ∧ R v (upd H2 a (.dK (dropK kvs k)))
def rPopD (x : V) (ty : TE) (σ : L2.St) (Q : VK) : Hp → Prop := fun H1 => ∃ a, x = .ref a ∧ IsD H1 a ∧ ty σ H1 (rPop1 Q a)
theorem x_dpop1 {td ty : TE} {σ : L2.St} (q : td σ H fun x H1 => rPopD x ty σ Q H1) : tDPop1 td ty σ H Q := q
theorem x_rPopD {ty : TE} {σ : L2.St} {kvs : List (Key × V)} (h : H a = some (.dK kvs)) (q : ty σ H (rPop1 Q a)) : rPopD (.ref a) ty σ Q H := ⟨a, rfl, .inl ⟨kvs, .inl h⟩, q⟩
theorem x_rPop1 {kvs : List (Key × V)} {k : Str} {v : V} (h : H a = some (.dK kvs)) (e : valV kvs (Sum.inr k) = some v) (q : Q v (upd H a (.dK (dropK kvs (Sum.inr k))))) : rPop1 Q a (.str k) H := ⟨kvs, Sum.inr k, v, h, rfl, e, q⟩
def rPop2 (R : VK) (a : Addr) (y z : V) : Hp → Prop := fun H3 => ∃ (kvs : List (Key × V)) (k : Key), H3 a = some (.dK kvs) ∧ y = kV k ∧ (∀ v, valV kvs k = some v → R v (upd H3 a (.dK (dropK kvs k)))) ∧ (valV kvs k = none → R z H3)
def rPopE (x : V) (ty tx : TE) (σ : L2.St) (Q : VK) : Hp → Prop := fun H1 => ∃ a, x = .ref a ∧ IsD H1 a ∧ ty σ H1 fun y H2 => tx σ H2 fun z H3 => rPop2 Q a y z H3
theorem x_dpop2 {td ty tx : TE} {σ : L2.St} (q : td σ H fun x H1 => rPopE x ty tx σ Q H1) : tDPop2 td ty tx σ H Q := q
theorem x_rPopE {ty tx : TE} {σ : L2.St} {kvs : List (Key × V)} (h : H a = some (.dK kvs)) (q : ty σ H fun y H2 => tx σ H2 fun z H3 => rPop2 Q a y z H3) : rPopE (.ref a) ty tx σ Q H := ⟨a, rfl, .inl ⟨kvs, .inl h⟩, q⟩
theorem x_rPop2 {kvs : List (Key × V)} {k : Str} {z : V} (h : H a = some (.dK kvs)) (q1 : ∀ v, valV kvs (Sum.inr k) = some v → Q v (upd H a (.dK (dropK kvs (Sum.inr k))))) (q2 : valV kvs (Sum.inr k) = none → Q z H) : rPop2 Q a (.str k) z H := ⟨kvs, Sum.inr k, h, rfl, q1, q2⟩
def rDInK (y : V) (Q : VK) : VK := fun x H2 => ∃ a o, x = .ref a ∧ DGet H2 a y o ∧ Q (.bl o.isSome) H2
theorem x_din {ty td : TE} {σ : L2.St} (q : ty σ H fun y H1 => td σ H1 (rDInK y Q)) : tDIn ty td σ H Q := q
theorem x_rDInK {kvs : List (Key × V)} {k : Str} (h : H a = some (.dK kvs)) (q : Q (.bl (valV kvs (Sum.inr k)).isSome) H) : rDInK (.str k) Q (.ref a) H := ⟨a, _, rfl, (DGet.k (k := Sum.inr k) h : DGet H a (kV (Sum.inr k)) (valV kvs (Sum.inr k))), q⟩
theorem x_dnew {σ : L2.St} (k : ∀ p H2, Fr p H → Same H H2 → H2 p = some (.dK []) → Q (.ref p) H2) : tDNewK σ H Q := fun p hp => k p _ ⟨hp⟩ (same_new hp) upd_same
theorem x_notBl {b c : Bool} (q : Q (.bl (!decide (b = c))) H) : rNotB (.bl b) (.bl c) H Q := ⟨b, c, rfl, rfl, q⟩
theorem x_isBl {b c : Bool} (q : Q (.bl (decide (b = c))) H) : rIsB (.bl b) (.bl c) H Q := ⟨b, c, rfl, rfl, q⟩
theorem cut_whole {xs : List V} {lo hi : Option Int} (h : HT.sIx xs.length 0 lo = 0 ∧ HT.sIx xs.length xs.length hi = xs.length) : cutV xs lo hi = xs := by
  unfold cutV
  rw [h.1, h.2]
  simp
theorem x_slA {xs : List V} {lo hi : Option Int} (h : H a = some (.tup xs)) (k : ∀ p H', Same H H' → H' p = some (.tup (cutV xs lo hi)) → Q (.ref p) H') : rSlA K (.ref a) lo hi H Q :=
  ⟨a, xs, rfl, st_of h, fun e => k a H (Same.refl _) (by rw [cut_whole e]; exact h), fun _ p hp => k p _ (same_new hp) upd_same⟩
theorem x_catB {xs ys : List V} (h : H a = some (.tup xs)) (h' : H b = some (.tup ys)) (hz : xs.length + ys.length ≤ 100000) (k : ∀ p H', Same H H' → H' p = some (.tup (xs ++ ys)) → Q (.ref p) H') : rCatA K (.ref a) (.ref b) H Q :=
  ⟨a, b, xs, ys, rfl, rfl, st_of h, st_of h', size_ok hz, fun e => k b H (Same.refl _) (by rw [e]; exact h'), fun _ e => k a H (Same.refl _) (by rw [e, List.append_nil]; exact h), fun _ _ p hp => k p _ (same_new hp) upd_same⟩
theorem x_repB {xs : List V} {n : Int} (h : H a = some (.tup xs)) (hne : xs ≠ []) (hz : xs.length ≤ 1000) (hn : 1 ≤ n ∧ n ≤ 1000) (k : ∀ p H', Same H H' → H' p = some (.tup (List.replicate n.toNat xs).flatten) → Q (.ref p) H') : nRepT K (.ref a) (.int n) H Q := by
  refine ⟨a, n, xs, rfl, rfl, st_of h, hne, hz, ?_⟩
  by_cases e : n = 1
  · subst e
    refine .inl ⟨rfl, k a H (Same.refl _) ?_⟩
    rw [h]
    simp
  · exact .inr ⟨by omega, hn.2, fun p hp => k p _ (same_new hp) upd_same⟩
theorem repS_len {z : Str} {n : Int} (h : 2 ≤ n) (hz : 1 ≤ z.length) : (repS z n).length = n.toNat * z.length := by
  unfold repS
  rw [if_neg (by omega), if_neg]
  · show ((List.replicate n.toNat z.cps).foldl (· ++ ·) #[]).size = _
    rw [PySem.size_reps]
    show 0 + n.toNat * z.cps.size = n.toNat * z.length
    rw [Nat.zero_add]
    rfl
  · rw [Bool.or_eq_true, beq_iff_eq, beq_iff_eq]
    omega
end
/-- a def with defaults that lets nothing out -/
theorem okD {P : Program} {w : World} {K : PySem.W.Frag} {mg : Str → Option Value} {base : Heap} {x qual : Str} {pr : Arguments} {body : List Stmt} {sc : Scope} {dvs : List V} {kws : List (Str × V)} {f : Addr} {fd : FuncData} {N ps : List Str} {k : Nat} {sp : Sp}
    (F : FunD K x qual pr body sc dvs kws f fd) (S : FnScope N ps sc) (len : ∀ vs H Q E, sp vs H Q E → vs.length = ps.length)
    (hb : ∀ (cdv : Value) (A : Around) (outer : List Env) (s : Shared) (H : Hp) (vs : List V) (Q : VK) (E : XK), Room k (A.deeper (envOfC qual sc s.heap.objs.size f cdv)) → sp vs H Q E →
      ∃ t, PSs (cxOf CX0 P w K mg base N qual sc f cdv A outer s H E).nox body t ∧ t { nx := fun _ H' => Q .non H', rt := Q } (start N vs) H) : FnOk P w K mg base CX0 (k + 1) f fd ps sp :=
  F.ok S len fun cdv A outer s H vs Q E hr h => by
    obtain ⟨t, h1, q⟩ := hb cdv A outer s H vs Q E hr h
    exact ⟨t, h1.nox, q⟩
theorem funD_mk {K : PySem.W.Frag} {x qual : Str} {st : Stmt} {f dT : Addr} {oc : Value} {od an : Option Addr} {osl : Array (Option Value)} {kV doc pm cdv ct : Value} {dvs : List V} {o : Obj} {its : List Value} {n : Nat}
    (l : K.lookup f = some ⟨oc, od, .func (PySem.W.fnOf x qual (defArgs st) (defBody st) (defScope st) (.ref dT) kV doc pm an cdv ct), osl⟩) (c : PySem.W.codeIn K cdv qual = true) (k : PySem.W.keepIn K (.ref f) = true)
    (hd : dvs ≠ []) (lT : K.lookup dT = some o) (oT : o.data = .seq its.toArray n) (r : Vals dvs its) :
    FunD K x qual (defArgs st) (defBody st) (defScope st) dvs [] f (PySem.W.fnOf x qual (defArgs st) (defBody st) (defScope st) (.ref dT) kV doc pm an cdv ct) :=
  ⟨⟨oc, od, .ref dT, kV, doc, pm, an, cdv, ct, osl, rfl, l, c, .inr ⟨hd, dT, o, its, n, rfl, lT, oT, r⟩, .inl rfl⟩, k⟩
/-- dict(d) -/
def rDictD (xs : List V) (H : Hp) (Q : VK) : Prop := ∃ (a : Addr) (kvs : List (Key × V)), xs = [.ref a] ∧ Rd H a (.dK kvs) ∧ ∀ p, H p = none → Q (.ref p) (upd H p (.dK kvs))
theorem k_dictD {X : Cx} : CallR X (.type "dict") rDictD := call_dictD
theorem x_rDictD {a : Addr} {H : Hp} {Q : VK} {kvs : List (Key × V)} (h : H a = some (.dK kvs)) (k : ∀ p H2, Fr p H → Same H H2 → H2 p = some (.dK kvs) → Q (.ref p) H2) : rDictD [.ref a] H Q := ⟨a, kvs, rfl, .inl h, x_new1 k⟩
end Xk
/-! zip of a tuple and a list -/
namespace Xk
open PySem PySem.Spec PyProof.Rows L2
/-- a tuple at p and a list at q, side by side -/
def ItTL (K : PySem.W.Frag) (p q : Addr) : It where
  go := fun n H => ∃ (us vs : List V) (u v : V), SqT K H p us ∧ SqL K H q vs ∧ us[n]? = some u ∧ vs[n]? = some v
  yld := fun n H r H' => ∃ T u v, r = .ref T ∧ H T = none ∧ H' = upd H T (.tup [u, v]) ∧ (∀ us, SqT K H p us → us[n]? = some u) ∧ ∀ vs, SqL K H q vs → vs[n]? = some v
  stop := fun n H => ∃ us vs : List V, SqT K H p us ∧ SqL K H q vs ∧ n ≤ us.length ∧ n ≤ vs.length ∧ (n = us.length ∨ n = vs.length)
/-- what stands behind such an iterator -/
def AtTL (z t o i j p q : Addr) (n : Nat) (h : Heap) : Prop :=
  IsZip h z t o .none ∧ IsPair h t (.ref i) (.ref j) ∧ (∃ u v, IsPair h o u v) ∧ h.IsTupleIter i p n ∧ h.IsListIter j q n
theorem sepTL {z t o i j p q : Addr} (D : ZipApart z t o i j p q) : ZipSep2 z t o i j [i, p] [j, q] where
  TIz := D.TIz
  TOz := D.TOz
  TITO := D.TITO
  TIi1 := D.TIi1
  mem1 := List.mem_cons_self
  zf1 := by simp [D.i1z.symm, D.l1z.symm]
  Tf1 := by simp [D.TOi1, D.l1TO.symm]
  TIi2 := D.TIi2
  mem2 := List.mem_cons_self
  zf2 := by simp [D.i2z.symm, D.l2z.symm]
  Tf2 := by simp [D.TOi2, D.l2TO.symm]
  sep1_2 := by simp [D.i12, D.l2i1.symm]
  sep2_1 := by simp [D.i12.symm, D.l1i2.symm]
theorem five {c z t o i j : Addr} {P : Addr → Prop} (h : c ∈ [z, t, o, i, j]) (h1 : P z) (h2 : P t) (h3 : P o) (h4 : P i) (h5 : P j) : P c := by
  simp only [List.mem_cons, List.not_mem_nil, or_false] at h
  rcases h with rfl | rfl | rfl | rfl | rfl <;> assumption
theorem turnTL {P : Program} {w : World} {K : PySem.W.Frag} {es : List Expr} {k : Nat} {pos : Pos} {z t o i j p q : Addr} (D : ZipApart z t o i j p q) :
    Turn P w K (.Tuple es k pos) (ItTL K p q) [z, t, o, i, j] z (AtTL z t o i j p q) where
  mem := List.mem_cons_self
  obj := fun n h st c hc => by
    obtain ⟨g1, g2, ⟨u, v, g3⟩, ⟨o1, e1, _, d1⟩, ⟨o2, e2, _, d2⟩⟩ := st
    refine five (P := fun c => ∃ ob, h.get? c = some ob ∧ ∀ v, ob.data ≠ .cell v) hc ⟨_, g1, fun _ e => nomatch e⟩ ⟨_, g2, fun _ e => nomatch e⟩ ⟨_, g3, fun _ e => nomatch e⟩ ⟨o1, e1, fun x e => ?_⟩ ⟨o2, e2, fun x e => ?_⟩
    · rw [d1] at e
      cases e
    · rw [d2] at e
      cases e
  keep := fun n h h' st g => by
    obtain ⟨g1, g2, ⟨u, v, g3⟩, g4, g5⟩ := st
    exact ⟨g z (by simp) _ g1, g t (by simp) _ g2, ⟨u, v, g o (by simp) _ g3⟩, g4.at fun ob e => g i (by simp) ob e, g5.at fun ob e => g j (by simp) ob e⟩
  item := by
    intro X hP hw hK hc n pins s σ H E I hf st hg
    subst hP hw hK
    obtain ⟨g1, g2, ⟨u0, v0, g3⟩, g4, g5⟩ := st
    obtain ⟨us, vs, u, v, hus, hvs, hu, hv⟩ := hg
    obtain ⟨its, r1, p1, _⟩ := I.tuple hus
    obtain ⟨its2, r2, p2, _⟩ := I.list hvs
    obtain ⟨x, hx, rx⟩ := r1.get hu
    obtain ⟨y, hy, ry⟩ := r2.get hv
    have lt1 : n < its.toArray.size := by
      obtain ⟨b, _⟩ := List.getElem?_eq_some_iff.mp hx
      simpa using b
    have lt2 : n < its2.toArray.size := by
      obtain ⟨b, _⟩ := List.getElem?_eq_some_iff.mp hy
      simpa using b
    have hzl : z < s.heap.objs.size := Heap.lt_size g1
    have hh : X.A.in1.handled = none := I.ok.hd hc
    refine wpAny_pyNext_zipD2_item (sepTL D) (Draws.tuple hh i p D.l1i1 its.toArray) (Draws.list hh j q D.l2i2 its2.toArray) g1 g2 g3 ⟨g4, p1⟩ ⟨g5, p2.isList⟩ lt1 lt2 fun x1 y1 h' tk q1 q2 z' o' st1 st2 hT hsz hk => ?_
    have ex : x1 = x := by
      have e2 : its[n]? = some x1 := by simpa using q1
      exact Option.some.inj (e2.symm.trans hx)
    have ey : y1 = y := by
      have e2 : its2[n]? = some y1 := by simpa using q2
      exact Option.some.inj (e2.symm.trans hy)
    subst ex ey
    refine ⟨_, rfl, wpAny_letOwnedTupleGo_zip (s := { s with heap := h', toks := tk }) z' fun h2 z2 sb => ?_⟩
    have hT2 : h2.get? s.heap.objs.size = some { cls := .type "tuple", data := .seq #[x1, y1] } := (sb.2 _ (Nat.ne_of_gt hzl)).trans hT
    have new : ObjOk X.prog X.w (upd H s.heap.objs.size (.tup [u, v])) h2 s.heap.objs.size (.tup [u, v]) :=
      ⟨by show 2 ≤ sizeLine; decide, [x1, y1], .cons rx (.cons ry .nil), ⟨_, hT2, rfl, _, rfl⟩⟩
    have kept : ∀ c ob, c ∉ [z, t, o, i, j] → s.heap.get? c = some ob → h2.get? c = some ob := fun c ob nc e => by
      simp only [List.mem_cons, List.not_mem_nil, or_false, not_or] at nc
      exact (sb.2 c nc.1).trans (hk c ob nc.1 nc.2.2.1 nc.2.2.2.1 nc.2.2.2.2 e)
    have I1 : Inv X pins σ (upd H s.heap.objs.size (.tup [u, v])) { s with heap := h2, toks := tk } :=
      I.turnedNew (t' := tk) (ch := [z, t, o, i, j]) kept hf (Nat.le_refl _) new
    refine ⟨.ref s.heap.objs.size, _, I1, rfl, ⟨_, u, v, rfl, I.hok.fresh (Nat.le_refl _), rfl, fun l hl => ?_, fun l hl => ?_⟩, ⟨z2, ?_, ⟨x1, y1, ?_⟩, ?_, ?_⟩, fun c hcm => ?_⟩
    · rw [I.tuple_inj hl hus]
      exact hu
    · rw [I.list_inj hl hvs]
      exact hv
    · exact (sb.2 _ D.TIz).trans (hk t _ D.TIz D.TITO D.TIi1 D.TIi2 g2)
    · exact (sb.2 _ D.TOz).trans o'
    · exact st1.1.at fun ob e => (sb.2 _ D.i1z).trans e
    · exact st2.1.at fun ob e => (sb.2 _ D.i2z).trans e
    · have lt : c < s.heap.objs.size := by
        refine five (P := fun c => c < s.heap.objs.size) hcm hzl (Heap.lt_size g2) (Heap.lt_size g3) ?_ ?_
        · obtain ⟨_, e1, _⟩ := g4
          exact Heap.lt_size e1
        · obtain ⟨_, e1, _⟩ := g5
          exact Heap.lt_size e1
      rw [upd_ne (Nat.ne_of_lt lt)]
      exact (hf c hcm).1
  done := by
    intro X hP hw hK hc n pins s σ H E I hf st hg
    subst hP hw hK
    obtain ⟨g1, g2, ⟨u0, v0, g3⟩, g4, g5⟩ := st
    obtain ⟨us, vs, hus, hvs, le1, le2, hend⟩ := hg
    obtain ⟨its, r1, p1, _⟩ := I.tuple hus
    obtain ⟨its2, r2, p2, _⟩ := I.list hvs
    have l1 : its.toArray.size = us.length := by rw [List.size_toArray, r1.length]
    have l2 : its2.toArray.size = vs.length := by rw [List.size_toArray, r2.length]
    have hh : X.A.in1.handled = none := I.ok.hd hc
    exact wpAny_pyNext_zipD2_end (sepTL D) (Draws.tuple hh i p D.l1i1 its.toArray) (Draws.list hh j q D.l2i2 its2.toArray) g1 g2 g3 ⟨g4, p1⟩ ⟨g5, p2.isList⟩ (by omega) (by omega) (by omega) fun h' tk hk =>
      ⟨rfl, I.turnedL (t' := tk) (ch := [z, t, o, i, j]) (fun c ob nc e => by
        simp only [List.mem_cons, List.not_mem_nil, or_false, not_or] at nc
        exact hk c ob nc.1 nc.2.2.1 nc.2.2.2.1 nc.2.2.2.2 e) hf⟩
  self := fun A n s Q E st h => wpAny_pyIter_zip st.1 h
/-- zip(e, e2), e a tuple and e2 a list -/
def iTL (K : PySem.W.Frag) (ta : TA) : TI := fun σ H R => ta σ H fun vs H1 => ∃ p q us ws, vs = [.ref p, .ref q] ∧ SqT K H1 p us ∧ SqL K H1 q ws ∧ R (ItTL K p q) H1
theorem pi_TL {X : Cx} {e e2 : Expr} {ta : TA} {p1 pos tpos : Pos} {es : List Expr} {k : Nat} (hg : Gl X "zip") (hm : X.mg "zip" = none) (ha : PA X [e, e2] ta)
    (hs : starEach [e, e2] X.env = (false, eval e X.env) :: starEach [e2] X.env := by rfl) (hpl : (backTo pos (starEach [e2] X.env)).any (·.1) = false := by rfl) :
    PI X (.Tuple es k tpos) (.Call (.Name "zip" p1) [e, e2] [] pos) (iTL X.K ta) := by
  refine ⟨fun pins s σ H R I h => Call_ (ld_blt I hg hm PyProof.Rows.boot_zip (PyProof.Rows.callWith_type1 (thn (ha.run pos pins s σ H _ I h) fun us s1 ⟨vs, H1, I1, r1, q1⟩ => ?_) hs hpl))⟩
  obtain ⟨p, q, xs, ys, rfl, hx, hy, g⟩ := q1
  have e3 : us = [.ref p, .ref q] := by
    cases r1 with
    | cons a b =>
      cases b with
      | cons c d =>
        cases d
        cases a
        cases c
        rfl
  subst e3
  obtain ⟨its, rx, px, _⟩ := I1.tuple hx
  obtain ⟨its2, ry, py, _⟩ := I1.list hy
  have lp : p < s1.heap.objs.size := by
    obtain ⟨_, e1, _⟩ := id px
    exact Heap.lt_size e1
  refine zip_begins2 (begins_tuple p its.toArray) (begins_list q its2.toArray) px py.isList fun h' hz hTI hTO h1 h2 hsz hk => wpAny_pyIter_zip hz ?_
  have I2 : Inv X pins σ H1 { s1 with heap := h' } := I1.kept (t' := s1.toks) hk
  refine ⟨s1.heap.objs.size + 4, [s1.heap.objs.size + 4, s1.heap.objs.size + 2, s1.heap.objs.size + 3, s1.heap.objs.size, s1.heap.objs.size + 1], _, _, H1, rfl, I2,
    turnTL (PySem.W.ktu_apart s1.heap.objs.size p q lp py.lt), ⟨hz, hTI, ⟨_, _, hTO⟩, ⟨_, h1, rfl, rfl⟩, ⟨_, h2, rfl, rfl⟩⟩, fun c hcm => ?_, g⟩
  have le : s1.heap.objs.size ≤ c := five (P := fun c => s1.heap.objs.size ≤ c) hcm (Nat.le_add_right _ _) (Nat.le_add_right _ _) (Nat.le_add_right _ _) (Nat.le_refl _) (Nat.le_add_right _ _)
  exact I1.fpOk le (I1.hok.fresh le)
/-- a comprehension over it -/
theorem walkTL {K : PySem.W.Frag} {p q : Addr} {us vs : List V} (e : us.length = vs.length) : Walk (ItTL K p q) us.length (fun H => SqT K H p us ∧ SqL K H q vs) (YPair (fun n => us[n]?) (fun n => vs[n]?)) := by
  refine ⟨fun n _ hn g => ?_, fun _ g => ⟨us, vs, g.1, g.2, Nat.le_refl _, by omega, .inl rfl⟩, fun n H v H' _ g y => ?_⟩
  · have h2 : n < vs.length := by omega
    exact ⟨us, vs, us[n], vs[n], g.1, g.2, List.getElem?_eq_getElem hn, List.getElem?_eq_getElem h2⟩
  · obtain ⟨T, x, z, h1, h2, h3, h4, h5⟩ := y
    exact ⟨T, x, z, h1, h2, h3, h4 us g.1, h5 vs g.2⟩
end Xk
section
open PySem PySem.Spec PyProof.Rows L2
namespace Xk
variable {K : PySem.W.Frag} {σ : L2.St} {H : Hp} {Q : VK} {te : TE} {g : TG} {t : TT} {X : Cx}
theorem k_TL {e e2 : Expr} {ta : TA} {p1 pos tpos : Pos} {es : List Expr} {k : Nat} (hk : X.K = K) (hg : Gl X "zip") (hm : X.mg "zip" = none) (ha : PA X [e, e2] ta)
    (hs : starEach [e, e2] X.env = (false, eval e X.env) :: starEach [e2] X.env := by rfl) (hpl : (backTo pos (starEach [e2] X.env)).any (·.1) = false := by rfl) :
    PI X (.Tuple es k tpos) (.Call (.Name "zip" p1) [e, e2] [] pos) (iTL K ta) := hk ▸ pi_TL hg hm ha hs hpl
def rLcZ (K : PySem.W.Frag) (g : TG) (tt : TT) (te : TE) (vs : List Nat) (σ : L2.St) (Q : VK) : List V → Hp → Prop := fun zs H1 => ∃ p q us ws, zs = [.ref p, .ref q] ∧ SqT K H1 p us ∧ SqL K H1 q ws ∧ RLc (ItTL K p q) g tt te vs σ Q H1
theorem x_lcZ1 {tr : TA} {vs : List Nat} (q : tr σ H (rLcZ K g t te vs σ Q)) : tLc (iTL K tr) g t te vs σ H Q := q
theorem x_lcZ {a b : Addr} {us ws : List V} {vs : List Nat} (Pv : Addr → Nat → Hp → Prop) (e : us.length = ws.length) (hx : SqT K H a us) (hy : SqL K H b ws) (h0 : ∀ Dl, Fr Dl H → Pv Dl 0 (upd H Dl (.lst [])))
    (hl : ∀ Dl i H', Fr Dl H → Pv Dl i H' → SqT K H' a us ∧ SqL K H' b ws)
    (hs : ∀ Dl, Fr Dl H → ∀ i x y H1 T H', us[i]? = some x → ws[i]? = some y → Pv Dl i H1 → Fr T H1 → Same H1 H' → H' T = some (.tup [x, y]) → g (.ref T) (wipe σ vs) H' fun σ2 H2 => wipe σ2 vs = wipe σ vs ∧ t σ2 H2 fun c H3 =>
      if c = true then te σ2 H3 fun y H4 => ∃ acc, H4 Dl = some (.lst acc) ∧ acc.length < sizeLine ∧ Pv Dl (i + 1) (upd H4 Dl (.lst (acc ++ [y]))) else Pv Dl (i + 1) H3)
    (hd : ∀ Dl H', Fr Dl H → Pv Dl us.length H' → Q (.ref Dl) H') : rLcZ K g t te vs σ Q [.ref a, .ref b] H := ⟨a, b, us, ws, rfl, hx, hy, fun Dl hD =>
  lc_it (walkTL e) (Pv Dl) (h0 Dl ⟨hD⟩) (fun i H' _ p => hl Dl i H' ⟨hD⟩ p) (fun i x H1 H' hi p y => by
    obtain ⟨T, u, v, rfl, hT, rfl, e1, e2⟩ := y
    exact hs Dl ⟨hD⟩ i u v H1 T _ e1 e2 p ⟨hT⟩ (same_new hT) upd_same) (fun H' p => hd Dl H' ⟨hD⟩ p)⟩
/-- texts in order -/
def nLtS : R2 := fun x y H Q => ∃ i j, x = .str i ∧ y = .str j ∧ Q (.bl (decide (i.cps.toList < j.cps.toList))) H
def nLeS : R2 := fun x y H Q => ∃ i j, x = .str i ∧ y = .str j ∧ Q (.bl (!decide (j.cps.toList < i.cps.toList))) H
theorem op_nLtS : OpR X (compareOp .Lt) nLtS := op_lt_str
theorem op_nLeS : OpR X (compareOp .LtE) nLeS := op_le_str
def rPar (i j : Nat) (σ : L2.St) (R : L2.St → Hp → Prop) : List V → Hp → Prop := fun vs H1 => ∃ v w, vs = [v, w] ∧ R ((σ.set i (some v)).set j (some w)) H1
theorem x_spar {i j : Nat} {ta : TA} {tz : TS} {D : Ends} (q : ta σ H (rPar i j σ (tz D))) : tSeq (tPar i j ta) tz D σ H := q
theorem x_par {i j : Nat} {ta : TA} {D : Ends} (q : ta σ H (rPar i j σ D.nx)) : tPar i j ta D σ H := q
theorem x_rPar {i j : Nat} {R : L2.St → Hp → Prop} {v u : V} (q : R ((σ.set i (some v)).set j (some u)) H) : rPar i j σ R [v, u] H := ⟨v, u, rfl, q⟩
def nGeS : R2 := fun x y H Q => ∃ i j, x = .str i ∧ y = .str j ∧ Q (.bl (!decide (i.cps.toList < j.cps.toList))) H
theorem op_nGeS : OpR X (compareOp .GtE) nGeS := op_ge_str
theorem x_nGeS {i j : Str} (q : Q (.bl (!decide (i.cps.toList < j.cps.toList))) H) : nGeS (.str i) (.str j) H Q := ⟨i, j, rfl, rfl, q⟩
theorem x_nLtS {i j : Str} (q : Q (.bl (decide (i.cps.toList < j.cps.toList))) H) : nLtS (.str i) (.str j) H Q := ⟨i, j, rfl, rfl, q⟩
theorem x_nLeS {i j : Str} (q : Q (.bl (!decide (j.cps.toList < i.cps.toList))) H) : nLeS (.str i) (.str j) H Q := ⟨i, j, rfl, rfl, q⟩
theorem x_ext {l b : Addr} {xs zs : List V} (h : H l = some (.lst xs)) (h' : H b = some (.lst zs)) (hz : xs.length + zs.length ≤ 100000) (q : Q .non (upd H l (.lst (xs ++ zs)))) : rExtend (.ref l) [.ref b] H Q := ⟨l, b, xs, zs, rfl, rfl, h, h', size_ok hz, q⟩
theorem x_sortS {a : Addr} {xs : List Str} (h : SqL K H a (xs.map V.str)) (hl : xs.length < 64) (k : ∀ p H2 (ys : List Str), ys.Perm xs → sortedS ys = true → Fr p H → Same H H2 → H2 p = some (.lst (ys.map V.str)) → Q (.ref p) H2) : rSortedS K [.ref a] H Q :=
  ⟨a, xs, rfl, h, hl, fun ys p h1 h2 hp => k p _ ys h1 h2 ⟨hp⟩ (same_new hp) upd_same⟩
end Xk
end
namespace Xk
open PySem PySem.Spec PyProof.Rows L2
theorem k_fld {X : Cx} {K : PySem.W.Frag} {e : Expr} {f : Str} {pos : Pos} {ta : TE} (hk : X.K = K) (he : PE X e ta) (hb : attributeBase e f X.env (eval e X.env) = eval e X.env) : PE X (.Attribute e f pos) (tFld K ta f) := hk ▸ pe_fld he hb
end Xk
namespace Xk
open PySem PySem.Spec PyProof.Rows L2
def rSubSl (x v : V) (l u : Option Int) (σ : L2.St) (R : L2.St → Hp → Prop) : Hp → Prop := fun H3 => ∃ (a b : Addr) (xs ys : List V) (i j : Int), x = .ref a ∧ v = .ref b ∧ l = some i ∧ u = some j ∧
  H3 a = some (.lst xs) ∧ H3 b = some (.lst ys) ∧ a ≠ b ∧ 0 ≤ i ∧ i ≤ j ∧ j ≤ xs.length ∧ xs.length + ys.length ≤ sizeLine ∧ R σ (upd H3 a (.lst (xs.take i.toNat ++ ys ++ xs.drop j.toNat)))
theorem x_gSubSl {to : TE} {tl th : TO} {v : V} {σ : L2.St} {H : Hp} {R : L2.St → Hp → Prop} (q : to σ H fun x H1 => tl σ H1 fun l H2 => th σ H2 fun u H3 => rSubSl x v l u σ R H3) : gSubSl to tl th v σ H R := q
theorem x_rSubSl {a b : Addr} {xs ys : List V} {i j : Int} {n m : Nat} {σ : L2.St} {H : Hp} {R : L2.St → Hp → Prop} (h : H a = some (.lst xs)) (h' : H b = some (.lst ys)) (ne : a ≠ b) (hi : i = (n : Int)) (hj : j = (m : Int)) (nm : n ≤ m) (hm : m ≤ xs.length) (hz : xs.length + ys.length ≤ 100000)
    (q : R σ (upd H a (.lst (xs.take n ++ ys ++ xs.drop m)))) : rSubSl (.ref a) (.ref b) (some i) (some j) σ R H := by
  refine ⟨a, b, xs, ys, i, j, rfl, rfl, rfl, rfl, h, h', ne, by omega, by omega, by omega, size_ok hz, ?_⟩
  rw [hi, hj, Int.toNat_natCast, Int.toNat_natCast]
  exact q
end Xk
/-! enumerate of a tuple -/
namespace Xk
open PySem PySem.Spec PyProof.Rows L2
theorem wp_ite {M : Model} {A : Around} {E : Value → Shared → Prop} {s : Shared} {α : Type} {c : Prop} [Decidable c] {a b : Sem α} {Q : α → Shared → Prop} (h1 : wpAny M A a Q E s) (h2 : wpAny M A b Q E s) : wpAny M A (if c then a else b) Q E s := by
  by_cases h : c
  · exact wpAny_ite_true (decide_eq_true h) h1
  · exact wpAny_ite_false (decide_eq_false h) h2
theorem enumT0 {prog : Program} {w : World} {A : Around} {E : Value → Shared → Prop} {R : Fin → Shared → Prop} {s : Shared} {v : Value} {o : Obj} {H : Heap → Prop} (b : Begins v o H) (h1 : H s.heap)
  (h2 : R (Fin.done (Flow.ret (Value.ref (s.heap.push o).objs.size)))
        { heap := (s.heap.push o).push { cls := Value.type "enumerate", data := Data.fields #[Value.none, Value.bool false, Value.ref s.heap.objs.size, rawInt 0, Value.none, Value.none] },
          gens := s.gens, drawn := s.drawn, toks := s.toks, os := s.os }) :
  wpAny (model prog w) A (do
      let it ← pyIter v
      let r ← Builtin.SmallTypes.newRecord (Value.type "enumerate") (Builtin.SmallTypes.ownedTupleFields ++ [it, rawInt 0, Value.none, Value.none])
      ret r) R E s := by
  refine wpAny_bind (b.iter prog w A _ s _ h1 ?_)
  refine wpAny_bind ?_
  refine wpAny_bind (wpAny_alloc' ?_)
  refine wpAny_pure ?_
  exact wpAny_pure h2
theorem enumT1 {v : Value} {o : Obj} {H : Heap → Prop} (b : Begins v o H) : Meets (Builtin.«enumerate.__new__» { pos := [.type "enumerate", v] }) fun A R s => H s.heap ∧
   R (Except.ok (Flow.ret (Value.ref (s.heap.push o).objs.size)))
        { heap := (s.heap.push o).push { cls := Value.type "enumerate", data := Data.fields #[Value.none, Value.bool false, Value.ref s.heap.objs.size, rawInt 0, Value.none, Value.none] },
          gens := s.gens, drawn := s.drawn, toks := s.toks, os := s.os } := by
  intro prog w A R s hs
  obtain ⟨h1, h2⟩ := hs
  refine wpAny_bind ?_
  refine wpAny_bind ?_
  refine wpAny_of_eq (a := true) rfl ?_
  refine wpAny_ite_false rfl ?_
  refine wpAny_bind ?_
  refine wpAny_of_eq sub_enumerate ?_
  refine wpAny_ite_false rfl ?_
  refine wpAny_pure ?_
  refine wpAny_ite_true (by decide) ?_
  refine wpAny_bind ?_
  refine wpAny_bind (wpAny_stack_any fun st => wpAny_pure ?_)
  refine wp_ite ?_ ?_
  · refine wpAny_bind ?_
    refine wpAny_of_eq (a := (v, none)) rfl ?_
    exact enumT0 b h1 h2
  · refine wpAny_bind ?_
    refine wpAny_of_eq (a := (v, none)) rfl ?_
    exact enumT0 b h1 h2
theorem enum_one {prog : Program} {w : World} {A : Around} {E : Value → Shared → Prop} {s : Shared} {v : Value} {o : Obj} {H : Heap → Prop} {Q : Value → Shared → Prop} (b : Begins v o H) (h1 : H s.heap)
  (q : ∀ h' : Heap, IsEnum h' (s.heap.objs.size + 1) s.heap.objs.size 0 Value.none → h'.get? s.heap.objs.size = some o → h'.objs.size = s.heap.objs.size + 2 → (∀ (b : Addr) (o : Obj), s.heap.get? b = some o → h'.get? b = some o) →
     Q (Value.ref (s.heap.objs.size + 1)) { heap := h', gens := s.gens, drawn := s.drawn, toks := s.toks, os := s.os }) :
  wpAny (model prog w) A (call (Value.type "enumerate") [v]) Q E s := by
  refine callType_new F.called_enumerate (by decide) (F.typeCall_enumerate_1 v) (F.newCall_enumerate_1 v) (fun obj => F.args_object_init_2 obj v) F.entry_enumerate_new (enumT1 b) ⟨h1, ?_⟩
  have e1 : (s.heap.push o).objs.size = s.heap.objs.size + 1 := by rw [Heap.size_push]
  have g : ((s.heap.push o).push { cls := Value.type "enumerate", data := Data.fields #[Value.none, Value.bool false, Value.ref s.heap.objs.size, rawInt 0, Value.none, Value.none] }).get? (s.heap.push o).objs.size = some { cls := Value.type "enumerate", data := Data.fields #[Value.none, Value.bool false, Value.ref s.heap.objs.size, rawInt 0, Value.none, Value.none] } := Heap.get?_push_size _ rfl
  refine ⟨?_, ?_⟩
  · rw [e1] at g ⊢
    exact ⟨_, g, rfl⟩
  · rw [e1] at g ⊢
    refine q _ g ?_ (by rw [Heap.size_push, Heap.size_push]) fun b' o' e => Heap.get?_push_of_some _ (Heap.get?_push_of_some _ e)
    exact Heap.get?_push_of_some _ (Heap.get?_push_size _ b.free)
/-- a tuple at a, each item with its number -/
def ItET (K : PySem.W.Frag) (a : Addr) : It where
  go := fun i H => ∃ (xs : List V) (x : V), SqT K H a xs ∧ xs[i]? = some x
  yld := fun i H v H' => ∃ T x, v = .ref T ∧ H T = none ∧ H' = upd H T (.tup [.int (i : Nat), x]) ∧ ∀ xs : List V, SqT K H a xs → xs[i]? = some x
  stop := fun i H => ∃ xs : List V, SqT K H a xs ∧ i = xs.length
theorem turnET {P : Program} {w : World} {K : PySem.W.Frag} {es : List Expr} {k : Nat} {pos : Pos} {a e it : Addr} (d1 : e ≠ it) (d2 : a ≠ it) (d3 : e ≠ a) :
    Turn P w K (.Tuple es k pos) (ItET K a) [e, it] e (fun i h => (∃ old, IsEnum h e it (i : Nat) old) ∧ h.IsTupleIter it a i) where
  mem := List.mem_cons_self
  obj := fun n h st c hc => by
    obtain ⟨⟨old, g1⟩, ⟨o1, e1, _, dd1⟩⟩ := st
    simp only [List.mem_cons, List.not_mem_nil, or_false] at hc
    rcases hc with rfl | rfl
    · exact ⟨_, g1, fun _ e => nomatch e⟩
    · refine ⟨o1, e1, fun x e => ?_⟩
      rw [dd1] at e
      cases e
  keep := fun n h h' st g => by
    obtain ⟨⟨old, g1⟩, g2⟩ := st
    exact ⟨⟨old, g e (by simp) _ g1⟩, g2.at fun ob e => g it (by simp) ob e⟩
  item := by
    intro X hP hw hK hc n pins s σ H E I hf st hg
    subst hP hw hK
    obtain ⟨⟨old, g1⟩, g2⟩ := st
    obtain ⟨us, u, hus, hu⟩ := hg
    obtain ⟨its, r1, p1, _⟩ := I.tuple hus
    obtain ⟨x, hx, rx⟩ := r1.get hu
    have lt1 : n < its.toArray.size := by
      obtain ⟨b, _⟩ := List.getElem?_eq_some_iff.mp hx
      simpa using b
    have hzl : e < s.heap.objs.size := Heap.lt_size g1
    have hil : it < s.heap.objs.size := by
      obtain ⟨_, e1, _⟩ := id g2
      exact Heap.lt_size e1
    have hh : X.A.in1.handled = none := I.ok.hd hc
    refine wpAny_pyNext_enum_itemD (Draws.tuple hh it a d2 its.toArray) g1 ⟨g2, p1⟩ lt1 d1 (by simp [d1, d3]) fun x1 h' tk q1 eo st1 hT hsz hk => ?_
    have ex : x1 = x := by
      have e2 : its[n]? = some x1 := by simpa using q1
      exact Option.some.inj (e2.symm.trans hx)
    subst ex
    refine ⟨_, rfl, wpAny_letOwnedTupleGo_enum (s := { s with heap := h', toks := tk + 1 }) eo fun h2 z2 sb => ?_⟩
    have hT2 : h2.get? s.heap.objs.size = some { cls := .type "tuple", data := .seq #[Value.int (n : Nat) tk, x1] } := (sb.2 _ (Nat.ne_of_gt hzl)).trans hT
    have new : ObjOk X.prog X.w (upd H s.heap.objs.size (.tup [.int (n : Nat), u])) h2 s.heap.objs.size (.tup [.int (n : Nat), u]) :=
      ⟨by show 2 ≤ sizeLine; decide, [Value.int (n : Nat) tk, x1], .cons (by first | exact ⟨tk, rfl⟩ | exact rfl | constructor) (.cons rx .nil), ⟨_, hT2, rfl, _, rfl⟩⟩
    have kept : ∀ c ob, c ∉ [e, it] → s.heap.get? c = some ob → h2.get? c = some ob := fun c ob nc e => by
      simp only [List.mem_cons, List.not_mem_nil, or_false, not_or] at nc
      exact (sb.2 c nc.1).trans (hk c ob nc.1 nc.2 e)
    have I1 : Inv X pins σ (upd H s.heap.objs.size (.tup [.int (n : Nat), u])) { s with heap := h2, toks := tk + 1 } :=
      I.turnedNew (t' := tk + 1) (ch := [e, it]) kept hf (Nat.le_refl _) new
    refine ⟨.ref s.heap.objs.size, _, I1, rfl, ⟨_, u, rfl, I.hok.fresh (Nat.le_refl _), rfl, fun l hl => ?_⟩, ⟨⟨_, z2⟩, ?_⟩, fun c hcm => ?_⟩
    · rw [I.tuple_inj hl hus]
      exact hu
    · exact st1.1.at fun ob e => (sb.2 _ d1.symm).trans e
    · have lt : c < s.heap.objs.size := by
        simp only [List.mem_cons, List.not_mem_nil, or_false] at hcm
        rcases hcm with rfl | rfl
        · exact hzl
        · exact hil
      rw [upd_ne (Nat.ne_of_lt lt)]
      exact (hf c hcm).1
  done := by
    intro X hP hw hK hc n pins s σ H E I hf st hg
    subst hP hw hK
    obtain ⟨⟨old, g1⟩, g2⟩ := st
    obtain ⟨us, hus, rfl⟩ := hg
    obtain ⟨its, r1, p1, _⟩ := I.tuple hus
    have l1 : its.toArray.size = us.length := by rw [List.size_toArray, r1.length]
    have hh : X.A.in1.handled = none := I.ok.hd hc
    refine wpAny_pyNext_enum_endD (Draws.tuple hh it a d2 its.toArray) g1 (by rw [l1]; exact ⟨g2, p1⟩) fun h' hk => ?_
    exact ⟨rfl, I.turnedL (t' := s.toks) (ch := [e, it]) (fun c ob nc e => by
      simp only [List.mem_cons, List.not_mem_nil, or_false, not_or] at nc
      exact hk c ob nc.2 e) hf⟩
  self := fun A n s Q E st h => wpAny_pyIter_enum st.1.choose_spec h
/-- enumerate(e), e a tuple -/
def iET (K : PySem.W.Frag) (ta : TA) : TI := fun σ H R => ta σ H fun vs H1 => ∃ p us, vs = [.ref p] ∧ SqT K H1 p us ∧ R (ItET K p) H1
theorem pi_ET {X : Cx} {e : Expr} {ta : TA} {p1 pos tpos : Pos} {es : List Expr} {k : Nat} (hg : Gl X "enumerate") (hm : X.mg "enumerate" = none) (ha : PA X [e] ta)
    (hs : starEach [e] X.env = [(false, eval e X.env)] := by rfl) (hpl : (backTo pos (starEach [] X.env)).any (·.1) = false := by rfl) :
    PI X (.Tuple es k tpos) (.Call (.Name "enumerate" p1) [e] [] pos) (iET X.K ta) := by
  refine ⟨fun pins s σ H R I h => Call_ (ld_blt I hg hm PyProof.Rows.boot_enumerate (PyProof.Rows.callWith_type1 (thn (ha.run pos pins s σ H _ I h) fun us s1 ⟨vs, H1, I1, r1, q1⟩ => ?_) hs hpl))⟩
  obtain ⟨p, xs, rfl, hx, g⟩ := q1
  have e3 : us = [.ref p] := by
    cases r1 with
    | cons a b =>
      cases b
      cases a
      rfl
  subst e3
  obtain ⟨its, rx, px, _⟩ := I1.tuple hx
  have lp : p < s1.heap.objs.size := by
    obtain ⟨_, e1, _⟩ := id px
    exact Heap.lt_size e1
  refine enum_one (begins_tuple p its.toArray) px fun h' hz h1 hsz hk => wpAny_pyIter_enum hz ?_
  have I2 : Inv X pins σ H1 { s1 with heap := h' } := I1.kept (t' := s1.toks) hk
  refine ⟨s1.heap.objs.size + 1, [s1.heap.objs.size + 1, s1.heap.objs.size], _, _, H1, rfl, I2,
    turnET (Nat.succ_ne_self _) (Nat.ne_of_lt lp) (Nat.ne_of_gt (Nat.lt_succ_of_lt lp)), ⟨⟨_, hz⟩, ⟨_, h1, rfl, rfl⟩⟩, fun c hcm => ?_, g⟩
  have le : s1.heap.objs.size ≤ c := by
    simp only [List.mem_cons, List.not_mem_nil, or_false] at hcm
    rcases hcm with rfl | rfl
    · exact Nat.le_add_right _ _
    · exact Nat.le_refl _
  exact I1.fpOk le (I1.hok.fresh le)
/-- a comprehension over it -/
theorem walkET {K : PySem.W.Frag} {p : Addr} {us : List V} : Walk (ItET K p) us.length (fun H => SqT K H p us) (YPair (fun n => some (.int (n : Nat))) (fun n => us[n]?)) := by
  refine ⟨fun n _ hn g => ?_, fun _ g => ⟨us, g, rfl⟩, fun n H v H' _ g y => ?_⟩
  · exact ⟨us, us[n], g, List.getElem?_eq_getElem hn⟩
  · obtain ⟨T, x, h1, h2, h3, h4⟩ := y
    exact ⟨T, _, x, h1, h2, h3, rfl, h4 us g⟩
end Xk
section
open PySem PySem.Spec PyProof.Rows L2
namespace Xk
variable {K : PySem.W.Frag} {σ : L2.St} {H : Hp} {Q : VK} {te : TE} {g : TG} {t : TT} {X : Cx}
theorem k_ET {e : Expr} {ta : TA} {p1 pos tpos : Pos} {es : List Expr} {k : Nat} (hk : X.K = K) (hg : Gl X "enumerate") (hm : X.mg "enumerate" = none) (ha : PA X [e] ta)
    (hs : starEach [e] X.env = [(false, eval e X.env)] := by rfl) (hpl : (backTo pos (starEach [] X.env)).any (·.1) = false := by rfl) :
    PI X (.Tuple es k tpos) (.Call (.Name "enumerate" p1) [e] [] pos) (iET K ta) := hk ▸ pi_ET hg hm ha hs hpl
def rLcET (K : PySem.W.Frag) (g : TG) (tt : TT) (te : TE) (vs : List Nat) (σ : L2.St) (Q : VK) : List V → Hp → Prop := fun zs H1 => ∃ p us, zs = [.ref p] ∧ SqT K H1 p us ∧ RLc (ItET K p) g tt te vs σ Q H1
theorem x_lcET1 {tr : TA} {vs : List Nat} (q : tr σ H (rLcET K g t te vs σ Q)) : tLc (iET K tr) g t te vs σ H Q := q
theorem x_lcET {a : Addr} {us : List V} {vs : List Nat} (Pv : Addr → Nat → Hp → Prop) (hx : SqT K H a us) (h0 : ∀ Dl, Fr Dl H → Pv Dl 0 (upd H Dl (.lst [])))
    (hl : ∀ Dl i H', Fr Dl H → Pv Dl i H' → SqT K H' a us)
    (hs : ∀ Dl, Fr Dl H → ∀ i x H1 T H', us[i]? = some x → Pv Dl i H1 → Fr T H1 → Same H1 H' → H' T = some (.tup [.int (i : Nat), x]) → g (.ref T) (wipe σ vs) H' fun σ2 H2 => wipe σ2 vs = wipe σ vs ∧ t σ2 H2 fun c H3 =>
      if c = true then te σ2 H3 fun y H4 => ∃ acc, H4 Dl = some (.lst acc) ∧ acc.length < sizeLine ∧ Pv Dl (i + 1) (upd H4 Dl (.lst (acc ++ [y]))) else Pv Dl (i + 1) H3)
    (hd : ∀ Dl H', Fr Dl H → Pv Dl us.length H' → Q (.ref Dl) H') : rLcET K g t te vs σ Q [.ref a] H := ⟨a, us, rfl, hx, fun Dl hD =>
  lc_it walkET (Pv Dl) (h0 Dl ⟨hD⟩) (fun i H' _ p => hl Dl i H' ⟨hD⟩ p) (fun i x H1 H' hi p y => by
    obtain ⟨T, u, v, rfl, hT, rfl, e1, e2⟩ := y
    cases Option.some.inj e1
    exact hs Dl ⟨hD⟩ i v H1 T _ e2 p ⟨hT⟩ (same_new hT) upd_same) (fun H' p => hd Dl H' ⟨hD⟩ p)⟩
end Xk
end
/-! dict comprehensions over a tuple -/
section
open PySem PySem.Spec PyProof.Rows L2
namespace Xk
variable {K : PySem.W.Frag} {σ : L2.St} {H : Hp} {Q : VK} {tk tv : TE} {g : TG} {t : TT}
def RDc (J : It) (g : TG) (tt : TT) (tk tv : TE) (vs : List Nat) (σ : L2.St) (Q : VK) : Hp → Prop := fun H1 => ∀ D, H1 D = none → ∃ W : Nat → Nat → Hp → Prop, (∃ m, W 0 m (upd H1 D (.dK []))) ∧ ∀ i m H, W i m H →
  (J.stop i H ∧ Q (.ref D) H) ∨ (J.go i H ∧ ∃ Nx : Hp → Prop, (∀ H', Nx H' → ∃ m', m' < m ∧ W (i + 1) m' H') ∧ ∀ x H', J.yld i H x H' → g x (wipe σ vs) H' fun σ2 H2 => wipe σ2 vs = wipe σ vs ∧ tt σ2 H2 fun b H3 =>
    if b = true then tk σ2 H3 fun y H4 => tv σ2 H4 fun z H5 => ∃ kvs k, y = kV k ∧ H5 D = some (.dK kvs) ∧ kvs.length < sizeLine ∧ Nx (upd H5 D (.dK (putK kvs k z))) else Nx H3)
def rDcT (K : PySem.W.Frag) (g : TG) (tt : TT) (tk tv : TE) (vs : List Nat) (σ : L2.St) (Q : VK) : VK := fun x H1 => ∃ a, x = .ref a ∧ (∃ xs, SqT K H1 a xs) ∧ RDc (Itt K a) g tt tk tv vs σ Q H1
theorem x_dcT1 {tx : TE} {vs : List Nat} (q : tx σ H (rDcT K g t tk tv vs σ Q)) : tDc (iTup K tx) g t tk tv vs σ H Q := q
theorem x_dcT {a : Addr} {xs : List V} {vs : List Nat} (Pv : Addr → Nat → Hp → Prop) (hx : SqT K H a xs) (h0 : ∀ Dl, Fr Dl H → Pv Dl 0 (upd H Dl (.dK []))) (hl : ∀ Dl i H', Fr Dl H → Pv Dl i H' → SqT K H' a xs)
    (hs : ∀ Dl, Fr Dl H → ∀ i x H', xs[i]? = some x → Pv Dl i H' → g x (wipe σ vs) H' fun σ2 H2 => wipe σ2 vs = wipe σ vs ∧ t σ2 H2 fun b H3 =>
      if b = true then tk σ2 H3 fun y H4 => tv σ2 H4 fun z H5 => ∃ kvs k, y = kV k ∧ H5 Dl = some (.dK kvs) ∧ kvs.length < sizeLine ∧ Pv Dl (i + 1) (upd H5 Dl (.dK (putK kvs k z))) else Pv Dl (i + 1) H3)
    (hd : ∀ Dl H', Fr Dl H → Pv Dl xs.length H' → Q (.ref Dl) H') : rDcT K g t tk tv vs σ Q (.ref a) H := ⟨a, rfl, ⟨xs, hx⟩, fun Dl hD =>
  dc_tup (xs := xs) (Pv Dl) (h0 Dl ⟨hD⟩) (fun i H' _ p => hl Dl i H' ⟨hD⟩ p) (fun i x H' hi p => hs Dl ⟨hD⟩ i x H' hi p) (fun H' p => hd Dl H' ⟨hD⟩ p)⟩
end Xk
end
namespace Xk
open PySem PySem.Spec PyProof.Rows L2
section
variable {X : Cx}
/-- sorted(xs) of a list of data of one shape -/
def rSortX (K : PySem.W.Frag) : List V → Hp → VK → Prop := fun vs H Q => ∃ (a : Addr) (bs : List (V × PyData)), vs = [V.ref a] ∧ SqL K H a (bs.map (·.1)) ∧ (∀ b ∈ bs, Dp K H b.1 b.2 ∧ b.2.depth ≤ 9) ∧
  PySem.W.AllAlike (bs.map (·.2)) ∧ PySem.W.Sortable (bs.map (·.2)) ∧ ∀ p, H p = none → Q (.ref p) (upd H p (.lst ((bs.mergeSort (PySem.W.dataLe false (·.2))).map (·.1))))
theorem eachV {R : Value → PyData → Prop} : ∀ {its : List Value} {bs : List (V × PyData)}, Vals (bs.map (·.1)) its → (∀ b ∈ bs, ∀ u, RelV b.1 u → R u b.2) → PySem.W.EachIs (fun u (b : V × PyData) => RelV b.1 u ∧ R u b.2) its bs
  | its, [], h, _ => by cases h; exact .nil
  | its, b :: r, h, hr => by
    cases h with
    | cons h1 h2 => exact .cons ⟨h1, hr b (List.mem_cons_self ..) _ h1⟩ (eachV h2 fun c hc => hr c (List.mem_cons_of_mem _ hc))
theorem eachB {R : Value → PyData → Prop} : ∀ {its : List Value} {bs : List (V × PyData)}, PySem.W.EachIs (fun u (b : V × PyData) => RelV b.1 u ∧ R u b.2) its bs → Vals (bs.map (·.1)) its
  | _, _, .nil => .nil
  | _, _, .cons h t => .cons h.1 (eachB t)
theorem k_sortX0 (hu : X.A.units + 64 < cLine) : CallR X (.builtin "sorted") (rSortX X.K) := by
  intro pins s σ H vs us Q I r h
  obtain ⟨a, bs, rfl, hs, hd, hal, hk, q⟩ := h
  obtain ⟨its, rv, hl, hz⟩ := I.list hs
  rw [Vals.ref1 r]
  have e := eachV (R := fun u d => ∃ as, Reads s.heap u d as) rv fun b hb u ru => Dp.reads I b.2 b.1 u (hd b hb).1 ru
  have hlen : bs.length ≤ sizeLine := by rw [List.length_map] at hz; exact hz
  refine PySem.W.sorted_data (enc := fun b : V × PyData => b.2) hl.isList e (e.mono fun _ _ h => h.2) hal hk hlen (fun b hb => ?_) fun out ho eo => ?_
  · have := (hd b hb).2
    omega
  · obtain ⟨ep, he'⟩ := PyProof.Rows.sortedAll_at s.heap its out.toArray
    have hlen2 : ((bs.mergeSort (PySem.W.dataLe false (·.2))).map (·.1)).length ≤ sizeLine := by rw [List.length_map, List.length_mergeSort]; exact hlen
    exact ⟨.ref _, upd H (s.heap.objs.size + 1) (.lst ((bs.mergeSort (PySem.W.dataLe false (·.2))).map (·.1))), I.laid (t' := s.toks) (fun _ _ => PyProof.Rows.sortedAll_old) (Nat.le_succ _) ⟨hlen2, out, ep, eachB (R := fun u d => ∃ as, Reads s.heap u d as) eo, he'⟩, rfl, q _ (I.hok.fresh (Nat.le_succ _))⟩
/-- data compared -/
def rLtD (K : PySem.W.Frag) : R2 := fun x y H Q => ∃ d e, Dp K H x d ∧ Dp K H y e ∧ PySem.W.alike d e = true ∧ d ≠ .none ∧ d.depth ≤ 60 ∧ Q (.bl (PySem.W.dataLt d e)) H
def rLeD (K : PySem.W.Frag) : R2 := fun x y H Q => ∃ d e, Dp K H x d ∧ Dp K H y e ∧ PySem.W.alike d e = true ∧ d ≠ .none ∧ d.depth ≤ 60 ∧ Q (.bl (!PySem.W.dataLt e d)) H
theorem k_ltD0 (hu : X.A.units + 64 < cLine) : OpR X (compareOp .Lt) (rLtD X.K) := by
  intro pins s σ H x y v u Q I rx ry h
  obtain ⟨d, e, hd, he, ha, hn, hz, q⟩ := h
  obtain ⟨as, r1⟩ := Dp.reads I d x v hd rx
  obtain ⟨bs, r2⟩ := Dp.reads I e y u he ry
  exact PySem.W.rcLt_alike d e X.A s v u as bs r1 r2 ha hn (by have := Nat.min_le_left d.depth e.depth; omega) X.prog X.w X.xe (EP X pins σ Q) ⟨.bl _, H, I, rfl, q⟩
theorem k_leD0 (hu : X.A.units + 64 < cLine) : OpR X (compareOp .LtE) (rLeD X.K) := by
  intro pins s σ H x y v u Q I rx ry h
  obtain ⟨d, e, hd, he, ha, hn, hz, q⟩ := h
  obtain ⟨as, r1⟩ := Dp.reads I d x v hd rx
  obtain ⟨bs, r2⟩ := Dp.reads I e y u he ry
  exact PySem.W.rcLe_alike d e X.A s v u as bs r1 r2 ha hn (by have := Nat.min_le_left d.depth e.depth; omega) X.prog X.w X.xe (EP X pins σ Q) ⟨.bl _, H, I, rfl, q⟩
theorem k_sortX {K : PySem.W.Frag} (hu : X.A.units + 64 < cLine) (e : X.K = K) : CallR X (.builtin "sorted") (rSortX K) := e ▸ k_sortX0 hu
theorem k_ltD {K : PySem.W.Frag} (hu : X.A.units + 64 < cLine) (e : X.K = K) : OpR X (compareOp .Lt) (rLtD K) := e ▸ k_ltD0 hu
theorem k_leD {K : PySem.W.Frag} (hu : X.A.units + 64 < cLine) (e : X.K = K) : OpR X (compareOp .LtE) (rLeD K) := e ▸ k_leD0 hu
end
end Xk

/-! dicts whose keys are tuples: setdefault, sorted -/
namespace Xk
open PySem PySem.Spec PyProof.Rows L2
section
variable {X : Cx} {pins : List (Addr × Obj)} {σ : L2.St} {H : Hp} {s : Shared} {a b : Addr} {r : Value} {d : V} {k : List Key} {A : Around} {E : Value → Shared → Prop}
theorem d_setdT {kvs : List (List Key × V)} {Q : Value → Shared → Prop} (hu : A.units + 1 < cLine) (I : Inv X pins σ H s) (e : H a = some (.dT kvs)) (eb : H b = some (.tup (k.map kV))) (rd : RelV d r) (hl : kvs.length < sizeLine)
    (h1 : ∀ v, valV kvs k = some v → ∀ (w' : Value) (s' : Shared), Inv X pins σ H s' → RelV v w' → Q w' s') (h2 : valV kvs k = none → ∀ (w' : Value) (s' : Shared), Inv X pins σ (upd H a (.dT (putK kvs k d))) s' → RelV d w' → Q w' s') :
    wpAny (model X.prog X.w) A (call (.builtin "dict.setdefault") [.ref a, .ref b, r]) Q E s := by
  obtain ⟨z, hd, xs, rel, dd⟩ := dt_of I.hok e
  have hz : xs.length ≤ sizeLine := by rw [← Paired.length rel]; exact z
  refine call_setdefault_heap (knd := tupleKind (mixKind X.prog X.w)) (hsz := hz) (tupleKind_room_in1 hu) (key_of I.hok eb) hd dd (fun p hp => ?_) fun hn h' dd' hs => ?_
  · have q := rel.val k
    rw [hp] at q
    cases q0 : valV kvs k with
    | none =>
      rw [q0] at q
      exact (show False from q).elim
    | some v0 =>
      rw [q0] at q
      exact h1 v0 q0 _ _ (I.tok _) q
  · have q := rel.val k
    rw [hn] at q
    cases q0 : valV kvs k with
    | some v0 =>
      rw [q0] at q
      exact (show False from q).elim
    | none =>
      have hl2 : (putK kvs k d).length ≤ sizeLine := by
        have := length_putK kvs k d
        omega
      obtain ⟨q, es, ep, hq, g2, g3, g4, _, g5⟩ := dd'
      refine h2 q0 _ _ (d_write I (by rw [e]; exact True.intro) hs ⟨q, hq⟩ ⟨hl2, hd, _, (rel.put k eb rd).keeps fun c ys ec => ?_, q, es, ep, hq, g2, g3, g4, g5⟩) rd
      rw [upd_ne (ne_of ec e (fun z => nomatch z))]
      exact ec
end
/-- d.setdefault(y, z), tuple keys -/
def rDSetT (a : Addr) (y z : V) (Q : VK) (H3 : Hp) : Prop := ∃ (kvs : List (List Key × V)) (k : List Key) (b : Addr), H3 a = some (.dT kvs) ∧ y = .ref b ∧ H3 b = some (.tup (k.map kV)) ∧ kvs.length < sizeLine ∧
  (∀ v, valV kvs k = some v → Q v H3) ∧ (valV kvs k = none → Q z (upd H3 a (.dT (putK kvs k z))))
def tDSetT (td ty tx : TE) : TE := fun σ H Q => td σ H fun x H1 => ∃ a kvs, x = .ref a ∧ H1 a = some (.dT kvs) ∧ ty σ H1 fun y H2 => tx σ H2 fun z H3 => rDSetT a y z Q H3
section
variable {X : Cx} {o e f : Expr} {td ty tx : TE} {apos cpos : Pos}
theorem pe_dsetT (hu : X.A.units + 1 < cLine) (ho : PE X o td) (he : PE X e ty) (hf : PE X f tx) (m : M2 X o "setdefault" apos e f cpos) : PE X (.Call (.Attribute o "setdefault" apos) [e, f] [] cpos) (tDSetT td ty tx) := by
  refine ⟨fun pins s σ H Q I h => ?_⟩
  refine wpAny_Call_method m.base m.few m.line PySem.F.plainAttrs_dict PySem.F.slot_dict_setdefault PySem.F.type_dict_setdefault (thn (ho.run pins s σ H _ I h) fun u s1 ⟨x, H1, I1, rx, a, kvs, ex, d, q1⟩ => ?_)
  subst ex
  obtain rfl : u = Value.ref a := rx
  have hty : s1.TypeIs (.ref a) "dict" := by
    obtain ⟨_, _, xs, _, dd⟩ := dt_of I1.hok d
    exact dd.typeIs
  have hnd : ∀ b, Value.ref a = .ref b → ∃ ob, s1.heap.get? b = some ob ∧ ob.dict = none := fun b q => by
    cases q
    obtain ⟨_, _, xs, _, ob, _, _, h1, h2, _⟩ := dt_of I1.hok d
    exact ⟨ob, h1, h2.2.1⟩
  refine ⟨hty, hnd, ?_⟩
  rw [m.trees]
  refine Calls.callWith_builtin rfl (Calls.evalArgs_plain (Calls.spliced_cons (thn (he.run pins s1 σ H1 _ I1 q1) fun iv s2 ⟨y, H2, I2, ry, q2⟩ =>
    Calls.spliced_cons (thn (hf.run pins s2 σ H2 _ I2 q2) fun fv s3 ⟨z, H3, I3, rz, kvs, k, b, ea, ey, eb, hl, q3, q4⟩ => Calls.spliced_nil ?_))))
  subst ey
  obtain rfl : iv = Value.ref b := ry
  exact d_setdT hu I3 ea eb rz hl (fun v hv w' s4 I4 rw' => ⟨v, _, I4, rw', q3 v hv⟩) fun hn w' s4 I4 rw' => ⟨z, _, I4, rw', q4 hn⟩
end
/-- sorted(d), the keys tuples of ints: the keys' own tuples, ascending -/
def rSortT (xs : List V) (H : Hp) (Q : VK) : Prop := ∃ (d : Addr) (kvs : List (List Key × V)) (ks : List (List Int)), xs = [.ref d] ∧ H d = some (.dT kvs) ∧ kvs.map (·.1) = ks.map (fun k => k.map Sum.inl) ∧ (∀ k ∈ ks, k ≠ []) ∧ ks.length ≤ 1000 ∧
  ∀ (p : Addr) (zs : List (Addr × List Int)), H p = none → (zs.map (·.2)).Perm ks → (zs.map (·.2)).Pairwise (· ≤ ·) → (∀ z ∈ zs, H z.1 = some (.tup (z.2.map V.int))) → Q (.ref p) (upd H p (.lst (zs.map fun z => V.ref z.1)))
theorem kt_list {H : Hp} : ∀ {kvs : List (List Key × V)} {ts : List (List Key × Addr × Value)} {ks : List (List Int)}, KT H kvs ts → kvs.map (·.1) = ks.map (fun k => k.map Sum.inl) →
    ∃ L : List (Addr × List Int), L.map (·.1) = ts.map (fun x => x.2.1) ∧ L.map (·.2) = ks ∧ ∀ e ∈ L, H e.1 = some (.tup (e.2.map V.int))
  | [], _, ks, r, e => by
    cases r
    cases ks with
    | nil => exact ⟨[], rfl, rfl, fun e he => by cases he⟩
    | cons k r => cases e
  | p :: kvs, _, ks, r, e => by
    cases ks with
    | nil => cases e
    | cons k ks =>
      rw [List.map_cons, List.map_cons] at e
      injection e with e1 e2
      cases r with
      | @cons _ q _ qs h t =>
        obtain ⟨L, h1, h2, h3⟩ := kt_list t e2
        refine ⟨(q.2.1, k) :: L, by rw [List.map_cons, List.map_cons, h1], by rw [List.map_cons, h2], fun x hx => ?_⟩
        rcases List.mem_cons.mp hx with rfl | hx
        · have z := h.2.1
          rw [e1, List.map_map] at z
          exact z
        · exact h3 x hx
theorem reads_ints {h : Heap} : ∀ {ns : List Int} {us : List Value}, Vals (ns.map V.int) us → ReadsAll h us (ns.map PyData.int) []
  | [], _, r => by
    cases r
    exact .nil
  | n :: ns, _, r => by
    cases r with
    | cons r1 r2 =>
      obtain ⟨t, rfl⟩ := r1
      exact ReadsAll.cons (Reads.int n t) (reads_ints r2)
theorem tup_dataLe (x : Addr × List Int → List Int) : PySem.W.dataLe false (fun b : Addr × List Int => PyData.tuple ((x b).map .int)) = fun p q => decide (x p ≤ x q) := by
  rw [PySem.W.dataLe_eq]
  funext p q
  show (!PySem.W.dataLt _ _) = _
  rw [PySem.W.dataLt_tuple]
  have h := PySem.W.dataLt_ints (x q) (x p)
  unfold PySem.W.rowLt at h
  rw [h, ← decide_not]
  exact decide_eq_decide.mpr List.not_lt
section
variable {X : Cx}
theorem k_sortT (hcalm : X.calm = true) (hu : X.A.units + 64 < cLine) : CallR X (.builtin "sorted") rSortT := by
  intro pins s σ H xs us Q I r h
  obtain ⟨d, kvs, ks, rfl, hd, hks, hne, hl, q⟩ := h
  obtain ⟨u, rfl, rx⟩ := vals1 r
  cases rx
  obtain ⟨z, hs, ts, pr, o, es, ep, ho, hx, hdt, he, hn⟩ := (show ObjOk X.prog X.w H s.heap d (.dT kvs) from I.hok d _ hd)
  have l1 : es.size = ts.length := size_of_entries he
  have l2 : kvs.length = ts.length := Paired.length pr
  obtain ⟨L, hL1, hL2, hL3⟩ := kt_list pr hks
  have lL : L.length = ts.length := by
    have z := congrArg List.length hL1
    rw [List.length_map, List.length_map] at z
    exact z
  have lk : L.length ≤ 1000 := by
    have z := congrArg List.length hL2
    rw [List.length_map] at z
    omega
  have h16 : es.size ≤ sizeLine := by rw [l1, ← lL, sizeLine_eq]; omega
  refine Calls.call_function_entry PyProof.Rows.kind_sorted PyProof.Rows.plain_sorted PyProof.Rows.entry_sorted (PyProof.Rows.args_sorted1 _) ?_
  unfold Builtin.«sorted»
  refine wpAny_bind (m := checkCount "sorted" 1 1 _) (wpAny_pure ?_)
  refine wpAny_bind (PySem.W.kdu_collect (A := X.A.in1) (kdl_raw hs hx hdt) (I.ok.hd hcalm) ho h16 fun h' tk acc hk hacc => ?_)
  have ea : acc.toList = L.map fun x => Value.ref x.1 := by
    have hl : acc.toList.length = ts.length := by rw [Array.length_toList, hacc.1]; exact l1
    have e2 : (L.map fun x => Value.ref x.1) = ts.map fun x => Value.ref x.2.1 := by
      have z := congrArg (List.map Value.ref) hL1
      rw [List.map_map, List.map_map] at z
      exact z
    rw [e2]
    apply List.ext_getElem?
    intro j
    rw [List.getElem?_map]
    cases hj : acc.toList[j]? with
    | none =>
      have h1 := List.getElem?_eq_none_iff.mp hj
      rw [List.getElem?_eq_none (by omega)]
      all_goals rfl
    | some v =>
      obtain ⟨en, hen, hv⟩ := hacc.2 j v (by rw [← Array.getElem?_toList]; exact hj)
      have qe := entry_at he j
      rw [hen] at qe
      cases hb : ts[j]? with
      | none =>
        rw [hb] at qe
        exact nomatch (show some en = none from qe)
      | some b =>
        rw [hb] at qe
        have e2 : en = entryOfKey (tupleKind (mixKind X.prog X.w)) b := Option.some.inj qe
        rw [hv, e2]
        all_goals rfl
  have I1 : Inv X pins σ H { s with heap := h', toks := tk } := I.kept hk
  have hal : acc.toList.length = L.length := by rw [ea, List.length_map]
  refine wpAny_bind (wpAny_newList ?_ (by rw [hal, sizeLine_eq]; omega))
  have hoL : (h'.push (seqObj "list" acc.toList.toArray 0)).get? h'.objs.size = some (seqObj "list" acc.toList.toArray 0) := Heap.get?_push_size _ rfl
  show wpAny _ _ _ _ _ { s with heap := h'.push (seqObj "list" acc.toList.toArray 0), toks := tk }
  have er : PySem.W.EachIs (fun (v : Value) (b : Addr × List Int) => v = .ref b.1 ∧ ∃ as, Reads (h'.push (seqObj "list" acc.toList.toArray 0)) v (PyData.tuple (b.2.map .int)) as ∧ h'.objs.size ∉ as) acc.toList L := by
    rw [ea]
    have key : ∀ M : List (Addr × List Int), (∀ e ∈ M, H e.1 = some (.tup (e.2.map V.int))) → PySem.W.EachIs (fun (v : Value) (b : Addr × List Int) => v = .ref b.1 ∧ ∃ as, Reads (h'.push (seqObj "list" (L.map fun x => Value.ref x.1).toArray 0)) v (PyData.tuple (b.2.map .int)) as ∧ h'.objs.size ∉ as) (M.map fun x => Value.ref x.1) M := by
      intro M
      induction M with
      | nil => exact fun _ => .nil
      | cons e M ih =>
        intro hM
        refine .cons ⟨rfl, [], ?_, List.not_mem_nil⟩ (ih fun x hx => hM x (List.mem_cons_of_mem _ hx))
        obtain ⟨_, its, r, o, h1, h2, n, h3⟩ := (show ObjOk X.prog X.w H h' e.1 (.tup (e.2.map V.int)) from I1.hok _ _ (hM e (List.mem_cons_self ..)))
        exact Reads.tuple (Heap.get?_push_of_some _ h1) h2 h3 (by simpa using reads_ints r)
    exact key L hL3
  have enc1 : PySem.W.AllAlike (L.map fun b => PyData.tuple (b.2.map .int)) := PySem.W.AllAlike.of fun b b' => by
    show PySem.W.alikeAll _ _ = true
    exact PySem.W.alike_ints _ _
  have enc2 : PySem.W.Sortable (L.map fun b => PyData.tuple (b.2.map .int)) := .inl fun d hd => by
    obtain ⟨b, hb, rfl⟩ := List.mem_map.mp hd
    have hb2 : b.2 ≠ [] := hne _ (by rw [← hL2]; exact List.mem_map_of_mem (f := fun e : Addr × List Int => e.2) hb)
    cases e : b.2 with
    | nil => exact absurd e hb2
    | cons x r => exact ⟨_, _, rfl⟩
  refine wpAny_bind (wpAny_holding (PySem.W.list_sort_data (s := { s with heap := h'.push (seqObj "list" acc.toList.toArray 0), toks := tk }) (R := fun (v : Value) (b : Addr × List Int) => v = .ref b.1) (enc := fun b => PyData.tuple (b.2.map .int)) hoL (er.mono fun _ _ h => h.1) (er.mono fun _ _ h => h.2) enc1 enc2 (by rw [sizeLine_eq]; omega) (fun b _ => ?_) fun out ho2 eo => ?_))
  · have : (PyData.tuple (b.2.map .int)).depth = 1 := by
      rw [PyData.depth, PySem.W.depth_ints]
    have hA : X.A.in1.units ≤ X.A.units + 2 := by
      show _ ≤ _
      first
        | exact Nat.le_refl _
        | exact Nat.le_succ _
        | simp [Around.in1]
        | omega
    omega
  · obtain ⟨e', he'⟩ := PyProof.Rows.sortedHeap_at (vs := acc.toList) (out := out.toArray) hoL
    rw [tup_dataLe] at eo
    have perm : (L.mergeSort fun p q => decide (p.2 ≤ q.2)).Perm L := List.mergeSort_perm ..
    have ev : out = (L.mergeSort fun p q => decide (p.2 ≤ q.2)).map fun x => Value.ref x.1 := by
      have key : ∀ {o : List Value} {M : List (Addr × List Int)}, PySem.W.EachIs (fun (v : Value) (b : Addr × List Int) => v = .ref b.1) o M → o = M.map fun x => Value.ref x.1 := fun e => by
        induction e with
        | nil => rfl
        | cons h t ih => rw [List.map_cons, ← ih, h]
      exact key eo
    have pw : (L.mergeSort fun p q => decide (p.2 ≤ q.2)).Pairwise fun p q => p.2 ≤ q.2 := by
      refine (List.pairwise_mergeSort (fun a b c h1 h2 => ?_) (fun a b => ?_) L).imp fun h => of_decide_eq_true h
      · exact decide_eq_true (List.le_trans (of_decide_eq_true h1) (of_decide_eq_true h2))
      · rw [Bool.or_eq_true]
        rcases List.le_total a.2 b.2 with h | h
        · exact .inl (decide_eq_true h)
        · exact .inr (decide_eq_true h)
    generalize (L.mergeSort fun p q => decide (p.2 ≤ q.2)) = zs at *
    have lz : (zs.map fun z => V.ref z.1).length ≤ sizeLine := by rw [List.length_map, perm.length_eq, sizeLine_eq]; omega
    have vz : Vals (zs.map fun z => V.ref z.1) out := by
      rw [ev]
      have key := vals_refs (zs.map fun z => z.1)
      rw [List.map_map, List.map_map] at key
      exact key
    refine wpAny_pure ⟨_, rfl, .ref h'.objs.size, upd H h'.objs.size (.lst (zs.map fun z => V.ref z.1)), I1.laid (t' := tk) (fun b u e => ?_) (Nat.le_refl _)
      (show ObjOk X.prog X.w _ _ _ (.lst (zs.map fun z => V.ref z.1)) from ⟨lz, out, e', vz, he'⟩), rfl, q _ zs (I1.hok.fresh (Nat.le_refl _)) (by rw [← hL2]; exact perm.map _) (by rw [List.pairwise_map]; exact pw) fun z hz => hL3 z (perm.mem_iff.mp hz)⟩
    have hb : b < h'.objs.size := Heap.lt_size e
    rw [PyProof.Rows.sortedHeap_old (Nat.ne_of_lt hb) (by rw [size_push']; exact Nat.lt_succ_of_lt hb)]
    exact Heap.get?_push_of_some _ e
end
/-! ### set(xs) of a list of ints -/
abbrev nset (w : World) : Obj := { cls := .type "set", dict := none, data := .set #[] 0 (.fresh 0 0 (!w.params.followText "set-order")) }
section
variable {P : Program} {w : World} {A : Around} {E : Value → Shared → Prop} {s : Shared}
theorem madeI {l : Addr} {items : Array Value} {xs : List Int} {Q : Value → Shared → Prop} (hh : A.handled = none) (hl : s.heap.IsList l items) (hi : IntsAre items.toList xs) (room : xs.length + 1 < scanBound)
    (q : ∀ (h' : Heap) (tk c : Nat), SetR w h' s.heap.objs.size (fun j => decide (j ∈ xs)) c → c ≤ xs.length → (∀ b o, s.heap.get? b = some o → h'.get? b = some o) → Q (.ref s.heap.objs.size) { s with heap := h', toks := tk }) :
    wpAny (model P w) A (call (.type "set") [.ref l]) Q E s := by
  have isz : items.size = xs.length := by rw [← IntsAre.length hi, Array.length_toList]
  obtain ⟨c, tl, hmro⟩ := PySem.F.called_set.mro
  have g1 := PySem.F.called_set.made
  have g2 := PySem.F.called_set.sub
  have g3 := PySem.F.called_set.notType
  have g4 := PySem.F.called_set.canCreate
  have g5 := PySem.F.typeCall_set_1 (.ref l)
  refine wpAny_call (codeAny_of_tree ?_)
  show wpAny _ _ (callAny (.type "set") _) _ _ _
  refine wpAny_pure ⟨Code.quiet_builtin _ (by decide +kernel), codeAny_builtin PySem.F.entry_type_call ?_⟩
  rw [Around.under_plain (weight_type_call_type "set" [.ref l] []) rfl]
  repeat (any_goals (first | assumption | wp_step))
  refine codeAny_mono (code_set_led1 (.ref l) (E := E) (Q₁ := fun ob s₁ => ob = .ref s.heap.objs.size ∧ s₁ = { s with heap := s.heap.push (nset w) }) ⟨rfl, rfl⟩) fun r s₁ hr => ?_
  cases r with
  | error e => exact hr
  | ok fl =>
    cases fl with
    | ret ob =>
      obtain ⟨rfl, rfl⟩ := hr
      have hS : (s.heap.push (nset w)).get? s.heap.objs.size = some (nset w) := Heap.get?_push_size _ rfl
      have hT : Shared.TypeIs { s with heap := s.heap.push (nset w) } (.ref s.heap.objs.size) "set" := ⟨_, hS, rfl⟩
      have g6 := PySem.F.called_set.init.lookup
      have g7 := PySem.F.called_set.init.bind (.ref s.heap.objs.size)
      repeat (any_goals (first | assumption | wp_step))
      refine codeAny_mono (codeAny_call_builtin (R := wants (fun r s₂ => r = .none ∧ ∃ h' tk c, s₂ = { s with heap := h', toks := tk } ∧ SetR w h' s.heap.objs.size (fun j => decide (j ∈ xs)) c ∧ c ≤ xs.length ∧ ∀ b o, s.heap.get? b = some o → h'.get? b = some o) E)
        PySem.F.called_set.init.plain PySem.F.entry_set_init (check_set_init_1 hT ?_)) fun r₂ s₂ hr₂ => ?_
      · obtain ⟨⟨ocls, odict, odata, oslots⟩, hol, hcl, nl, hdl⟩ := hl
        simp only at hcl hdl
        subst hcl hdl
        have hol2 : (s.heap.push (nset w)).get? l = some { cls := .type "list", dict := odict, data := .seq items nl, slots := oslots } := Heap.get?_push_of_some _ hol
        have t1 := PySem.F.sub_list_set
        have t2 := PySem.F.sub_list_frozenset
        have t3 : (Value.type "list" == Value.type "dict") = false := by decide
        have hl1 : (s.heap.push (nset w)).IsList l items := ⟨_, hol2, rfl, nl, rfl⟩
        unfold Builtin.«set.__init__» noKeywords Builtin.Frozenset.updateFrom
        generalize hPI : pyIter = PI
        wp_walk
        subst hPI
        refine wpAny_pyIter_list hl1 (wpAny_bind (wpAny_runValue ?_))
        have lS : l < s.heap.objs.size := Heap.lt_size hol
        have h3 : A.in1.in1.in1.handled = none := by simp [hh]
        have z1 : (s.heap.push (nset w)).objs.size = s.heap.objs.size + 1 := Heap.size_push ..
        have nI : l ≠ (s.heap.push (nset w)).objs.size := by
          rw [z1]
          exact Nat.ne_of_lt (Nat.lt_succ_of_lt lS)
        have nS : s.heap.objs.size ∉ [(s.heap.push (nset w)).objs.size, l] := by
          rw [z1]
          simp only [List.mem_cons, List.not_mem_nil, or_false, not_or]
          exact ⟨Nat.ne_of_lt (Nat.lt_succ_self _), Nat.ne_of_gt lS⟩
        have vl : ∀ (i : Nat) (v : Value), items[i]? = some v → ∃ z u, xs[i]? = some z ∧ v = .int z u := fun i v hv => by
          obtain ⟨u, e⟩ := PyProof.Rows.IntsAre.int_at hi i v (by rw [Array.getElem?_toList]; exact hv)
          have lt : i < xs.length := by
            obtain ⟨b, _⟩ := Array.getElem?_eq_some_iff.mp hv
            omega
          exact ⟨xs.getD i 0, u, by rw [List.getD_eq_getElem?_getD, List.getElem?_eq_getElem lt]; rfl, e⟩
        refine set_update_ints ((Walks.list h3 _ l nI items).toS) s.heap.objs.size nS xs isz (by omega) vl (items.size - 0) 0 _ (by omega) (Nat.zero_le _) ⟨⟨_, Heap.get?_push_size _ rfl, rfl, rfl⟩, (hl1.push _)⟩ ?hS0 ?hR
        case hS0 => exact ⟨0, Nat.le_refl 0, setR_new_at (Heap.get?_push_of_some _ hS)⟩
        case hR =>
          rintro ⟨h', g', d', tk', os'⟩ c mv r2 r1
          obtain rfl : g' = s.gens := mv.gens
          obtain rfl : d' = s.drawn := mv.drawn
          obtain rfl : os' = s.os := mv.os
          show wpAny _ _ _ _ _ _
          refine wpAny_pure (wpAny_pure ⟨rfl, h', tk', c, rfl, r1, isz ▸ r2, fun b o e => ?_⟩)
          have lb := Heap.lt_size e
          refine mv.heap b o ?_ (Heap.get?_push_of_some _ (Heap.get?_push_of_some _ e))
          simp only [List.mem_cons, List.not_mem_nil, or_false, not_or]
          exact ⟨Nat.ne_of_lt lb, by rw [z1]; exact Nat.ne_of_lt (Nat.lt_succ_of_lt lb)⟩
      · cases r₂ with
        | error e => exact hr₂
        | ok fl₂ =>
          cases fl₂ with
          | ret r =>
            obtain ⟨rfl, h', tk, c, rfl, r1, r2, r3⟩ := hr₂
            repeat (any_goals (first | assumption | wp_step))
            exact q _ _ _ r1 r2 r3
          | _ => exact hr₂.elim
    | _ => exact hr.elim
end
def rSetOfL (K : PySem.W.Frag) (w : World) : List V → Hp → VK → Prop := fun vs H Q => ∃ (p : Addr) (ns : List Int), vs = [V.ref p] ∧ SqL K H p (ns.map V.int) ∧ ns.length ≤ 1000 ∧ ∀ a n, H a = none → n ≤ ns.length → Q (.ref a) (upd H a (SetO w a (fun j => decide (j ∈ ns)) n))
theorem cr_setOfL {X : Cx} (hc : X.calm = true) : CallR X (.type "set") (rSetOfL X.K X.w) := by
  intro pins s σ H xs us Q I r h
  obtain ⟨p0, ns, rfl, hq, hl, q⟩ := h
  cases r with
  | cons r rr =>
    cases rr
    cases r
    obtain ⟨its, rv, pt, hz⟩ := I.list hq
    have hi : IntsAre its.toArray.toList ns := ints_of_vals rv
    refine madeI (I.ok.hd hc) pt.isList hi (by unfold scanBound; omega) fun h' tk c R1 hcn k => ?_
    exact ⟨.ref _, upd H s.heap.objs.size (SetO X.w s.heap.objs.size (fun j => decide (j ∈ ns)) c), I.laid (t' := tk) k (Nat.le_refl _) (setO_new R1), rfl, q _ _ (I.hok.fresh (Nat.le_refl _)) hcn⟩
theorem k_setOfL {X : Cx} {K : PySem.W.Frag} {w : World} (hc : X.calm = true) (e : X.K = K) (e' : X.w = w) : CallR X (.type "set") (rSetOfL K w) := e ▸ e' ▸ cr_setOfL hc
theorem x_setOfL {K : PySem.W.Frag} {H : Hp} {Q : VK} {w : World} {p : Addr} {ns : List Int} (h : SqL K H p (ns.map V.int)) (hl : ns.length ≤ 1000) (k : ∀ a H2 n, Fr a H → Same H H2 → H2 a = some (SetO w a (fun j => decide (j ∈ ns)) n) → n ≤ ns.length → Q (.ref a) H2) : rSetOfL K w [.ref p] H Q :=
  ⟨p, ns, rfl, h, hl, fun a n h1 h2 => k a _ n ⟨h1⟩ (same_new h1) upd_same h2⟩
/-! ### list(d.values()) -/
def tListVals (td : TE) : TE := fun σ H Q => td σ H fun x H1 => ∃ a kvs, x = V.ref a ∧ H1 a = some (.dK kvs) ∧ ∀ p, H1 p = none → Q (.ref p) (upd H1 p (.lst (kvs.map (·.2))))
theorem vals_kv : ∀ {kvs : List (L2.Key × V)} {vs : List (L2.Key × Value)}, KV kvs vs → Vals (kvs.map (·.2)) (vs.map (·.2))
  | [], _, r => by
    cases r
    exact .nil
  | p :: kvs, _, r => by
    cases r with
    | cons h t => exact .cons h.2 (vals_kv t)
section
variable {X : Cx} {o : Expr} {p pos apos mpos : Pos} {td : TE}
theorem pe_listVals (hc : X.calm = true) (hg : Gl X "list") (hm : X.mg "list" = none) (hd : PE X o td) (hbase : attributeBase o "values" X.env (eval o X.env) = eval o X.env := by rfl) (hline : (apos.endLine == mpos.line) = true := by rfl)
    (hse : starEach [Expr.Call (.Attribute o "values" apos) [] [] mpos] X.env = [(false, eval (Expr.Call (.Attribute o "values" apos) [] [] mpos) X.env)] := by rfl) :
    PE X (.Call (.Name "list" p) [.Call (.Attribute o "values" apos) [] [] mpos] [] pos) (tListVals td) := by
  refine ⟨fun pins s σ H Q I h => ?_⟩
  refine wpAny_Call_Name_kw (ld_blt I hg hm (u := .type "list") (by first | rfl | decide +kernel) ?_ (by first | decide +kernel | decide) (by first | decide +kernel | decide))
  rw [hse]
  refine PySem.callWith_type1 (wpAny_Call_method0_late hbase hline (thn (hd.run pins s σ H _ I h) fun v s1 ⟨x, H1, I1, r1, a, kvs, ex, ha, q⟩ => ?_))
  subst ex
  obtain rfl : v = Value.ref a := r1
  obtain ⟨hz, hsys, vs, rel, dof⟩ := dk_of I1.hok ha
  obtain ⟨ep, dat⟩ := dof.dictAt
  have dat' := dat
  obtain ⟨ob, es, ho, ex, hdat, hko, hpr, hnd⟩ := dat'
  refine ⟨"dict", "dict.values", PySem.F.plainAttrs_dict, PySem.F.slot_dict_values, PySem.F.type_dict_values, ⟨ob, ho, ex.1⟩, fun b e => ?_, Calls.callWith_builtin rfl (PySem.evalArgs_none ?_)⟩
  · cases e
    exact ⟨ob, ho, ex.2.1⟩
  refine call_meetsIn PySem.F.slot_dict_values ⟨ob, ho, ex.1⟩ PySem.F.entry_dict_values (PySem.F.args_dict_values_1 _) (meets_dict_values (mixKind X.prog X.w) a hsys) ⟨⟨vs, dof⟩, ?_⟩
  have k1 : ∀ b u, s1.heap.get? b = some u → (s1.heap.push { cls := .type "dict_values", data := .fields #[.ref a] }).get? b = some u := fun b u e => Heap.get?_push_of_some _ e
  have dat1 : (s1.heap.push { cls := .type "dict_values", data := .fields #[.ref a] }).DictAt (mixKind X.prog X.w) a vs ep := dat.keep k1
  have hlv : vs.length = kvs.length := (KV.length rel).symm
  have hlt : a < s1.heap.objs.size := Heap.lt_size ho
  refine PySem.W.kdl_call (s := { s1 with heap := s1.heap.push { cls := .type "dict_values", data := .fields #[.ref a] } }) (PySem.W.kdl_values (knd := mixKind X.prog X.w) (r := s1.heap.objs.size) (d := a) (kvs := vs) (ep := ep)) (I.ok.hd hc) ⟨⟨_, Heap.get?_push_size _ rfl, rfl, rfl⟩, dat1⟩ (by rw [hlv]; exact hz) fun h' tk acc' c' kp e it => ?_
  have ea : acc'.toList = vs.map (·.2) := by
    have hl : acc'.toList.length = vs.length := by rw [Array.length_toList, it.1]
    apply List.ext_getElem?
    intro j
    rw [List.getElem?_map]
    cases hj : acc'.toList[j]? with
    | none =>
      have h1 := List.getElem?_eq_none_iff.mp hj
      rw [List.getElem?_eq_none (by omega)]
      rfl
    | some v =>
      obtain ⟨k, hk⟩ := it.2 j v (by rw [← Array.getElem?_toList]; exact hj)
      rw [hk]
      rfl
  have hsz : (s1.heap.push { cls := .type "dict_values", data := .fields #[.ref a] }).objs.size = s1.heap.objs.size + 1 := Heap.size_push _ _
  have rv : Vals (kvs.map (·.2)) acc'.toList := by
    rw [ea]
    exact vals_kv rel
  refine ⟨.ref _, upd H1 (s1.heap.push { cls := .type "dict_values", data := .fields #[.ref a] }).objs.size (.lst (kvs.map (·.2))), I1.laid (t' := tk) (fun b u e => kp b u (k1 b u e)) (by rw [hsz]; exact Nat.le_succ _) ⟨by rw [List.length_map]; exact hz, acc'.toList, c', rv, by rw [Array.toArray_toList]; exact e⟩, rfl, q _ (I1.hok.fresh (by rw [hsz]; exact Nat.le_succ _))⟩
end
end Xk

namespace Xk
open PySem PySem.Spec PyProof.Rows L2
section
variable {X : Cx}
/-- max(xs) of a list of data of one shape, not empty: an item whose data is the greatest -/
def rMaxX (K : PySem.W.Frag) : List V → Hp → VK → Prop := fun vs H Q => ∃ (a : Addr) (b : V × PyData) (bs : List (V × PyData)), vs = [V.ref a] ∧ SqL K H a ((b :: bs).map (·.1)) ∧ (∀ c ∈ b :: bs, Dp K H c.1 c.2 ∧ c.2.depth ≤ 9) ∧
  PySem.W.AlikeAll ((b :: bs).map (·.2)) ∧ ∀ c ∈ b :: bs, c.2 = PySem.W.maxD b.2 (bs.map (·.2)) → Q c.1 H
theorem readsAll_of {h : Heap} : ∀ {its : List Value} {bs : List (V × PyData)}, PySem.W.EachIs (fun u (b : V × PyData) => RelV b.1 u ∧ ∃ as, Reads h u b.2 as) its bs → ∃ as, ReadsAll h its (bs.map (·.2)) as
  | _, _, .nil => ⟨_, .nil⟩
  | _, _, .cons h t => by
    obtain ⟨_, _, r⟩ := h
    obtain ⟨_, rs⟩ := readsAll_of t
    exact ⟨_, .cons r rs⟩
theorem each_at {R : Value → V × PyData → Prop} : ∀ {its : List Value} {bs : List (V × PyData)} {i : Nat} {u : Value}, PySem.W.EachIs R its bs → its[i]? = some u → ∃ b ∈ bs, R u b
  | _, _, _, _, .nil, e => by cases e
  | _, _, 0, _, .cons h _, e => ⟨_, List.mem_cons_self .., Option.some.inj (show some _ = some _ from e) ▸ h⟩
  | _, _, i + 1, _, .cons _ t, e => by
    obtain ⟨b, hb, r⟩ := each_at (i := i) t (by simpa using e)
    exact ⟨b, List.mem_cons_of_mem _ hb, r⟩
theorem depth9 : ∀ {bs : List (V × PyData)}, (∀ c ∈ bs, c.2.depth ≤ 9) → PyData.depthAll (bs.map (·.2)) ≤ 9
  | [], _ => Nat.zero_le _
  | b :: r, h => Nat.max_le.mpr ⟨h b (List.mem_cons_self ..), depth9 fun c hc => h c (List.mem_cons_of_mem _ hc)⟩
theorem k_maxX0 (hc : X.calm = true) (hu : X.A.units + 64 < cLine) : CallR X (.builtin "max") (rMaxX X.K) := by
  intro pins s σ H vs us Q I r h
  obtain ⟨a, b, bs, rfl, hs, hd, hal, q⟩ := h
  obtain ⟨its, rv, hl, hz⟩ := I.list hs
  rw [Vals.ref1 r]
  have e := eachV (R := fun u d => ∃ as, Reads s.heap u d as) rv fun c hc u ru => Dp.reads I c.2 c.1 u (hd c hc).1 ru
  obtain ⟨as, ra⟩ := readsAll_of e
  have dp := depth9 fun c hc => (hd c hc).2
  refine PySem.W.max_list_data (I.ok.hd hc) hl.isList (x := b.2) (xs := bs.map fun c : V × PyData => c.2) (as := as) (by simpa using ra) hal (by have dp' : PyData.depthAll (b.2 :: bs.map (·.2)) ≤ 9 := dp; omega) fun i v h' tk bs' hv rd hk => ?_
  obtain ⟨c, hc', r1, as1, r2⟩ := each_at e (by simpa using hv)
  have ed := (PyProof.Rows.reads_det (fun b o e _ => hk b o e) r2 rd).1
  exact ⟨c.1, H, I.kept hk, r1, q c hc' ed.symm⟩
theorem k_maxX {K : PySem.W.Frag} (hc : X.calm = true) (hu : X.A.units + 64 < cLine) (e : X.K = K) : CallR X (.builtin "max") (rMaxX K) := e ▸ k_maxX0 hc hu
theorem setR_le {w : World} {h : Heap} {a : Addr} {S : Int → Bool} {n : Nat} (R : SetR w h a S n) {ms : List Int} (hs : ∀ k, S k = true → k ∈ ms) : n ≤ ms.length := by
  obtain ⟨o, es, ep, t, _, _, _, _, nd, mem, _, _, rfl, _⟩ := R
  have z := nd.length_le_of_subset (l₂ := ms) fun k hk => hs k ((mem k).mpr hk)
  rw [List.length_map, Array.length_toList] at z
  exact z
def rSetOfM (K : PySem.W.Frag) (w : World) : List V → Hp → VK → Prop := fun vs H Q => ∃ (p : Addr) (ns : List Int), vs = [V.ref p] ∧ SqL K H p (ns.map V.int) ∧ ns.length ≤ 1000 ∧ ∀ a n, H a = none → (∀ ms : List Int, (∀ x ∈ ns, x ∈ ms) → n ≤ ms.length) → Q (.ref a) (upd H a (SetO w a (fun j => decide (j ∈ ns)) n))
theorem cr_setOfM (hc : X.calm = true) : CallR X (.type "set") (rSetOfM X.K X.w) := by
  intro pins s σ H xs us Q I r h
  obtain ⟨p0, ns, rfl, hq, hl, q⟩ := h
  cases r with
  | cons r rr =>
    cases rr
    cases r
    obtain ⟨its, rv, pt, hz⟩ := I.list hq
    have hi : IntsAre its.toArray.toList ns := ints_of_vals rv
    refine madeI (I.ok.hd hc) pt.isList hi (by unfold scanBound; omega) fun h' tk c R1 hcn k => ?_
    exact ⟨.ref _, upd H s.heap.objs.size (SetO X.w s.heap.objs.size (fun j => decide (j ∈ ns)) c), I.laid (t' := tk) k (Nat.le_refl _) (setO_new R1), rfl, q _ _ (I.hok.fresh (Nat.le_refl _)) fun ms hm => setR_le R1 fun k hk => hm k (of_decide_eq_true hk)⟩
theorem k_setOfM {K : PySem.W.Frag} {w : World} (hc : X.calm = true) (e : X.K = K) (e' : X.w = w) : CallR X (.type "set") (rSetOfM K w) := e ▸ e' ▸ cr_setOfM hc
theorem x_setOfM {K : PySem.W.Frag} {H : Hp} {Q : VK} {w : World} {p : Addr} {ns : List Int} (h : SqL K H p (ns.map V.int)) (hl : ns.length ≤ 1000) (k : ∀ a H2 n, Fr a H → Same H H2 → H2 a = some (SetO w a (fun j => decide (j ∈ ns)) n) → (∀ ms : List Int, (∀ x ∈ ns, x ∈ ms) → n ≤ ms.length) → Q (.ref a) H2) : rSetOfM K w [.ref p] H Q :=
  ⟨p, ns, rfl, h, hl, fun a n h1 h2 => k a _ n ⟨h1⟩ (same_new h1) upd_same h2⟩
theorem k_slT {K : PySem.W.Frag} (e : X.K = K) : SlR X (rSlA K) := e ▸ sl_tupA
theorem k_catT {K : PySem.W.Frag} (e : X.K = K) : OpR X (binaryOp .Add) (rCatA K) := e ▸ op_catA
end
/-! e.f op= value -/
def rFldA (K : PySem.W.Frag) (tv : TE) (rd : V → V → Hp → VK → Prop) (f : Str) (σ : L2.St) (R : Hp → Prop) : VK := fun x H1 => ∃ a C dx fs v, x = .ref a ∧ H1 a = some (.ins C dx fs) ∧ Cls K C ∧ NoAttr K C f ∧ fs.lookup f = some v ∧
  tv σ H1 fun y H2 => rd v y H2 fun z H3 => ∃ dx' fs', H3 a = some (.ins C dx' fs') ∧ fs'.length < 1000 ∧ R (upd H3 a (.ins C dx' (putF f z fs')))
theorem x_sfldaug {K : PySem.W.Frag} {ta tv : TE} {rd : V → V → Hp → VK → Prop} {f : Str} {D : Ends} {σ : L2.St} {H : Hp} (q : ta σ H (rFldA K tv rd f σ (D.nx σ))) : sFldAug K ta tv rd f D σ H := q
theorem x_ssfldaug {K : PySem.W.Frag} {ta tv : TE} {rd : V → V → Hp → VK → Prop} {f : Str} {D : Ends} {σ : L2.St} {H : Hp} {tz : TS} (q : ta σ H (rFldA K tv rd f σ fun H2 => tz D σ H2)) : tSeq (sFldAug K ta tv rd f) tz D σ H := q
end Xk

/-! what is never reached; len of a text or a tuple; n *= 128; "".join -/
namespace Xk
open PySem PySem.Spec PyProof.Rows L2
section
variable {X : Cx} {K : PySem.W.Frag} {σ : L2.St} {H : Hp} {Q : VK}
def tNever : TS := fun _ _ _ => False
theorem ps_never {st : Stmt} : PS X st tNever := ⟨fun _ _ _ _ _ _ h => h.elim⟩
def nLenX (K : PySem.W.Frag) : List V → Hp → VK → Prop := fun xs H Q => nLenS xs H Q ∨ nLen K xs H Q
theorem k_lenX (e : X.K = K) : CallR X (.builtin "len") (nLenX K) := fun pins s σ H xs us Q I hv h => by
  rcases h with h | h
  · exact call_nLenS pins s σ H xs us Q I hv h
  · exact k_len e pins s σ H xs us Q I hv h
theorem x_lenXS {z : Str} (h : z.length ≤ 100000) (q : Q (.int z.length) H) : nLenX K [.str z] H Q := .inl (x_nLenS h q)
theorem x_lenXT {p : Addr} {ys : List V} (h : SqT K H p ys) (q : Q (.int ys.length) H) : nLenX K [.ref p] H Q := .inr ⟨p, ys, rfl, .inr h, q⟩
/-- n *= 128 -/
def ip128 : TIp := fun x y H Q => ∃ i, x = .int i ∧ y = .int 128 ∧ Q (.int (i * 128)) H
theorem ip_mul128 : PIp X .Mult ip128 := by
  intro pins s σ H x y v u Q I r1 r2 h
  obtain ⟨i, e1, e2, q⟩ := h
  subst e1
  subst e2
  obtain ⟨t, rfl⟩ := r1
  obtain ⟨t2, rfl⟩ := r2
  exact imul_int ⟨.int _, H, I.tok _, ⟨_, rfl⟩, q⟩ (IntMulOk.of_right (by decide))
theorem x_ip128 {i : Int} (q : Q (.int (i * 128)) H) : ip128 (.int i) (.int 128) H Q := ⟨i, rfl, rfl, q⟩
/-- sep.join(texts) -/
def rJoin (K : PySem.W.Frag) (x : V) (xs : List V) (H : Hp) (Q : VK) : Prop := ∃ a p, ∃ ys : List Str, x = .str a ∧ xs = [.ref p] ∧ (SqL K H p (ys.map V.str) ∨ SqT K H p (ys.map V.str)) ∧ (ys.map (·.length)).sum + ys.length * a.length ≤ 16777216 ∧ Q (.str (Txt.join a ys)) H
theorem k_join (e : X.K = K) : MtR X "str.join" (rJoin K) := e ▸ mt_join
end
end Xk

/-! o.m() where m is an attribute of the instance that holds a function of the program -/
namespace Xk
open PySem PySem.Spec PyProof.Rows L2
theorem getfn_ok {X : Cx} {pins : List (Addr × Obj)} {σ : L2.St} {H : Hp} {s : Shared} {A : Around} {E : Value → Shared → Prop} {a C dx : Addr} {fs : List (Str × V)} {m : Str} {v : V} {pl : Sem Bool} {Q : Value × List Value → Shared → Prop} (I : Inv X pins σ H s) (e : H a = some (.ins C dx fs)) (c : Cls X.K C) (n : NoAttr X.K C m) (l : fs.lookup m = some v)
    (h : ∀ u s', Inv X pins σ H s' → RelV v u → Q (u, []) s') : wpAny (model X.prog X.w) A (getMethod (.ref a) m pl) Q E s := by
  obtain ⟨mA, O, r, _, _, _⟩ := ins_get I.hok e
  obtain ⟨od, J, hl⟩ := O.look
  exact PySem.W.method_usual (r := none) I.kIn J (PySem.W.plainGet_of c.pg).1 (PySem.W.plainGet_of c.pg).2 n rfl (getattr_ok I e c n l fun u s' I' ru => h u s' I' ru)
def tFnF (K : PySem.W.Frag) (m : Str) (f : Addr) (sp : Sp) (E : XK) (ta : TE) : TE := fun σ H Q => ta σ H fun x H1 => ∃ a C dx fs, x = .ref a ∧ H1 a = some (.ins C dx fs) ∧ Cls K C ∧ NoAttr K C m ∧ fs.lookup m = some (.ref f) ∧ sp [] H1 Q E
theorem pe_fnF0 {X : Cx} {CT : CXT} {k : Nat} {f : Addr} {fd : FuncData} {sp : Sp} {E : XK} {m : Str} {o : Expr} {ta : TE} {apos pos : Pos} {pl : Sem Bool} (he : PE X o ta) (F : FnOk X.prog X.w X.K X.mg X.base CT k f fd [] sp) (hr : Room k X.A) (hk : PySem.W.keepIn X.K (.ref f) = true) (hb : Binds X.K fd [] []) (hx : Passes CT X E)
    (ht : eval (.Call (.Attribute o m apos) [] [] pos) X.env = (do
      let ov ← eval o X.env
      standAt apos.atName
      let (f, first) ← holding [ov] (getMethod ov m pl)
      callWith pos f first (backTo pos (starEach [] X.env)) (backToKw pos (keywordEach [] X.env))) := by rfl) :
    PE X (.Call (.Attribute o m apos) [] [] pos) (tFnF X.K m f sp E ta) := by
  refine ⟨fun pins s σ H Q I h => ?_⟩
  refine PySem.W.methodCall_KW (pl := pl) (thn (he.run pins s σ H _ I h) fun u s1 ⟨x, H1, I1, rx, a, C, dx, fs, ex, ea, c, n, l, q⟩ => ?_) ht
  subst ex
  obtain rfl : u = Value.ref a := rx
  refine getfn_ok I1 ea c n l fun u s2 I2 ru => ?_
  obtain rfl : u = Value.ref f := ru
  exact PySem.W.callWith_K0 (first := []) I2.kIn hk (run_fn (us := []) (vs := []) F hr hb .nil hx I2 .nil q)
def rFnF (K : PySem.W.Frag) (m : Str) (f : Addr) (sp : Sp) (E : XK) (Q : VK) : VK := fun x H1 => ∃ a C dx fs, x = .ref a ∧ H1 a = some (.ins C dx fs) ∧ Cls K C ∧ NoAttr K C m ∧ fs.lookup m = some (.ref f) ∧ sp [] H1 Q E
theorem x_fnF {K : PySem.W.Frag} {m : Str} {f : Addr} {sp : Sp} {E : XK} {ta : TE} {σ : L2.St} {H : Hp} {Q : VK} (q : ta σ H (rFnF K m f sp E Q)) : tFnF K m f sp E ta σ H Q := q
theorem x_rFnF {K : PySem.W.Frag} {m : Str} {f : Addr} {sp : Sp} {E : XK} {H : Hp} {Q : VK} {a C dx : Addr} {fs : List (Str × V)} (h : H a = some (.ins C dx fs)) (c : Cls K C) (n : NoAttr K C m) (l : fs.lookup m = some (.ref f)) (q : sp [] H Q E) : rFnF K m f sp E Q (.ref a) H := ⟨a, C, dx, fs, rfl, h, c, n, l, q⟩
end Xk

/-! many mutable objects at once: each place has a ghost pair, its zone and its role there -/
namespace Xk
open PySem PySem.Spec PyProof.Rows L2
abbrev TgF := Addr → Nat × Nat
structure Tg (tg : TgF) (a : Addr) (z i : Nat) : Prop where
  is : tg a = (z, i)
theorem tg_ne {tg : TgF} {a b : Addr} {z i j : Nat} (ha : Tg tg a z i) (hb : Tg tg b z j) (h : i ≠ j) : a ≠ b := fun e => by
  subst e
  exact h (congrArg Prod.snd (ha.is.symm.trans hb.is))
theorem tg_nz {tg : TgF} {a b : Addr} {z y i j : Nat} (ha : Tg tg a z i) (hb : Tg tg b y j) (h : z ≠ y) : a ≠ b := fun e => by
  subst e
  exact h (congrArg Prod.fst (ha.is.symm.trans hb.is))
/-- the zone of a place is not nobody's only where something stands -/
def Occ (tg : TgF) (H : Hp) : Prop := ∀ b, (tg b).1 ≠ 0 → ∃ o, H b = some o
theorem Occ.same {tg : TgF} {H H' : Hp} (h : Occ tg H) (s : Same H H') : Occ tg H' := fun b hb => by
  obtain ⟨o, ho⟩ := h b hb
  exact ⟨o, s _ _ ho⟩
theorem Occ.upd {tg : TgF} {H : Hp} (h : Occ tg H) {a : Addr} {o : HO} : Occ tg (upd H a o) := fun b hb => by
  by_cases e : b = a
  · subst e
    exact ⟨_, upd_same⟩
  · obtain ⟨o, ho⟩ := h b hb
    exact ⟨o, (upd_ne e).trans ho⟩
def tgU (tg : TgF) (p : Addr) (z i : Nat) : TgF := fun b => if b = p then (z, i) else tg b
theorem tgU_same {tg : TgF} {p : Addr} {z i : Nat} : Tg (tgU tg p z i) p z i := ⟨if_pos rfl⟩
theorem tgU_ne {tg : TgF} {p a : Addr} {z i y j : Nat} (n : a ≠ p) (h : Tg tg a y j) : Tg (tgU tg p z i) a y j := ⟨(if_neg n).trans h.is⟩
theorem Occ.new {tg : TgF} {H : Hp} (h : Occ tg H) {p : Addr} {o : HO} {z i : Nat} (hp : H p = some o) : Occ (tgU tg p z i) H := fun b hb => by
  by_cases e : b = p
  · subst e
    exact ⟨_, hp⟩
  · refine h b ?_
    unfold tgU at hb
    rw [if_neg e] at hb
    exact hb
/-- what may change where the zone z does something -/
structure Mv (z : Nat) (K : PySem.W.Frag) (tg tg' : TgF) (H H' : Hp) : Prop where
  un : ∀ b o, (tg b).1 ≠ z → H b = some o → H' b = some o
  st : St K H H'
  nw : ∀ b, tg' b = tg b ∨ ((tg' b).1 = z ∧ ((tg b).1 = z ∨ H b = none))
  oc : Occ tg H → Occ tg' H'
section
variable {z : Nat} {K : PySem.W.Frag} {tg tg' tg'' : TgF} {H H' H'' : Hp} {a p : Addr} {o o' : HO}
theorem Mv.refl : Mv z K tg tg H H := ⟨fun _ _ _ h => h, St.refl _, fun _ => .inl rfl, fun h => h⟩
theorem Mv.same (s : Same H H') : Mv z K tg tg H H' := ⟨fun _ _ _ h => s _ _ h, tt_same s, fun _ => .inl rfl, fun h => h.same s⟩
theorem Mv.trans (m : Mv z K tg tg' H H') (m' : Mv z K tg' tg'' H' H'') : Mv z K tg tg'' H H'' := by
  refine ⟨fun b o hb h => ?_, m.st.trans m'.st, fun b => ?_, fun h => m'.oc (m.oc h)⟩
  · refine m'.un b o (fun e => ?_) (m.un b o hb h)
    rcases m.nw b with q | ⟨q, q2 | q2⟩
    · exact hb (q ▸ e)
    · exact hb q2
    · rw [q2] at h
      cases h
  · rcases m'.nw b with q | ⟨e, q | q⟩
    · rw [q]
      exact m.nw b
    · rcases m.nw b with r | ⟨_, r⟩
      · exact .inr ⟨e, .inl (r ▸ q)⟩
      · exact .inr ⟨e, r⟩
    · by_cases hz : (tg b).1 = z
      · exact .inr ⟨e, .inl hz⟩
      · cases hb : H b with
        | none => exact .inr ⟨e, .inr rfl⟩
        | some u =>
          have := m.un b u hz hb
          rw [q] at this
          cases this
theorem st_upd (h : H a = some o) (h1 : ∀ xs, o ≠ .tup xs) (h2 : ∀ u xs, o ≠ .frz u (.tup xs)) : St K H (upd H a o') := tt_but h h1 h2 (but_mut (But.refl _ _))
theorem st_updL {xs : List V} (h : H a = some (.lst xs)) : St K H (upd H a o') := st_upd h (fun _ e => by cases e) (fun _ _ e => by cases e)
theorem st_updI {C dx : Addr} {fs : List (Str × V)} (h : H a = some (.ins C dx fs)) : St K H (upd H a o') := st_upd h (fun _ e => by cases e) (fun _ _ e => by cases e)
theorem st_updD {kvs : List (Key × V)} (h : H a = some (.dK kvs)) : St K H (upd H a o') := st_upd h (fun _ e => by cases e) (fun _ _ e => by cases e)
/-- what is no tuple -/
def mutO : HO → Bool
  | .lst _ => true
  | .ins _ _ _ => true
  | .dK _ => true
  | _ => false
theorem Mv.upd {i : Nat} (t : Tg tg a z i) (h : H a = some o) (k : mutO o = true := by rfl) : Mv z K tg tg H (L2.upd H a o') := by
  refine ⟨fun b u hb e => (upd_ne fun q => hb (by rw [q, t.is])).trans e, ?_, fun _ => .inl rfl, fun x => x.upd⟩
  refine st_upd h (fun xs e => ?_) (fun u xs e => ?_)
  · rw [e] at k
    cases k
  · rw [e] at k
    cases k
theorem Mv.new {i : Nat} (s : Same H H') (f : Fr p H) (h : H' p = some o) : Mv z K tg (tgU tg p z i) H H' := by
  refine ⟨fun b u _ e => s _ _ e, tt_same s, fun b => ?_, fun x => (x.same s).new h⟩
  by_cases e : b = p
  · subst e
    exact .inr ⟨congrArg Prod.fst tgU_same.is, .inr f.is⟩
  · exact .inl (if_neg e)
theorem Mv.but {i : Nat} (t : Tg tg p z i) (h : H p = some o) (b : But p H H') (h' : H' p = some o') (k : mutO o = true := by rfl) : Mv z K tg tg H H' := by
  refine ⟨fun c u hc e => b _ _ (fun q => hc (by rw [q, t.is])) e, ?_, fun _ => .inl rfl, fun x c hc => ?_⟩
  · refine tt_but h (fun xs e => ?_) (fun u xs e => ?_) b
    · rw [e] at k
      cases k
    · rw [e] at k
      cases k
  · by_cases q : c = p
    · subst q
      exact ⟨_, h'⟩
    · obtain ⟨u, hu⟩ := x c hc
      exact ⟨u, b _ _ q hu⟩
theorem Mv.tag {i : Nat} (m : Mv z K tg tg' H H') (f : Fr p H) (h : H' p = some o) : Mv z K tg (tgU tg' p z i) H H' := by
  refine ⟨m.un, m.st, fun b => ?_, fun x => (m.oc x).new h⟩
  by_cases e : b = p
  · subst e
    exact .inr ⟨congrArg Prod.fst tgU_same.is, .inr f.is⟩
  · rw [show tgU tg' p z i b = tg' b from if_neg e]
    exact m.nw b
theorem Mv.but2 {x y : Addr} {o1 o2 o1' o2' : HO} {i j : Nat} (tx : Tg tg x z i) (ty : Tg tg y z j) (hx : H x = some o1) (hy : H y = some o2) (b : ∀ c u, c ≠ x → c ≠ y → H c = some u → H' c = some u) (h1 : H' x = some o1') (h2 : H' y = some o2') (k1 : mutO o1 = true := by rfl) (k2 : mutO o2 = true := by rfl) : Mv z K tg tg H H' := by
  refine ⟨fun c u hc e => b _ _ (fun q => hc (by rw [q, tx.is])) (fun q => hc (by rw [q, ty.is])) e, ⟨fun c xs h => ?_⟩, fun _ => .inl rfl, fun f c hc => ?_⟩
  · have no : ∀ (w : Addr) (o : HO) (u : HO), mutO o = true → H w = some o → (∀ q, mutO q = true → q ≠ u) → H c = some u → c ≠ w := fun w o u k hw hn hc e => by
      subst e
      rw [hw] at hc
      cases hc
      exact hn _ k rfl
    have nt : ∀ q, mutO q = true → q ≠ .tup xs := fun q k e => by
      subst e
      cases k
    have nf : ∀ v q, mutO q = true → q ≠ .frz v (.tup xs) := fun v q k e => by
      subst e
      cases k
    rcases h with (h | ⟨u, h⟩) | h
    · exact .inl (.inl (b c _ (no x o1 _ k1 hx nt h) (no y o2 _ k2 hy nt h) h))
    · exact .inl (.inr ⟨u, b c _ (no x o1 _ k1 hx (nf u) h) (no y o2 _ k2 hy (nf u) h) h⟩)
    · exact .inr h
  · by_cases q : c = x
    · subst q
      exact ⟨_, h1⟩
    · by_cases q2 : c = y
      · subst q2
        exact ⟨_, h2⟩
      · obtain ⟨u, hu⟩ := f c hc
        exact ⟨u, b _ _ q q2 hu⟩
/-- what stands in another zone stays, with its pair -/
theorem Mv.at_ {y i : Nat} (m : Mv z K tg tg' H H') (n : y ≠ z) (t : Tg tg a y i) (h : H a = some o) : H' a = some o ∧ Tg tg' a y i := by
  refine ⟨m.un _ _ (by rw [t.is]; exact n) h, ?_⟩
  rcases m.nw a with q | ⟨_, q | q⟩
  · exact ⟨q.trans t.is⟩
  · exact absurd ((congrArg Prod.fst t.is).symm.trans q) n
  · rw [q] at h
    cases h
theorem Mv.keep (m : Mv z K tg tg' H H') (hz : z ≠ 0) (t : (tg a).1 = 0) (h : H a = some o) : H' a = some o ∧ (tg' a).1 = 0 := by
  refine ⟨m.un _ _ (by rw [t]; exact fun e => hz e.symm) h, ?_⟩
  rcases m.nw a with q | ⟨_, q | q⟩
  · rw [q]
    exact t
  · exact absurd (t.symm.trans q) (fun e => hz e.symm)
  · rw [q] at h
    cases h
/-! cells: places, what stands there, their roles -/
abbrev Cell := Addr × HO × Nat
structure Lay (z : Nat) (tg : TgF) (H : Hp) (L : List Cell) : Prop where
  all : ∀ c ∈ L, H c.1 = some c.2.1 ∧ Tg tg c.1 z c.2.2
  nd : (L.map (·.2.2)).Nodup
variable {L : List Cell} {i t : Nat}
theorem Lay.get (h : Lay z tg H L) (e : L[i]? = some (a, o, t)) : H a = some o ∧ Tg tg a z t := h.all _ (List.mem_of_getElem? e)
theorem Lay.same (h : Lay z tg H L) (s : Same H H') : Lay z tg H' L := ⟨fun c hc => ⟨s _ _ (h.all c hc).1, (h.all c hc).2⟩, h.nd⟩
theorem Lay.mv {y : Nat} (h : Lay z tg H L) (m : Mv y K tg tg' H H') (n : z ≠ y) : Lay z tg' H' L := ⟨fun c hc => m.at_ n (h.all c hc).2 (h.all c hc).1, h.nd⟩
theorem Lay.but (h : Lay z tg H L) (b : But p H H') (hz : z ≠ 0) (t : (tg p).1 = 0) : Lay z tg H' L := ⟨fun c hc => ⟨b _ _ (fun e => hz (by rw [← t, ← e, (h.all c hc).2.is])) (h.all c hc).1, (h.all c hc).2⟩, h.nd⟩
theorem set_roles {L : List Cell} {i : Nat} {a b : Addr} {o o' : HO} {t : Nat} (e : L[i]? = some (a, o, t)) : (L.set i (b, o', t)).map (·.2.2) = L.map (·.2.2) := by
  rw [List.map_set]
  apply List.ext_getElem?
  intro j
  rw [List.getElem?_set]
  by_cases q : i = j
  · subst q
    rw [if_pos rfl, List.getElem?_map, e, List.length_map, if_pos (List.getElem?_eq_some_iff.mp e).1]
    rfl
  · rw [if_neg q]
theorem mem_set {α : Type} {L : List α} {i : Nat} {x y : α} (h : y ∈ L.set i x) : y = x ∨ ∃ j, j ≠ i ∧ L[j]? = some y := by
  obtain ⟨j, hj⟩ := List.mem_iff_getElem?.mp h
  rw [List.getElem?_set] at hj
  by_cases q : i = j
  · rw [if_pos q] at hj
    split at hj
    · exact .inl (Option.some.inj hj).symm
    · cases hj
  · rw [if_neg q] at hj
    exact .inr ⟨j, Ne.symm q, hj⟩
theorem nd_ne {L : List Cell} (h : (L.map (·.2.2)).Nodup) {i j : Nat} {c d : Cell} (hi : L[i]? = some c) (hj : L[j]? = some d) (n : i ≠ j) : c.2.2 ≠ d.2.2 := fun e => by
  refine n ?_
  have h1 : (L.map (·.2.2))[i]? = some c.2.2 := by rw [List.getElem?_map, hi]; rfl
  have h2 : (L.map (·.2.2))[j]? = some c.2.2 := by rw [List.getElem?_map, hj, e]; rfl
  exact (List.getElem?_inj (List.getElem?_eq_some_iff.mp h1).1 h).mp (h1.trans h2.symm)
/-- a place written anew -/
theorem Lay.upd (h : Lay z tg H L) (e : L[i]? = some (a, o, t)) : Lay z tg (L2.upd H a o') (L.set i (a, o', t)) := by
  refine ⟨fun c hc => ?_, by rw [set_roles e]; exact h.nd⟩
  rcases mem_set hc with rfl | ⟨j, hj, ej⟩
  · exact ⟨upd_same, (h.get e).2⟩
  · have q := h.all c (List.mem_of_getElem? ej)
    exact ⟨(upd_ne (tg_ne q.2 (h.get e).2 (nd_ne h.nd ej e hj))).trans q.1, q.2⟩
/-- one place changed, whatever else came -/
theorem Lay.butAt (h : Lay z tg H L) (e : L[i]? = some (a, o, t)) (b : But a H H') (h' : H' a = some o') : Lay z tg H' (L.set i (a, o', t)) := by
  refine ⟨fun c hc => ?_, by rw [set_roles e]; exact h.nd⟩
  rcases mem_set hc with rfl | ⟨j, hj, ej⟩
  · exact ⟨h', (h.get e).2⟩
  · have q := h.all c (List.mem_of_getElem? ej)
    exact ⟨b _ _ (tg_ne q.2 (h.get e).2 (nd_ne h.nd ej e hj)) q.1, q.2⟩
theorem Lay.but2 {x y : Addr} {o1 o2 o1' o2' : HO} {j t2 : Nat} (h : Lay z tg H L) (e1 : L[i]? = some (x, o1, t)) (e2 : L[j]? = some (y, o2, t2)) (n : i ≠ j) (b : ∀ c u, c ≠ x → c ≠ y → H c = some u → H' c = some u) (h1 : H' x = some o1') (h2 : H' y = some o2') : Lay z tg H' ((L.set i (x, o1', t)).set j (y, o2', t2)) := by
  have e2' : (L.set i (x, o1', t))[j]? = some (y, o2, t2) := by rw [List.getElem?_set_ne n, e2]
  refine ⟨fun c hc => ?_, by rw [set_roles e2', set_roles e1]; exact h.nd⟩
  rcases mem_set hc with rfl | ⟨k, hk, ek⟩
  · exact ⟨h2, (h.get e2).2⟩
  · rw [List.getElem?_set] at ek
    by_cases q : i = k
    · subst q
      rw [if_pos rfl] at ek
      split at ek
      · cases ek
        exact ⟨h1, (h.get e1).2⟩
      · cases ek
    · rw [if_neg q] at ek
      have g := h.all c (List.mem_of_getElem? ek)
      exact ⟨b _ _ (tg_ne g.2 (h.get e1).2 (nd_ne h.nd ek e1 (Ne.symm q))) (tg_ne g.2 (h.get e2).2 (nd_ne h.nd ek e2 hk)) g.1, g.2⟩
theorem Lay.tag (h : Lay z tg H L) (f : p ∉ L.map (·.1)) : Lay z (tgU tg p z t) H L := ⟨fun c hc => ⟨(h.all c hc).1, tgU_ne (fun e => f (List.mem_map.mpr ⟨c, hc, e⟩)) (h.all c hc).2⟩, h.nd⟩
theorem Lay.butS (h : Lay z tg H L) (s : Same H' H'') (e : L[i]? = some (a, o, t)) (b : But a H H') (h' : H' a = some o') : Lay z tg H' (L.set i (a, o', t)) := h.butAt e b h'
theorem Mv.butS {i : Nat} (s : Same H' H'') (t : Tg tg a z i) (h : H a = some o) (b : But a H H') (h' : H' a = some o') (k : mutO o = true := by rfl) : Mv z K tg tg H H' := Mv.but t h b h' k
/-- a new place takes a role over -/
theorem Lay.rep (h : Lay z tg H' L) (e : L[i]? = some (a, o, t)) (f : p ∉ L.map (·.1)) (hp : H' p = some o') : Lay z (tgU tg p z t) H' (L.set i (p, o', t)) := by
  refine ⟨fun c hc => ?_, by rw [set_roles e]; exact h.nd⟩
  rcases mem_set hc with rfl | ⟨j, hj, ej⟩
  · exact ⟨hp, tgU_same⟩
  · have m := List.mem_of_getElem? ej
    have q := h.all c m
    exact ⟨q.1, tgU_ne (fun e => f (List.mem_map.mpr ⟨c, m, e⟩)) q.2⟩
theorem Lay.fr (h : Lay z tg H L) (f : Fr p H) : p ∉ L.map (·.1) := fun hm => by
  obtain ⟨c, hc, e⟩ := List.mem_map.mp hm
  exact ne_new f (h.all c hc).1 e
theorem not_snoc {L : List Cell} {b : Addr} {o : HO} {t : Nat} (f : p ∉ L.map (·.1)) (n : p ≠ b) : p ∉ (L ++ [(b, o, t)]).map (·.1) := fun h => by
  rw [List.map_append] at h
  rcases List.mem_append.mp h with h | h
  · exact f h
  · exact n (List.mem_singleton.mp h)
theorem Lay.add (h : Lay z tg H' L) (f : p ∉ L.map (·.1)) (hp : H' p = some o') (n : t ∉ L.map (·.2.2)) : Lay z (tgU tg p z t) H' (L ++ [(p, o', t)]) := by
  refine ⟨fun c hc => ?_, ?_⟩
  · rcases List.mem_append.mp hc with m | m
    · have q := h.all c m
      exact ⟨q.1, tgU_ne (fun e => f (List.mem_map.mpr ⟨c, m, e⟩)) q.2⟩
    · obtain rfl := List.mem_singleton.mp m
      exact ⟨hp, tgU_same⟩
  · rw [List.map_append]
    refine List.nodup_append.mpr ⟨h.nd, List.pairwise_singleton _ _, fun x hx y hy => ?_⟩
    obtain rfl := List.mem_singleton.mp hy
    exact fun e => n (e ▸ hx)
theorem Lay.addR (h : Lay z tg H' L) (f : p ∉ L.map (·.1)) (hp : H' p = some o') (n : (L.map (·.2.2)).contains t = false := by rfl) : Lay z (tgU tg p z t) H' (L ++ [(p, o', t)]) := h.add f hp fun m => by
  rw [List.contains_iff_mem.mpr m] at n
  cases n
theorem Lay.left {M : List Cell} (h : Lay z tg H (L ++ M)) : Lay z tg H L := ⟨fun c hc => h.all c (List.mem_append_left _ hc), by
  have := h.nd
  rw [List.map_append] at this
  exact (List.nodup_append.mp this).1⟩
theorem Lay.eq {M : List Cell} (h : Lay z tg H L) (e : L = M) : Lay z tg H M := e ▸ h
theorem Lay.nil : Lay z tg H [] := ⟨fun _ h => absurd h List.not_mem_nil, List.Pairwise.nil⟩
end
end Xk


local macro_rules | `(tactic| wtm_at "key") => `(tactic| (first | assumption | exact rfl | fail "key"))
local macro_rules | `(tactic| wtm_at "few") => `(tactic| (first | assumption | exact Nat.le_of_ble_eq_true rfl | fail "few"))
local macro_rules | `(tactic| wtm_at "cls") => `(tactic| (first | assumption | fail "cls"))
local macro_rules | `(tactic| wtm_at "neq") => `(tactic| (first | assumption | exact Ne.symm (by assumption) | exact Xk.ne_new (by assumption) (by wtm_at "hx") | exact (Xk.ne_new (by assumption) (by wtm_at "hx")).symm | fail "neq"))
local macro_rules | `(tactic| wtm_at "hx") => `(tactic| (first | assumption | exact L2.upd_same | ((refine' (L2.upd_ne ?un).trans ?uh); (case un => wtm_at "neq"); (case uh => wtm_at "hx")) | ((refine' Xk.same_at ?ue ?uh); (case ue => assumption); (case uh => wtm_at "hx")) | ((refine' Xk.but_at ?ue ?un ?uh); (case ue => assumption); (case un => wtm_at "neq"); (case uh => wtm_at "hx")) | fail "hx"))
local macro_rules | `(tactic| wtm_at "free") => `(tactic| (first | assumption | ((refine' Xk.free_back ?uh ?ue); (case uh => assumption); (case ue => wtm_at "sm")) | ((refine' Xk.free_back ?uh ?ue); (case uh => (refine' Xk.fr_upd ?uf; case uf => assumption)); (case ue => wtm_at "sm")) | fail "free"))
local macro_rules | `(tactic| wtm_at "sm") => `(tactic| (first | assumption | exact L2.Same.refl _ | ((refine' Xk.same_mut ?ue ?uh); (case ue => wtm_at "sm"); (case uh => wtm_at "free")) | ((refine' L2.Same.trans ?ue ?uh); (case uh => assumption); (case ue => wtm_at "sm")) | ((refine' Xk.same_but ?ue ?uh ?us); (case ue => assumption); (case uh => wtm_at "free"); (case us => wtm_at "sm")) | fail "sm"))
local macro_rules | `(tactic| wtm_at "bm") => `(tactic| (first | assumption | exact Xk.But.refl _ _ | ((refine' Xk.but_mut ?ue); (case ue => wtm_at "bm")) | ((refine' Xk.but_new ?ue ?uh); (case ue => wtm_at "bm"); (case uh => wtm_at "free")) | ((refine' Xk.but_trans ?ue ?uh); (case uh => assumption); (case ue => wtm_at "bm")) | ((refine' Xk.but_trans ?ue (Xk.but_same ?uh)); (case uh => assumption); (case ue => wtm_at "bm")) | fail "bm"))
local macro_rules | `(tactic| wtm_at "sq") => `(tactic| (first | assumption | exact Xk.sq_of (by wtm_at "hx") | ((refine' Xk.sq_same ?uh ?ue); (case uh => assumption); (case ue => wtm_at "sm")) | fail "sq"))
local macro_rules | `(tactic| wtm_at "st") => `(tactic| (first | assumption | exact Xk.st_of (by wtm_at "hx") | ((refine' Xk.st_same ?uh ?ue); (case uh => assumption); (case ue => wtm_at "sm")) | fail "st"))
local macro_rules | `(tactic| wtm_at "side") => `(tactic| (first | assumption | decide | omega | (refine Or.inr ?_; omega) | (refine Or.inl ?_; omega) | (refine ⟨?_, ?_⟩ <;> omega) | (refine ⟨?_, ?_, ?_⟩ <;> first | omega | decide) | fail "side"))
local macro_rules | `(tactic| wtm_at "len") => `(tactic| (first | omega | (simp only [List.length_map, List.length_append, List.length_cons, List.length_nil, List.length_set, List.length_replicate] at *; omega) | exact Nat.le_of_ble_eq_true rfl | fail "len"))
local macro_rules | `(tactic| wtm_at "x") => `(tactic| (first
  | ((with_reducible refine' Xk.x_var ?a1 ?_); (case a1 => exact rfl))
  | (with_reducible refine Xk.x_c ?_)
  | (with_reducible refine Xk.x_op ?_)
  | (with_reducible refine Xk.x_I0 ?_)
  | ((with_reducible refine' Xk.x_I ?a1 ?_); (case a1 => wtm_at "side"))
  | (with_reducible refine Xk.x_cons ?_)
  | (with_reducible refine Xk.x_nil ?_)
  | (with_reducible refine Xk.x_cb ?_)
  | (with_reducible refine Xk.x_call ?_)
  | (with_reducible refine Xk.x_sasg ?_)
  | (with_reducible refine Xk.x_asg ?_)
  | (with_reducible refine Xk.x_ret ?_)
  | (with_reducible refine Xk.x_test ?_)
  | (with_reducible refine Xk.x_bl ?_)
  | (with_reducible refine Xk.x_isI ?_)
  | (with_reducible refine Xk.x_sif ?_)
  | (with_reducible refine Xk.x_ifS ?_)
  | (with_reducible refine Xk.x_and ?_)
  | (with_reducible refine Xk.x_or ?_)
  | (with_reducible refine Xk.x_not ?_)
  | (with_reducible refine Xk.x_B ?_)
  | (with_reducible refine Xk.x_nInt ?_)
  | (with_reducible refine Xk.x_nIntB ?_)
  | ((with_reducible refine' Xk.x_lenL ?a1 ?_); (case a1 => wtm_at "sq"))
  | ((with_reducible refine' Xk.x_lenT ?a1 ?_); (case a1 => wtm_at "st"))
  | (with_reducible refine Xk.x_un ?_)
  | (with_reducible refine Xk.x_U ?_)
  | ((with_reducible refine' Xk.x_eq ?a1 ?_); (case a1 => exact rfl))
  | ((with_reducible refine' Xk.x_ne ?a1 ?_); (case a1 => exact rfl))
  | ((with_reducible refine' Xk.x_ixL ?a1 ?a2 ?_); (case a1 => wtm_at "sq"); (case a2 => first | exact rfl | assumption | exact Xk.at_nat rfl (Xk.map_at (by assumption)) | exact Xk.at_nat rfl (by assumption)))
  | ((with_reducible refine' Xk.x_ixT ?a1 ?a2 ?_); (case a1 => wtm_at "st"); (case a2 => first | exact rfl | assumption | exact Xk.at_nat rfl (Xk.map_at (by assumption)) | exact Xk.at_nat rfl (by assumption)))
  | (with_reducible refine Xk.x_lst ?_)
  | (with_reducible refine Xk.x_tup ?_)
  | ((with_reducible refine' Xk.x_new ?a1 ?_); (case a1 => wtm_at "len"))
  | ((with_reducible refine' Xk.x_listL ?a1 ?_); (case a1 => wtm_at "sq"))
  | ((with_reducible refine' Xk.x_listT ?a1 ?_); (case a1 => wtm_at "st"))
  | ((with_reducible refine' Xk.x_tupleL ?a1 ?_); (case a1 => wtm_at "sq"))
  | ((with_reducible refine' Xk.x_tupleT ?a1 ?_); (case a1 => wtm_at "st"))
  | (with_reducible refine Xk.x_seq ?_)
  | (with_reducible refine Xk.x_next ?_)
  | (with_reducible refine Xk.x_sdrop ?_)
  | (with_reducible refine Xk.x_drop ?_)
  | (with_reducible refine Xk.x_bm ?_)
  | (with_reducible refine Xk.x_bm0 ?_)
  | ((with_reducible refine' Xk.x_tyL ?a1 ?_); (case a1 => wtm_at "sq"))
  | ((with_reducible refine' Xk.x_app ?a1 ?a2 ?_); (case a1 => wtm_at "hx"); (case a2 => wtm_at "len"))
  | (with_reducible refine Xk.x_sasgG ?_)
  | (with_reducible refine Xk.x_asgG ?_)
  | (with_reducible refine Xk.x_gName ?_)
  | ((with_reducible refine' Xk.x_gTup ?a1 ?a2 ?_); (case a1 => wtm_at "st"); (case a2 => exact rfl))
  | ((with_reducible refine' Xk.x_gLst ?a1 ?a2 ?_); (case a1 => wtm_at "sq"); (case a2 => exact rfl))
  | (with_reducible refine Xk.x_gCons ?_)
  | (with_reducible refine Xk.x_gNil ?_)
  | (with_reducible refine Xk.x_gSub ?_)
  | (with_reducible refine Xk.x_if ?_)
  | (with_reducible refine Xk.x_andV ?_)
  | (with_reducible refine Xk.x_orV ?_)
  | (with_reducible refine Xk.x_notV ?_)
  | (with_reducible refine Xk.x_chain ?_)
  | (with_reducible refine Xk.x_yes ?_)
  | (with_reducible refine Xk.x_sl ?_)
  | (with_reducible refine Xk.x_nopart ?_)
  | (with_reducible refine Xk.x_part ?_)
  | ((with_reducible refine' Xk.x_slL ?a1 ?_); (case a1 => wtm_at "sq"))
  | ((with_reducible refine' Xk.x_saug ?a1 ?_); (case a1 => exact rfl))
  | ((with_reducible refine' Xk.x_aug ?a1 ?_); (case a1 => exact rfl))
  | (with_reducible refine Xk.x_ipI ?_)
  | ((with_reducible refine' Xk.x_isiInt ?a1 ?_); (case a1 => first | exact Xk.kit_T (by decide +kernel) | exact Xk.kit_F (by decide +kernel)))
  | ((with_reducible refine' Xk.x_isiBl ?a1 ?_); (case a1 => first | exact Xk.kit_T (by decide +kernel) | exact Xk.kit_F (by decide +kernel)))
  | ((with_reducible refine' Xk.x_isiStr ?a1 ?_); (case a1 => first | exact Xk.kit_T (by decide +kernel) | exact Xk.kit_F (by decide +kernel)))
  | ((with_reducible refine' Xk.x_isiNon ?a1 ?_); (case a1 => first | exact Xk.kit_T (by decide +kernel) | exact Xk.kit_F (by decide +kernel)))
  | ((with_reducible refine' Xk.x_isiLst ?a1 ?a2 ?_); (case a1 => wtm_at "hx"); (case a2 => first | exact Xk.kit_T (by decide +kernel) | exact Xk.kit_F (by decide +kernel)))
  | ((with_reducible refine' Xk.x_isiTup ?a1 ?a2 ?_); (case a1 => wtm_at "hx"); (case a2 => first | exact Xk.kit_T (by decide +kernel) | exact Xk.kit_F (by decide +kernel)))
  | (with_reducible refine Xk.x_forR1 ?_)
  | (with_reducible refine Xk.x_forL1 ?_)
  | (with_reducible refine Xk.x_forT1 ?_)
  | (with_reducible refine Xk.x_brk ?_)
  | (with_reducible refine Xk.x_ct ?_)
  | (with_reducible refine Xk.x_retN ?_)
  | (with_reducible refine Xk.x_lcL1 ?_)
  | (with_reducible refine Xk.x_lcT1 ?_)
  | (with_reducible refine Xk.x_lcR1 ?_)
  | (with_reducible refine Xk.x_lcE1 ?_)
  | (with_reducible refine Xk.x_nocutW ?_)
  | (with_reducible refine Xk.x_nIsN ?_)
  | (with_reducible refine Xk.x_nNotN ?_)
  | (with_reducible refine Xk.x_and255 ?_)
  | (with_reducible refine Xk.x_wT ?_)
  | (with_reducible refine Xk.x_wF ?_)
  | (with_reducible refine Xk.x_lstRg ?_)
  | (with_reducible refine Xk.x_rg1 ?_)
  | ((with_reducible refine' Xk.x_nRg ?a1 ?_); (case a1 => omega))
  | (with_reducible refine L2.iteT ?_)
  | (with_reducible refine L2.iteF ?_)
  | (with_reducible refine Xk.x_nT ?_)
  | (with_reducible refine Xk.x_nF ?_)
  | ((with_reducible refine' Xk.x_dY ?a1 ?_); (case a1 => first | exact rfl | assumption | omega))
  | ((with_reducible refine' Xk.x_dN ?a1 ?_); (case a1 => first | assumption | omega | (intro z; cases z; done)))
  | ((with_reducible refine' Xk.x_ndY ?a1 ?_); (case a1 => first | exact rfl | assumption | omega))
  | ((with_reducible refine' Xk.x_ndN ?a1 ?_); (case a1 => first | assumption | omega | (intro z; cases z; done)))
  | (with_reducible refine Xk.x_lc2 ?_)
  | (with_reducible refine Xk.x_fld1 ?_)
  | ((with_reducible refine' Xk.x_rFld ?a1 ?a2 ?a3 ?a4 ?_); (case a1 => wtm_at "hx"); (case a2 => wtm_at "cls"); (case a3 => wtm_at "cls"); (case a4 => exact rfl))
  | (with_reducible refine Xk.x_ssfld ?_)
  | (with_reducible refine Xk.x_sfld ?_)
  | ((with_reducible refine' Xk.x_rSetF ?a1 ?a2 ?a3 ?a4 ?_); (case a1 => wtm_at "hx"); (case a2 => wtm_at "cls"); (case a3 => wtm_at "cls"); (case a4 => exact Nat.le_of_ble_eq_true rfl))
  | (with_reducible refine Xk.x_prop ?_)
  | ((with_reducible refine' Xk.x_rProp ?a1 ?_); (case a1 => wtm_at "hx"))
  | (with_reducible refine Xk.x_meth ?_)
  | ((with_reducible refine' Xk.x_rMeth ?a1 ?a2 ?_); (case a1 => wtm_at "hx"); (case a2 => exact rfl))
  | (with_reducible refine Xk.x_make ?_)
  | (with_reducible refine Xk.x_sdelT ?_)
  | (with_reducible refine Xk.x_delT ?_)
  | (with_reducible refine Xk.x_nMax2 ?_)
  | (with_reducible refine Xk.x_nMin2 ?_)
  | ((with_reducible refine' Xk.x_nRepS ?a1 ?a2 ?_); (case a1 => wtm_at "side"); (case a2 => decide))
  | (with_reducible refine Xk.x_inS ?_)
  | (with_reducible refine Xk.x_notInS ?_)
  | ((with_reducible refine' Xk.x_nAddS ?a1 ?_); (case a1 => wtm_at "len"))
  | ((with_reducible refine' Xk.x_nLenS ?a1 ?_); (case a1 => wtm_at "len"))
  | ((with_reducible refine' Xk.x_slS ?a1 ?_); (case a1 => wtm_at "len"))
  | (with_reducible refine Xk.x_lcS1 ?_)
  | (with_reducible refine Xk.x_forS1 ?_)
  | (with_reducible refine Xk.x_ord ?_)
  | (with_reducible refine Xk.x_dget1 ?_)
  | ((with_reducible refine' Xk.x_rGetD ?a1 ?_); (case a1 => wtm_at "hx"))
  | ((with_reducible refine' Xk.x_rGet1 ?a1 ?_); (case a1 => wtm_at "hx"))
  | (with_reducible refine Xk.x_dget2 ?_)
  | ((with_reducible refine' Xk.x_rGetE ?a1 ?_); (case a1 => wtm_at "hx"))
  | ((with_reducible refine' Xk.x_rGet2 ?a1 ?_); (case a1 => wtm_at "hx"))
  | (with_reducible refine Xk.x_dpop1 ?_)
  | ((with_reducible refine' Xk.x_rPopD ?a1 ?_); (case a1 => wtm_at "hx"))
  | (with_reducible refine Xk.x_dpop2 ?_)
  | ((with_reducible refine' Xk.x_rPopE ?a1 ?_); (case a1 => wtm_at "hx"))
  | (with_reducible refine Xk.x_din ?_)
  | ((with_reducible refine' Xk.x_rDInK ?a1 ?_); (case a1 => wtm_at "hx"))
  | (with_reducible refine Xk.x_dnew ?_)
  | (with_reducible refine Xk.x_notBl ?_)
  | (with_reducible refine Xk.x_isBl ?_)
  | (with_reducible refine Xk.x_dget ?_)
  | ((with_reducible refine' Xk.x_rDG ?a1 ?a2 ?_); (case a1 => wtm_at "hx"); (case a2 => wtm_at "key"))
  | (with_reducible refine Xk.x_sdput ?_)
  | (with_reducible refine Xk.x_dput ?_)
  | ((with_reducible refine' Xk.x_rDP ?a1 ?a2 ?a3 ?_); (case a1 => wtm_at "hx"); (case a2 => wtm_at "few"); (case a3 => wtm_at "key"))
  | (with_reducible refine Xk.x_pcons ?_)
  | (with_reducible refine Xk.x_pnil ?_)
  | (with_reducible refine Xk.x_forRev1 ?_)
  | (with_reducible refine Xk.x_forR2 ?_)
  | ((with_reducible refine' Xk.x_geP ?a1 ?a2 ?_); (case a1 => wtm_at "st"); (case a2 => wtm_at "st"))
  | ((with_reducible refine' Xk.x_ltP ?a1 ?a2 ?_); (case a1 => wtm_at "st"); (case a2 => wtm_at "st"))
  | (with_reducible refine Xk.x_lcZ1 ?_)
  | (with_reducible refine Xk.x_lcET1 ?_)
  | (with_reducible refine Xk.x_dcT1 ?_)
  | (with_reducible refine Xk.x_nLtS ?_)
  | (with_reducible refine Xk.x_nLeS ?_)
  | (with_reducible refine Xk.x_nGeS ?_)
  | (with_reducible refine Xk.x_spar ?_)
  | (with_reducible refine Xk.x_par ?_)
  | (with_reducible refine Xk.x_rPar ?_)
  | (with_reducible refine Xk.x_gSubSl ?_)
  | fail "x"))
local macro_rules | `(tactic| wtm_at "xs") => `(tactic| ((repeat wtm_at "x"); try dsimp only [L2.wipe, List.set, List.append_nil, List.cons_append, List.nil_append]))
local macro_rules | `(tactic| wtm_at "x0") => `(tactic| (dsimp only [L2.cxOf, L2.start, List.map, List.length, List.replicate, Nat.reduceAdd, Nat.reduceSub, List.cons_append, List.nil_append]))
local macro_rules | `(tactic| wtm_at "xc") => `(tactic| (dsimp only [L2.wipe, List.set, List.append_nil, List.cons_append, List.nil_append]))

local macro_rules | `(tactic| wtm_at "neq") => `(tactic| (first | exact Xk.tg_ne (by assumption) (by assumption) (by decide) | fail "neq"))
local macro_rules | `(tactic| wtm_at "hx") => `(tactic| (first | (with_reducible exact L2.upd_same) | fail "hx"))
local macro_rules | `(tactic| wtm_at "x") => `(tactic| (first
  | (with_reducible refine Xk.x_ip128 ?_)
  | (with_reducible refine Xk.x_fnF ?_)
  | fail "x"))
namespace Xk
open PySem PySem.Spec PyProof.Rows L2
/-! the head of a law by facts: what is asked of the objects (cs), what each def is (ds) -/
structure Df where
  ad : PySem.W.Frag → Addr
  nm : Str
  ql : Str
  ar : Arguments
  bd : List Stmt
  sc : Scope
  df : Bool := false
def Df.see (d : Df) (K : PySem.W.Frag) : He.FnW := match K.lookup (d.ad K) with
  | some ⟨_, _, .func f, _⟩ => some (f.name, f.qualname, f.params, f.body, f.scope, f.globals, f.closure, f.builtins)
  | _ => none
def Df.want (d : Df) : He.FnW := some (d.nm, d.ql, d.ar, .stmts d.bd, d.sc, mainGlobals, [], builtinsNs)
def isNon : Value → Bool
  | .none => true
  | _ => false
theorem isNon_ok {v : Value} (h : isNon v = true) : v = .none := by cases v <;> first | rfl | cases h
def Df.ok (d : Df) (K : PySem.W.Frag) : Bool := PySem.W.keepIn K (.ref (d.ad K)) && (match K.lookup (d.ad K) with
  | some ⟨_, _, .func f, _⟩ => PySem.W.codeIn K f.code d.ql && (d.df || isNon f.defaults)
  | _ => false)
def Df.dv (d : Df) (K : PySem.W.Frag) : Value := match K.lookup (d.ad K) with
  | some ⟨_, _, .func f, _⟩ => f.defaults
  | _ => .none
theorem Df.get {d : Df} {K : PySem.W.Frag} (e : d.see K = d.want) (c : d.ok K = true) :
    ∃ (oc : Value) (od : Option Addr) (kV dc pm : Value) (an : Option Addr) (cd ct : Value) (sl : Array (Option Value)), K.lookup (d.ad K) = some ⟨oc, od, .func (PySem.W.fnOf d.nm d.ql d.ar d.bd d.sc (d.dv K) kV dc pm an cd ct), sl⟩ ∧ PySem.W.codeIn K cd d.ql = true ∧ PySem.W.keepIn K (.ref (d.ad K)) = true ∧ (d.df || isNon (d.dv K)) = true := by
  obtain ⟨kp, c2⟩ := He.ba c
  unfold Df.see at e
  unfold Df.dv
  cases q : K.lookup (d.ad K) with
  | none =>
    rw [q] at c2
    cases c2
  | some o =>
    obtain ⟨oc, od, dt, osl⟩ := o
    rw [q] at c2 e
    cases dt with
    | func f =>
      obtain ⟨n1, n2, n3, n4, n5, n6, n7, n8, n9, n10, n11, n12, n13, n14, n15⟩ := f
      have w2 : (some (n1, n2, n3, n4, n5, n6, n7, n15) : He.FnW) = some (d.nm, d.ql, d.ar, .stmts d.bd, d.sc, mainGlobals, [], builtinsNs) := e
      simp only [Prod.mk.injEq, Option.some.injEq] at w2
      obtain ⟨g1, g2, g3, g4, g5, g6, g7, g8⟩ := w2
      subst g1 g2 g3 g4 g5 g6 g7 g8
      obtain ⟨k1, k2⟩ := He.ba c2
      exact ⟨oc, od, n9, n10, n11, n12, n13, n14, osl, rfl, k1, kp, k2⟩
    | _ => cases c2
theorem Df.get0 {d : Df} {K : PySem.W.Frag} (e : d.see K = d.want) (c : d.ok K = true) (z : d.df = false) :
    ∃ (oc : Value) (od : Option Addr) (kV dc pm : Value) (an : Option Addr) (cd ct : Value) (sl : Array (Option Value)), K.lookup (d.ad K) = some ⟨oc, od, .func (PySem.W.fnOf d.nm d.ql d.ar d.bd d.sc .none kV dc pm an cd ct), sl⟩ ∧ PySem.W.codeIn K cd d.ql = true ∧ PySem.W.keepIn K (.ref (d.ad K)) = true := by
  obtain ⟨a1, a2, a3, a4, a5, a6, a7, a8, a9, h1, h2, h3, h4⟩ := d.get e c
  rw [z, Bool.false_or] at h4
  rw [isNon_ok h4] at h1
  exact ⟨a1, a2, a3, a4, a5, a6, a7, a8, a9, h1, h2, h3⟩
/-! the Hook -/
abbrev Al : Type := Bool × List He.FnW
def obH (cs : List (PySem.W.Frag → Bool)) (ds : List Df) (K : PySem.W.Frag) : Al := ((cs.all fun f => f K) && ds.all fun d => d.ok K, ds.map fun d => d.see K)
def wtH (ds : List Df) : Al := (true, ds.map Df.want)
def seeH (n : List Addr) (cs : List (PySem.W.Frag → Bool)) (ds : List Df) (g : Addr → Option Obj) : Al := obH cs ds (He.frG g n)
def hkH (n : List Addr) (cs : List (PySem.W.Frag → Bool)) (ds : List Df) : PySem.W.Hook where
  α := Al
  obs := fun s => seeH n cs ds s.heap.get?
  val := fun _ => wtH ds
  says := fun _ h => ∃ K : PySem.W.Frag, K.In h ∧ obH cs ds K = wtH ds
  of := fun _ _ e => ⟨_, He.frG_in, e⟩
  keeps := fun _ _ _ ⟨L, hL, c⟩ z => ⟨L, PySem.W.Frag.In.keeps hL z, c⟩
def lookH (n : List Addr) (cs : List (PySem.W.Frag → Bool)) (ds : List Df) (s : PySem.W.SharedT) : Al := seeH n cs ds (HandSHeadRun.getT s)
theorem lookH_eq {n : List Addr} {cs : List (PySem.W.Frag → Bool)} {ds : List Df} (s : PySem.W.SharedT) : lookH n cs ds s = (hkH n cs ds).obs s.abs := by
  have e : HandSHeadRun.getT s = s.abs.heap.get? := funext (HandSHeadRun.getT_eq s)
  unfold lookH
  rw [e]
  rfl
/-- two looks at one state are one look -/
theorem obH_app {cs cs' : List (PySem.W.Frag → Bool)} {ds ds' : List Df} {K : PySem.W.Frag} (h : obH cs ds K = wtH ds) (h' : obH cs' ds' K = wtH ds') : obH (cs ++ cs') (ds ++ ds') K = wtH (ds ++ ds') := by
  unfold obH wtH at *
  simp only [Prod.mk.injEq, Bool.and_eq_true] at h h' ⊢
  rw [List.all_append, List.all_append, List.map_append, List.map_append, h.1.1, h.1.2, h'.1.1, h'.1.2, h.2, h'.2]
  exact ⟨⟨rfl, rfl⟩, rfl⟩
theorem run_app {r : PySem.W.OpenRow} {q : Program} {n : List Addr} {M : Nat} {loose : List PySem.Str} {w : World} {cs cs' : List (PySem.W.Frag → Bool)} {ds ds' : List Df} (h : HandSHeadRun.RunEq r q (hkH n cs ds) (lookH n cs ds) M loose w) (h' : HandSHeadRun.RunEq r q (hkH n cs' ds') (lookH n cs' ds') M loose w) :
    HandSHeadRun.RunEq r q (hkH n (cs ++ cs') (ds ++ ds')) (lookH n (cs ++ cs') (ds ++ ds')) M loose w := by
  intro os
  have a := h os
  have b := h' os
  obtain ⟨s, es, e1⟩ := Option.map_eq_some_iff.mp a
  rw [es] at b ⊢
  have e2 := Option.some.inj b
  refine congrArg some ?_
  have x1 : lookH n cs ds s = wtH ds := congrArg (fun z => z.2.2) e1
  have x2 : lookH n cs' ds' s = wtH ds' := congrArg (fun z => z.2.2) e2
  have x3 : lookH n (cs ++ cs') (ds ++ ds') s = wtH (ds ++ ds') := obH_app x1 x2
  exact Prod.ext (congrArg (fun z => z.1) e1) (Prod.ext (congrArg (fun z => z.2.1) e1) x3)
theorem ck_at {cs : List (PySem.W.Frag → Bool)} {ds : List Df} {K : PySem.W.Frag} (c : obH cs ds K = wtH ds) (i : Nat) {f : PySem.W.Frag → Bool} (h : cs[i]? = some f := by rfl) : f K = true :=
  List.all_eq_true.mp (He.ba (show ((cs.all fun f => f K) && ds.all fun d => d.ok K) = true from congrArg (fun z : Al => z.1) c)).1 f (List.mem_of_getElem? h)
theorem df_at {cs : List (PySem.W.Frag → Bool)} {ds : List Df} {K : PySem.W.Frag} (c : obH cs ds K = wtH ds) (i : Nat) {d : Df} (hi : ds[i]? = some d := by rfl) : d.see K = d.want ∧ d.ok K = true := by
  have e : ds.map (fun d => d.see K) = ds.map Df.want := congrArg (fun z : Al => z.2) c
  have w2 : (ds.map fun d => d.see K)[i]? = (ds.map Df.want)[i]? := by rw [e]
  rw [List.getElem?_map, List.getElem?_map, hi] at w2
  exact ⟨Option.some.inj w2, List.all_eq_true.mp (He.ba (show ((cs.all fun f => f K) && ds.all fun d => d.ok K) = true from congrArg (fun z : Al => z.1) c)).2 d (List.mem_of_getElem? hi)⟩
theorem obH_split {cs cs' : List (PySem.W.Frag → Bool)} {ds ds' : List Df} {K : PySem.W.Frag} (h : obH (cs ++ cs') (ds ++ ds') K = wtH (ds ++ ds')) : obH cs ds K = wtH ds ∧ obH cs' ds' K = wtH ds' := by
  unfold obH wtH at *
  simp only [Prod.mk.injEq, Bool.and_eq_true, List.all_append, List.map_append] at h ⊢
  obtain ⟨⟨⟨a1, a2⟩, b1, b2⟩, g⟩ := h
  have q := List.append_inj g (by rw [List.length_map, List.length_map])
  exact ⟨⟨⟨a1, b1⟩, q.1⟩, ⟨a2, b2⟩, q.2⟩
/-! single facts -/
def strIs (x z : Str) (K : PySem.W.Frag) : Bool := match PySem.W.nsIn K mainGlobals x with
  | some (some (.str y _)) => decide (y = z)
  | _ => false
theorem strIs_ok {x z : Str} {K : PySem.W.Frag} (h : strIs x z K = true) : ∃ t, PySem.W.nsIn K mainGlobals x = some (some (.str z t)) := by
  unfold strIs at h
  split at h
  · rename_i y t e
    rw [of_decide_eq_true h] at e
    exact ⟨t, e⟩
  · cases h
def intIs (x : Str) (i : Int) (K : PySem.W.Frag) : Bool := match PySem.W.nsIn K mainGlobals x with
  | some (some (.int j _)) => decide (j = i)
  | _ => false
theorem intIs_ok {x : Str} {i : Int} {K : PySem.W.Frag} (h : intIs x i K = true) : ∃ t, PySem.W.nsIn K mainGlobals x = some (some (.int i t)) := by
  unfold intIs at h
  split at h
  · rename_i y t e
    rw [of_decide_eq_true h] at e
    exact ⟨t, e⟩
  · cases h
def rcA (K : PySem.W.Frag) (p : Addr) (x : String) : Addr := match PySem.W.recIn K p x with
  | some (.ref a :: _) => a
  | _ => 0
def rcIs (K : PySem.W.Frag) (p : Addr) (x : String) : Bool := match PySem.W.recIn K p x with
  | some (.ref _ :: _) => true
  | _ => false
theorem rcIs_ok {K : PySem.W.Frag} {p : Addr} {x : String} (h : rcIs K p x = true) : ∃ r, PySem.W.recIn K p x = some (.ref (rcA K p x) :: r) := by
  unfold rcIs at h
  unfold rcA
  split at h
  · rename_i a r e
    rw [e]
    exact ⟨r, rfl⟩
  · cases h
def tupI (i j : Int) (a : Addr) (K : PySem.W.Frag) : Bool := match K.lookup a with
  | some ⟨c, _, .seq its _, _⟩ => decide (c = .type "tuple") && (match its.toList with
    | [.int x _, .int y _] => decide (x = i) && decide (y = j)
    | _ => false)
  | _ => false
theorem tupI_ok {i j : Int} {a : Addr} {K : PySem.W.Frag} (h : tupI i j a K = true) : ∃ dn t1 t2 n sl, K.lookup a = some ⟨.type "tuple", dn, .seq #[.int i t1, .int j t2] n, sl⟩ := by
  unfold tupI at h
  split at h
  · rename_i c dn its n sl e
    obtain ⟨h1, h2⟩ := He.ba h
    split at h2
    · rename_i x t1 y t2 e2
      obtain ⟨h3, h4⟩ := He.ba h2
      rw [of_decide_eq_true h3, of_decide_eq_true h4] at e2
      rw [of_decide_eq_true h1] at e
      have e3 : its = #[.int i t1, .int j t2] := Array.toList_inj.mp e2
      rw [e3] at e
      exact ⟨dn, t1, t2, n, sl, e⟩
    · cases h2
  · cases h
def dTa (d : Df) (K : PySem.W.Frag) : Addr := match d.dv K with
  | .ref T => T
  | _ => 0
def tupRN (d : Df) (b : Addr) (K : PySem.W.Frag) : Bool := decide (d.dv K = .ref (dTa d K)) && (match K.lookup (dTa d K) with
  | some ⟨c, _, .seq its _, _⟩ => decide (c = .type "tuple") && decide (its.toList = [.ref b, .none])
  | _ => false)
theorem tupRN_ok {d : Df} {b : Addr} {K : PySem.W.Frag} (h : tupRN d b K = true) : d.dv K = .ref (dTa d K) ∧ ∃ dn n sl, K.lookup (dTa d K) = some ⟨.type "tuple", dn, .seq #[.ref b, .none] n, sl⟩ := by
  unfold tupRN at h
  obtain ⟨h0, h⟩ := He.ba h
  refine ⟨of_decide_eq_true h0, ?_⟩
  split at h
  · rename_i c dn its n sl e
    obtain ⟨h1, h2⟩ := He.ba h
    rw [of_decide_eq_true h1] at e
    have e3 : its = #[.ref b, .none] := Array.toList_inj.mp (of_decide_eq_true h2)
    rw [e3] at e
    exact ⟨dn, n, sl, e⟩
  · cases h
theorem opt_ok {a b : Option Bool} (h : decide (a = b) = true) : a = b := of_decide_eq_true h
end Xk
namespace K40
open PySem PySem.Spec PyProof.Rows L2
def topS (i : Nat) : Stmt := PySem.Challenge.pw_crosskeep_k40_a_node_begins.main.body.getD i (.Pass ⟨0, 0, 0, 0⟩)
abbrev s_Journal___init__ : Stmt := inClass (topS 3) 0
abbrev N_Journal___init__ : List Str := ["self"]
theorem sc_Journal___init__ : FnScope ["self"] ["self"] (defScope s_Journal___init__) := ⟨rfl, rfl, rfl, by decide +kernel, rfl, by decide +kernel, by decide +kernel⟩
abbrev s_Journal_frame_count : Stmt := inClass (topS 3) 1
abbrev N_Journal_frame_count : List Str := ["self"]
theorem sc_Journal_frame_count : FnScope ["self"] ["self"] (defScope s_Journal_frame_count) := ⟨rfl, rfl, rfl, by decide +kernel, rfl, by decide +kernel, by decide +kernel⟩
abbrev s_Journal_synced_frames : Stmt := inClass (topS 3) 2
abbrev N_Journal_synced_frames : List Str := ["self"]
theorem sc_Journal_synced_frames : FnScope ["self"] ["self"] (defScope s_Journal_synced_frames) := ⟨rfl, rfl, rfl, by decide +kernel, rfl, by decide +kernel, by decide +kernel⟩
abbrev s_Journal_append : Stmt := inClass (topS 3) 5
abbrev N_Journal_append : List Str := ["self", "payload"]
theorem sc_Journal_append : FnScope ["self", "payload"] ["self", "payload"] (defScope s_Journal_append) := ⟨rfl, rfl, rfl, by decide +kernel, rfl, by decide +kernel, by decide +kernel⟩
abbrev s_Journal_sync : Stmt := inClass (topS 3) 6
abbrev N_Journal_sync : List Str := ["self"]
theorem sc_Journal_sync : FnScope ["self"] ["self"] (defScope s_Journal_sync) := ⟨rfl, rfl, rfl, by decide +kernel, rfl, by decide +kernel, by decide +kernel⟩
abbrev s_Journal_payloads : Stmt := inClass (topS 3) 8
abbrev N_Journal_payloads : List Str := ["self", "payload"]
theorem sc_Journal_payloads : FnScope ["self", "payload"] ["self"] (defScope s_Journal_payloads) := ⟨rfl, rfl, rfl, by decide +kernel, rfl, by decide +kernel, by decide +kernel⟩
abbrev s_members_of_slot : Stmt := topS 9
abbrev N_members_of_slot : List Str := ["first_members", "row", "slot", "place", "word", "told"]
theorem sc_members_of_slot : FnScope ["first_members", "row", "slot", "place", "word", "told"] ["first_members", "row", "slot"] (defScope s_members_of_slot) := ⟨rfl, rfl, rfl, by decide +kernel, rfl, by decide +kernel, by decide +kernel⟩
abbrev s_batch_of : Stmt := topS 10
abbrev N_batch_of : List Str := ["commands"]
theorem sc_batch_of : FnScope ["commands"] ["commands"] (defScope s_batch_of) := ⟨rfl, rfl, rfl, by decide +kernel, rfl, by decide +kernel, by decide +kernel⟩
abbrev s_sign_of : Stmt := topS 14
abbrev N_sign_of : List Str := ["code"]
theorem sc_sign_of : FnScope ["code"] ["code"] (defScope s_sign_of) := ⟨rfl, rfl, rfl, by decide +kernel, rfl, by decide +kernel, by decide +kernel⟩
abbrev s_pack : Stmt := topS 26
abbrev N_pack : List Str := ["data", "octets"]
theorem sc_pack : FnScope ["data", "octets"] ["data"] (defScope s_pack) := ⟨rfl, rfl, rfl, by decide +kernel, rfl, by decide +kernel, by decide +kernel⟩
abbrev s__add_data : Stmt := topS 27
abbrev N__add_data : List Str := ["octets", "data", "item", "sign"]
theorem sc__add_data : FnScope ["octets", "data", "item", "sign"] ["octets", "data"] (defScope s__add_data) := ⟨rfl, rfl, rfl, by decide +kernel, rfl, by decide +kernel, by decide +kernel⟩
abbrev s__add_integer : Stmt := topS 28
abbrev N__add_integer : List Str := ["octets", "number"]
theorem sc__add_integer : FnScope ["octets", "number"] ["octets", "number"] (defScope s__add_integer) := ⟨rfl, rfl, rfl, by decide +kernel, rfl, by decide +kernel, by decide +kernel⟩
abbrev s__add_sevens : Stmt := topS 29
abbrev N__add_sevens : List Str := ["octets", "number"]
theorem sc__add_sevens : FnScope ["octets", "number"] ["octets", "number"] (defScope s__add_sevens) := ⟨rfl, rfl, rfl, by decide +kernel, rfl, by decide +kernel, by decide +kernel⟩
abbrev s_unpack : Stmt := topS 30
abbrev N_unpack : List Str := ["octets", "data"]
theorem sc_unpack : FnScope ["octets", "data"] ["octets"] (defScope s_unpack) := ⟨rfl, rfl, rfl, by decide +kernel, rfl, by decide +kernel, by decide +kernel⟩
abbrev s__read_whole : Stmt := topS 32
abbrev N__read_whole : List Str := ["octets", "room", "data", "end"]
theorem sc__read_whole : FnScope ["octets", "room", "data", "end"] ["octets", "room"] (defScope s__read_whole) := ⟨rfl, rfl, rfl, by decide +kernel, rfl, by decide +kernel, by decide +kernel⟩
abbrev s__has_great_integer : Stmt := topS 33
abbrev N__has_great_integer : List Str := ["data", "item"]
theorem sc__has_great_integer : FnScope ["data", "item"] ["data"] (defScope s__has_great_integer) := ⟨rfl, rfl, rfl, by decide +kernel, rfl, by decide +kernel, by decide +kernel⟩
abbrev s__read_data : Stmt := topS 34
abbrev N__read_data : List Str := ["octets", "at", "room", "kind"]
theorem sc__read_data : FnScope ["octets", "at", "room", "kind"] ["octets", "at", "room"] (defScope s__read_data) := ⟨rfl, rfl, rfl, by decide +kernel, rfl, by decide +kernel, by decide +kernel⟩
abbrev s__read_integer : Stmt := topS 35
abbrev N__read_integer : List Str := ["octets", "at", "number", "end"]
theorem sc__read_integer : FnScope ["octets", "at", "number", "end"] ["octets", "at"] (defScope s__read_integer) := ⟨rfl, rfl, rfl, by decide +kernel, rfl, by decide +kernel, by decide +kernel⟩
abbrev s__read_text : Stmt := topS 36
abbrev N__read_text : List Str := ["octets", "at", "length", "start", "end", "signs", "code"]
theorem sc__read_text : FnScope ["octets", "at", "length", "start", "end", "signs", "code"] ["octets", "at"] (defScope s__read_text) := ⟨rfl, rfl, rfl, by decide +kernel, rfl, by decide +kernel, by decide +kernel⟩
abbrev s__read_tuple : Stmt := topS 37
abbrev N__read_tuple : List Str := ["octets", "at", "room", "length", "end", "items", "_", "item"]
theorem sc__read_tuple : FnScope ["octets", "at", "room", "length", "end", "items", "_", "item"] ["octets", "at", "room"] (defScope s__read_tuple) := ⟨rfl, rfl, rfl, by decide +kernel, rfl, by decide +kernel, by decide +kernel⟩
abbrev s__read_sevens : Stmt := topS 38
abbrev N__read_sevens : List Str := ["octets", "at", "number", "scale", "end"]
theorem sc__read_sevens : FnScope ["octets", "at", "number", "scale", "end"] ["octets", "at"] (defScope s__read_sevens) := ⟨rfl, rfl, rfl, by decide +kernel, rfl, by decide +kernel, by decide +kernel⟩
abbrev s__octet_at : Stmt := topS 39
abbrev N__octet_at : List Str := ["octets", "at"]
theorem sc__octet_at : FnScope ["octets", "at"] ["octets", "at"] (defScope s__octet_at) := ⟨rfl, rfl, rfl, by decide +kernel, rfl, by decide +kernel, by decide +kernel⟩
abbrev s_next_ballot : Stmt := topS 43
abbrev N_next_ballot : List Str := ["after", "index"]
theorem sc_next_ballot : FnScope ["after", "index"] ["after", "index"] (defScope s_next_ballot) := ⟨rfl, rfl, rfl, by decide +kernel, rfl, by decide +kernel, by decide +kernel⟩
abbrev s_Acceptor___init__ : Stmt := inClass (topS 45) 0
abbrev N_Acceptor___init__ : List Str := ["self", "promised", "accepted"]
theorem sc_Acceptor___init__ : FnScope ["self", "promised", "accepted"] ["self", "promised", "accepted"] (defScope s_Acceptor___init__) := ⟨rfl, rfl, rfl, by decide +kernel, rfl, by decide +kernel, by decide +kernel⟩
abbrev s_Acceptor_promise : Stmt := inClass (topS 45) 2
abbrev N_Acceptor_promise : List Str := ["self", "ballot"]
theorem sc_Acceptor_promise : FnScope ["self", "ballot"] ["self", "ballot"] (defScope s_Acceptor_promise) := ⟨rfl, rfl, rfl, by decide +kernel, rfl, by decide +kernel, by decide +kernel⟩
abbrev s_Acceptor_accept : Stmt := inClass (topS 45) 3
abbrev N_Acceptor_accept : List Str := ["self", "ballot", "entry"]
theorem sc_Acceptor_accept : FnScope ["self", "ballot", "entry"] ["self", "ballot", "entry"] (defScope s_Acceptor_accept) := ⟨rfl, rfl, rfl, by decide +kernel, rfl, by decide +kernel, by decide +kernel⟩
abbrev s_Record___init__ : Stmt := inClass (topS 50) 0
abbrev N_Record___init__ : List Str := ["self"]
theorem sc_Record___init__ : FnScope ["self"] ["self"] (defScope s_Record___init__) := ⟨rfl, rfl, rfl, by decide +kernel, rfl, by decide +kernel, by decide +kernel⟩
abbrev s_Record_do : Stmt := inClass (topS 50) 2
abbrev N_Record_do : List Str := ["self", "update", "word"]
theorem sc_Record_do : FnScope ["self", "update", "word"] ["self", "update"] (defScope s_Record_do) := ⟨rfl, rfl, rfl, by decide +kernel, rfl, by decide +kernel, by decide +kernel⟩
abbrev s_Attempt___init__ : Stmt := inClass (topS 54) 0
abbrev N_Attempt___init__ : List Str := ["self", "ballot", "entry", "members"]
theorem sc_Attempt___init__ : FnScope ["self", "ballot", "entry", "members"] ["self", "ballot", "entry", "members"] (defScope s_Attempt___init__) := ⟨rfl, rfl, rfl, by decide +kernel, rfl, by decide +kernel, by decide +kernel⟩
abbrev s_Node___init__ : Stmt := inClass (topS 59) 0
abbrev N_Node___init__ : List Str := ["self", "index", "size", "first_members", "make_machine", "lazy"]
theorem sc_Node___init__ : FnScope ["self", "index", "size", "first_members", "make_machine", "lazy"] ["self", "index", "size", "first_members", "make_machine", "lazy"] (defScope s_Node___init__) := ⟨rfl, rfl, rfl, by decide +kernel, rfl, by decide +kernel, by decide +kernel⟩
abbrev s_Node__begin_anew : Stmt := inClass (topS 59) 1
abbrev N_Node__begin_anew : List Str := ["self"]
theorem sc_Node__begin_anew : FnScope ["self"] ["self"] (defScope s_Node__begin_anew) := ⟨rfl, rfl, rfl, by decide +kernel, rfl, by decide +kernel, by decide +kernel⟩
abbrev s_Node_upto : Stmt := inClass (topS 59) 2
abbrev N_Node_upto : List Str := ["self"]
theorem sc_Node_upto : FnScope ["self"] ["self"] (defScope s_Node_upto) := ⟨rfl, rfl, rfl, by decide +kernel, rfl, by decide +kernel, by decide +kernel⟩
abbrev s_Node_members_now : Stmt := inClass (topS 59) 3
abbrev N_Node_members_now : List Str := ["self"]
theorem sc_Node_members_now : FnScope ["self"] ["self"] (defScope s_Node_members_now) := ⟨rfl, rfl, rfl, by decide +kernel, rfl, by decide +kernel, by decide +kernel⟩
abbrev s_Node_offer : Stmt := inClass (topS 59) 4
abbrev N_Node_offer : List Str := ["self", "command"]
theorem sc_Node_offer : FnScope ["self", "command"] ["self", "command"] (defScope s_Node_offer) := ⟨rfl, rfl, rfl, by decide +kernel, rfl, by decide +kernel, by decide +kernel⟩
abbrev s_Node_offer_members : Stmt := inClass (topS 59) 5
abbrev N_Node_offer_members : List Str := ["self", "members"]
theorem sc_Node_offer_members : FnScope ["self", "members"] ["self", "members"] (defScope s_Node_offer_members) := ⟨rfl, rfl, rfl, by decide +kernel, rfl, by decide +kernel, by decide +kernel⟩
abbrev s_Node_tick : Stmt := inClass (topS 59) 7
abbrev N_Node_tick : List Str := ["self"]
theorem sc_Node_tick : FnScope ["self"] ["self"] (defScope s_Node_tick) := ⟨rfl, rfl, rfl, by decide +kernel, rfl, by decide +kernel, by decide +kernel⟩
abbrev s_Node_sends : Stmt := inClass (topS 59) 12
abbrev N_Node_sends : List Str := ["self", "told"]
theorem sc_Node_sends : FnScope ["self", "told"] ["self"] (defScope s_Node_sends) := ⟨rfl, rfl, rfl, by decide +kernel, rfl, by decide +kernel, by decide +kernel⟩
abbrev s_Node_letters : Stmt := inClass (topS 59) 13
abbrev N_Node_letters : List Str := ["self", "told"]
theorem sc_Node_letters : FnScope ["self", "told"] ["self"] (defScope s_Node_letters) := ⟨rfl, rfl, rfl, by decide +kernel, rfl, by decide +kernel, by decide +kernel⟩
abbrev s_Node_new_votes : Stmt := inClass (topS 59) 14
abbrev N_Node_new_votes : List Str := ["self", "synced", "votes", "frame", "told", "vote"]
theorem sc_Node_new_votes : FnScope ["self", "synced", "votes", "frame", "told", "vote"] ["self"] (defScope s_Node_new_votes) := ⟨rfl, rfl, rfl, by decide +kernel, rfl, by decide +kernel, by decide +kernel⟩
abbrev s_Node__long_patience : Stmt := inClass (topS 59) 16
abbrev N_Node__long_patience : List Str := ["self"]
theorem sc_Node__long_patience : FnScope ["self"] ["self"] (defScope s_Node__long_patience) := ⟨rfl, rfl, rfl, by decide +kernel, rfl, by decide +kernel, by decide +kernel⟩
abbrev s_Node__something_waits : Stmt := inClass (topS 59) 17
abbrev N_Node__something_waits : List Str := ["self"]
theorem sc_Node__something_waits : FnScope ["self"] ["self"] (defScope s_Node__something_waits) := ⟨rfl, rfl, rfl, by decide +kernel, rfl, by decide +kernel, by decide +kernel⟩
abbrev s_Node__may_go_out : Stmt := inClass (topS 59) 18
abbrev N_Node__may_go_out : List Str := ["self"]
theorem sc_Node__may_go_out : FnScope ["self"] ["self"] (defScope s_Node__may_go_out) := ⟨rfl, rfl, rfl, by decide +kernel, rfl, by decide +kernel, by decide +kernel⟩
abbrev s_Node__end_step : Stmt := inClass (topS 59) 21
abbrev N_Node__end_step : List Str := ["self"]
theorem sc_Node__end_step : FnScope ["self"] ["self"] (defScope s_Node__end_step) := ⟨rfl, rfl, rfl, by decide +kernel, rfl, by decide +kernel, by decide +kernel⟩
abbrev s_Node__note : Stmt := inClass (topS 59) 22
abbrev N_Node__note : List Str := ["self", "update"]
theorem sc_Node__note : FnScope ["self", "update"] ["self", "update"] (defScope s_Node__note) := ⟨rfl, rfl, rfl, by decide +kernel, rfl, by decide +kernel, by decide +kernel⟩
abbrev s_Node__send : Stmt := inClass (topS 59) 23
abbrev N_Node__send : List Str := ["self", "index", "body"]
theorem sc_Node__send : FnScope ["self", "index", "body"] ["self", "index", "body"] (defScope s_Node__send) := ⟨rfl, rfl, rfl, by decide +kernel, rfl, by decide +kernel, by decide +kernel⟩
abbrev s_Node__send_to_all : Stmt := inClass (topS 59) 24
abbrev N_Node__send_to_all : List Str := ["self", "body", "index"]
theorem sc_Node__send_to_all : FnScope ["self", "body", "index"] ["self", "body"] (defScope s_Node__send_to_all) := ⟨rfl, rfl, rfl, by decide +kernel, rfl, by decide +kernel, by decide +kernel⟩
abbrev s_Node__send_to_others : Stmt := inClass (topS 59) 25
abbrev N_Node__send_to_others : List Str := ["self", "body", "index"]
theorem sc_Node__send_to_others : FnScope ["self", "body", "index"] ["self", "body"] (defScope s_Node__send_to_others) := ⟨rfl, rfl, rfl, by decide +kernel, rfl, by decide +kernel, by decide +kernel⟩
abbrev s_Node__begin_if_free : Stmt := inClass (topS 59) 26
abbrev N_Node__begin_if_free : List Str := ["self"]
theorem sc_Node__begin_if_free : FnScope ["self"] ["self"] (defScope s_Node__begin_if_free) := ⟨rfl, rfl, rfl, by decide +kernel, rfl, by decide +kernel, by decide +kernel⟩
abbrev s_Node__begin : Stmt := inClass (topS 59) 27
abbrev N_Node__begin : List Str := ["self", "ballot", "slot", "entry"]
theorem sc_Node__begin : FnScope ["self", "ballot", "slot", "entry"] ["self"] (defScope s_Node__begin) := ⟨rfl, rfl, rfl, by decide +kernel, rfl, by decide +kernel, by decide +kernel⟩
abbrev s_Diary___init__ : Stmt := inClass (topS 61) 0
abbrev N_Diary___init__ : List Str := ["self"]
theorem sc_Diary___init__ : FnScope ["self"] ["self"] (defScope s_Diary___init__) := ⟨rfl, rfl, rfl, by decide +kernel, rfl, by decide +kernel, by decide +kernel⟩
abbrev s_Diary_settled : Stmt := inClass (topS 61) 2
abbrev N_Diary_settled : List Str := ["self", "command"]
theorem sc_Diary_settled : FnScope ["self", "command"] ["self", "command"] (defScope s_Diary_settled) := ⟨rfl, rfl, rfl, by decide +kernel, rfl, by decide +kernel, by decide +kernel⟩
abbrev s__law_row : Stmt := topS 63
abbrev N__law_row : List Str := ["script", "k", "cell", "first", "second"]
theorem sc__law_row : FnScope ["script", "k", "cell", "first", "second"] ["script", "k"] (defScope s__law_row) := ⟨rfl, rfl, rfl, by decide +kernel, rfl, by decide +kernel, by decide +kernel⟩
abbrev s__law_take : Stmt := topS 64
abbrev N__law_take : List Str := ["box", "size", "digit"]
theorem sc__law_take : FnScope ["box", "size", "digit"] ["box", "size"] (defScope s__law_take) := ⟨rfl, rfl, rfl, by decide +kernel, rfl, by decide +kernel, by decide +kernel⟩
abbrev s__law_new : Stmt := topS 65
abbrev N__law_new : List Str := ["index", "size", "first", "lazy", "m"]
theorem sc__law_new : FnScope ["index", "size", "first", "lazy", "m"] ["index", "size", "first", "lazy"] (defScope s__law_new) := ⟨rfl, rfl, rfl, by decide +kernel, rfl, by decide +kernel, by decide +kernel⟩
abbrev s__law_forget : Stmt := topS 66
abbrev N__law_forget : List Str := ["m"]
theorem sc__law_forget : FnScope ["m"] ["m"] (defScope s__law_forget) := ⟨rfl, rfl, rfl, by decide +kernel, rfl, by decide +kernel, by decide +kernel⟩
abbrev s__law_members_of : Stmt := topS 67
abbrev N__law_members_of : List Str := ["m", "found", "entry"]
theorem sc__law_members_of : FnScope ["m", "found", "entry"] ["m"] (defScope s__law_members_of) := ⟨rfl, rfl, rfl, by decide +kernel, rfl, by decide +kernel, by decide +kernel⟩
abbrev s__law_do : Stmt := topS 68
abbrev N__law_do : List Str := ["m", "update"]
theorem sc__law_do : FnScope ["m", "update"] ["m", "update"] (defScope s__law_do) := ⟨rfl, rfl, rfl, by decide +kernel, rfl, by decide +kernel, by decide +kernel⟩
abbrev s__law_note : Stmt := topS 69
abbrev N__law_note : List Str := ["m", "update"]
theorem sc__law_note : FnScope ["m", "update"] ["m", "update"] (defScope s__law_note) := ⟨rfl, rfl, rfl, by decide +kernel, rfl, by decide +kernel, by decide +kernel⟩
abbrev s__law_post : Stmt := topS 70
abbrev N__law_post : List Str := ["m", "receivers", "body", "receiver"]
theorem sc__law_post : FnScope ["m", "receivers", "body", "receiver"] ["m", "receivers", "body"] (defScope s__law_post) := ⟨rfl, rfl, rfl, by decide +kernel, rfl, by decide +kernel, by decide +kernel⟩
abbrev s__law_all : Stmt := topS 71
abbrev N__law_all : List Str := ["m", "index"]
theorem sc__law_all : FnScope ["m", "index"] ["m"] (defScope s__law_all) := ⟨rfl, rfl, rfl, by decide +kernel, rfl, by decide +kernel, by decide +kernel⟩
abbrev s__law_others : Stmt := topS 72
abbrev N__law_others : List Str := ["m", "index"]
theorem sc__law_others : FnScope ["m", "index"] ["m"] (defScope s__law_others) := ⟨rfl, rfl, rfl, by decide +kernel, rfl, by decide +kernel, by decide +kernel⟩
abbrev s__law_wishes : Stmt := topS 73
abbrev N__law_wishes : List Str := ["m"]
theorem sc__law_wishes : FnScope ["m"] ["m"] (defScope s__law_wishes) := ⟨rfl, rfl, rfl, by decide +kernel, rfl, by decide +kernel, by decide +kernel⟩
abbrev s__law_begin : Stmt := topS 74
abbrev N__law_begin : List Str := ["m", "turn", "slot", "ballot", "entry"]
theorem sc__law_begin : FnScope ["m", "turn", "slot", "ballot", "entry"] ["m"] (defScope s__law_begin) := ⟨rfl, rfl, rfl, by decide +kernel, rfl, by decide +kernel, by decide +kernel⟩
abbrev s__law_offer : Stmt := topS 77
abbrev N__law_offer : List Str := ["m", "command"]
theorem sc__law_offer : FnScope ["m", "command"] ["m", "command"] (defScope s__law_offer) := ⟨rfl, rfl, rfl, by decide +kernel, rfl, by decide +kernel, by decide +kernel⟩
abbrev s__law_offer_members : Stmt := topS 78
abbrev N__law_offer_members : List Str := ["m", "members"]
theorem sc__law_offer_members : FnScope ["m", "members"] ["m", "members"] (defScope s__law_offer_members) := ⟨rfl, rfl, rfl, by decide +kernel, rfl, by decide +kernel, by decide +kernel⟩
abbrev s__law_end : Stmt := topS 79
abbrev N__law_end : List Str := ["m"]
theorem sc__law_end : FnScope ["m"] ["m"] (defScope s__law_end) := ⟨rfl, rfl, rfl, by decide +kernel, rfl, by decide +kernel, by decide +kernel⟩
abbrev s__law_attempt_agrees : Stmt := topS 83
abbrev N__law_attempt_agrees : List Str := ["attempt", "model"]
theorem sc__law_attempt_agrees : FnScope ["attempt", "model"] ["attempt", "model"] (defScope s__law_attempt_agrees) := ⟨rfl, rfl, rfl, by decide +kernel, rfl, by decide +kernel, by decide +kernel⟩
abbrev s__law_agrees : Stmt := topS 84
abbrev N__law_agrees : List Str := ["node", "m", "acceptor"]
theorem sc__law_agrees : FnScope ["node", "m", "acceptor"] ["node", "m"] (defScope s__law_agrees) := ⟨rfl, rfl, rfl, by decide +kernel, rfl, by decide +kernel, by decide +kernel⟩
abbrev s__law_said : Stmt := topS 85
abbrev N__law_said : List Str := ["node", "m", "messages", "letters", "votes", "update"]
theorem sc__law_said : FnScope ["node", "m", "messages", "letters", "votes", "update"] ["node", "m"] (defScope s__law_said) := ⟨rfl, rfl, rfl, by decide +kernel, rfl, by decide +kernel, by decide +kernel⟩
abbrev s__law_some_members : Stmt := topS 86
abbrev N__law_some_members : List Str := ["box", "size", "members", "index"]
theorem sc__law_some_members : FnScope ["box", "size", "members", "index"] ["box", "size"] (defScope s__law_some_members) := ⟨rfl, rfl, rfl, by decide +kernel, rfl, by decide +kernel, by decide +kernel⟩
abbrev s__law_make : Stmt := topS 91
abbrev N__law_make : List Str := []
theorem sc__law_make : FnScope [] [] (defScope s__law_make) := ⟨rfl, rfl, rfl, by decide +kernel, rfl, by decide +kernel, by decide +kernel⟩
abbrev s__law_start : Stmt := topS 92
abbrev N__law_start : List Str := ["script", "lazy", "box", "size", "index", "first"]
theorem sc__law_start : FnScope ["script", "lazy", "box", "size", "index", "first"] ["script", "lazy"] (defScope s__law_start) := ⟨rfl, rfl, rfl, by decide +kernel, rfl, by decide +kernel, by decide +kernel⟩
abbrev s__law_tick : Stmt := topS 93
abbrev N__law_tick : List Str := ["m"]
theorem sc__law_tick : FnScope ["m"] ["m"] (defScope s__law_tick) := ⟨rfl, rfl, rfl, by decide +kernel, rfl, by decide +kernel, by decide +kernel⟩
abbrev s__law_deed : Stmt := topS 94
abbrev N__law_deed : List Str := ["node", "m", "box", "kind", "command", "members"]
theorem sc__law_deed : FnScope ["node", "m", "box", "kind", "command", "members"] ["node", "m", "box"] (defScope s__law_deed) := ⟨rfl, rfl, rfl, by decide +kernel, rfl, by decide +kernel, by decide +kernel⟩
abbrev s_law : Stmt := topS 95
abbrev N_law : List Str := ["script", "node", "m", "box", "k", "told", "due", "payload"]
theorem sc_law : FnScope ["script", "node", "m", "box", "k", "told", "due", "payload"] ["script"] (defScope s_law) := ⟨rfl, rfl, rfl, by decide +kernel, rfl, by decide +kernel, by decide +kernel⟩
def hd_Journal___init__ : Xk.Df := ⟨fun K => He.ma K (He.ga K "Journal") "__init__", "__init__", "Journal.__init__", defArgs s_Journal___init__, defBody s_Journal___init__, defScope s_Journal___init__, false⟩
def hd_Journal_frame_count : Xk.Df := ⟨fun K => Xk.rcA K (He.ma K (He.ga K "Journal") "frame_count") "property", "frame_count", "Journal.frame_count", defArgs s_Journal_frame_count, defBody s_Journal_frame_count, defScope s_Journal_frame_count, false⟩
def hd_Journal_synced_frames : Xk.Df := ⟨fun K => Xk.rcA K (He.ma K (He.ga K "Journal") "synced_frames") "property", "synced_frames", "Journal.synced_frames", defArgs s_Journal_synced_frames, defBody s_Journal_synced_frames, defScope s_Journal_synced_frames, false⟩
def hd_Journal_append : Xk.Df := ⟨fun K => He.ma K (He.ga K "Journal") "append", "append", "Journal.append", defArgs s_Journal_append, defBody s_Journal_append, defScope s_Journal_append, false⟩
def hd_Journal_sync : Xk.Df := ⟨fun K => He.ma K (He.ga K "Journal") "sync", "sync", "Journal.sync", defArgs s_Journal_sync, defBody s_Journal_sync, defScope s_Journal_sync, false⟩
def hd_Journal_payloads : Xk.Df := ⟨fun K => He.ma K (He.ga K "Journal") "payloads", "payloads", "Journal.payloads", defArgs s_Journal_payloads, defBody s_Journal_payloads, defScope s_Journal_payloads, false⟩
def hd_members_of_slot : Xk.Df := ⟨fun K => He.ga K "members_of_slot", "members_of_slot", "members_of_slot", defArgs s_members_of_slot, defBody s_members_of_slot, defScope s_members_of_slot, false⟩
def hd_batch_of : Xk.Df := ⟨fun K => He.ga K "batch_of", "batch_of", "batch_of", defArgs s_batch_of, defBody s_batch_of, defScope s_batch_of, false⟩
def hd_sign_of : Xk.Df := ⟨fun K => He.ga K "sign_of", "sign_of", "sign_of", defArgs s_sign_of, defBody s_sign_of, defScope s_sign_of, false⟩
def hd_pack : Xk.Df := ⟨fun K => He.ga K "pack", "pack", "pack", defArgs s_pack, defBody s_pack, defScope s_pack, false⟩
def hd__add_data : Xk.Df := ⟨fun K => He.ga K "_add_data", "_add_data", "_add_data", defArgs s__add_data, defBody s__add_data, defScope s__add_data, false⟩
def hd__add_integer : Xk.Df := ⟨fun K => He.ga K "_add_integer", "_add_integer", "_add_integer", defArgs s__add_integer, defBody s__add_integer, defScope s__add_integer, false⟩
def hd__add_sevens : Xk.Df := ⟨fun K => He.ga K "_add_sevens", "_add_sevens", "_add_sevens", defArgs s__add_sevens, defBody s__add_sevens, defScope s__add_sevens, false⟩
def hd_unpack : Xk.Df := ⟨fun K => He.ga K "unpack", "unpack", "unpack", defArgs s_unpack, defBody s_unpack, defScope s_unpack, false⟩
def hd__read_whole : Xk.Df := ⟨fun K => He.ga K "_read_whole", "_read_whole", "_read_whole", defArgs s__read_whole, defBody s__read_whole, defScope s__read_whole, false⟩
def hd__has_great_integer : Xk.Df := ⟨fun K => He.ga K "_has_great_integer", "_has_great_integer", "_has_great_integer", defArgs s__has_great_integer, defBody s__has_great_integer, defScope s__has_great_integer, false⟩
def hd__read_data : Xk.Df := ⟨fun K => He.ga K "_read_data", "_read_data", "_read_data", defArgs s__read_data, defBody s__read_data, defScope s__read_data, false⟩
def hd__read_integer : Xk.Df := ⟨fun K => He.ga K "_read_integer", "_read_integer", "_read_integer", defArgs s__read_integer, defBody s__read_integer, defScope s__read_integer, false⟩
def hd__read_text : Xk.Df := ⟨fun K => He.ga K "_read_text", "_read_text", "_read_text", defArgs s__read_text, defBody s__read_text, defScope s__read_text, false⟩
def hd__read_tuple : Xk.Df := ⟨fun K => He.ga K "_read_tuple", "_read_tuple", "_read_tuple", defArgs s__read_tuple, defBody s__read_tuple, defScope s__read_tuple, false⟩
def hd__read_sevens : Xk.Df := ⟨fun K => He.ga K "_read_sevens", "_read_sevens", "_read_sevens", defArgs s__read_sevens, defBody s__read_sevens, defScope s__read_sevens, false⟩
def hd__octet_at : Xk.Df := ⟨fun K => He.ga K "_octet_at", "_octet_at", "_octet_at", defArgs s__octet_at, defBody s__octet_at, defScope s__octet_at, false⟩
def hd_next_ballot : Xk.Df := ⟨fun K => He.ga K "next_ballot", "next_ballot", "next_ballot", defArgs s_next_ballot, defBody s_next_ballot, defScope s_next_ballot, false⟩
def hd_Acceptor___init__ : Xk.Df := ⟨fun K => He.ma K (He.ga K "Acceptor") "__init__", "__init__", "Acceptor.__init__", defArgs s_Acceptor___init__, defBody s_Acceptor___init__, defScope s_Acceptor___init__, true⟩
def hd_Acceptor_promise : Xk.Df := ⟨fun K => He.ma K (He.ga K "Acceptor") "promise", "promise", "Acceptor.promise", defArgs s_Acceptor_promise, defBody s_Acceptor_promise, defScope s_Acceptor_promise, false⟩
def hd_Acceptor_accept : Xk.Df := ⟨fun K => He.ma K (He.ga K "Acceptor") "accept", "accept", "Acceptor.accept", defArgs s_Acceptor_accept, defBody s_Acceptor_accept, defScope s_Acceptor_accept, false⟩
def hd_Record___init__ : Xk.Df := ⟨fun K => He.ma K (He.ga K "Record") "__init__", "__init__", "Record.__init__", defArgs s_Record___init__, defBody s_Record___init__, defScope s_Record___init__, false⟩
def hd_Record_do : Xk.Df := ⟨fun K => He.ma K (He.ga K "Record") "do", "do", "Record.do", defArgs s_Record_do, defBody s_Record_do, defScope s_Record_do, false⟩
def hd_Attempt___init__ : Xk.Df := ⟨fun K => He.ma K (He.ga K "Attempt") "__init__", "__init__", "Attempt.__init__", defArgs s_Attempt___init__, defBody s_Attempt___init__, defScope s_Attempt___init__, false⟩
def hd_Node___init__ : Xk.Df := ⟨fun K => He.ma K (He.ga K "Node") "__init__", "__init__", "Node.__init__", defArgs s_Node___init__, defBody s_Node___init__, defScope s_Node___init__, false⟩
def hd_Node__begin_anew : Xk.Df := ⟨fun K => He.ma K (He.ga K "Node") "_begin_anew", "_begin_anew", "Node._begin_anew", defArgs s_Node__begin_anew, defBody s_Node__begin_anew, defScope s_Node__begin_anew, false⟩
def hd_Node_upto : Xk.Df := ⟨fun K => Xk.rcA K (He.ma K (He.ga K "Node") "upto") "property", "upto", "Node.upto", defArgs s_Node_upto, defBody s_Node_upto, defScope s_Node_upto, false⟩
def hd_Node_members_now : Xk.Df := ⟨fun K => Xk.rcA K (He.ma K (He.ga K "Node") "members_now") "property", "members_now", "Node.members_now", defArgs s_Node_members_now, defBody s_Node_members_now, defScope s_Node_members_now, false⟩
def hd_Node_offer : Xk.Df := ⟨fun K => He.ma K (He.ga K "Node") "offer", "offer", "Node.offer", defArgs s_Node_offer, defBody s_Node_offer, defScope s_Node_offer, false⟩
def hd_Node_offer_members : Xk.Df := ⟨fun K => He.ma K (He.ga K "Node") "offer_members", "offer_members", "Node.offer_members", defArgs s_Node_offer_members, defBody s_Node_offer_members, defScope s_Node_offer_members, false⟩
def hd_Node_tick : Xk.Df := ⟨fun K => He.ma K (He.ga K "Node") "tick", "tick", "Node.tick", defArgs s_Node_tick, defBody s_Node_tick, defScope s_Node_tick, false⟩
def hd_Node_sends : Xk.Df := ⟨fun K => He.ma K (He.ga K "Node") "sends", "sends", "Node.sends", defArgs s_Node_sends, defBody s_Node_sends, defScope s_Node_sends, false⟩
def hd_Node_letters : Xk.Df := ⟨fun K => He.ma K (He.ga K "Node") "letters", "letters", "Node.letters", defArgs s_Node_letters, defBody s_Node_letters, defScope s_Node_letters, false⟩
def hd_Node_new_votes : Xk.Df := ⟨fun K => He.ma K (He.ga K "Node") "new_votes", "new_votes", "Node.new_votes", defArgs s_Node_new_votes, defBody s_Node_new_votes, defScope s_Node_new_votes, false⟩
def hd_Node__long_patience : Xk.Df := ⟨fun K => He.ma K (He.ga K "Node") "_long_patience", "_long_patience", "Node._long_patience", defArgs s_Node__long_patience, defBody s_Node__long_patience, defScope s_Node__long_patience, false⟩
def hd_Node__something_waits : Xk.Df := ⟨fun K => He.ma K (He.ga K "Node") "_something_waits", "_something_waits", "Node._something_waits", defArgs s_Node__something_waits, defBody s_Node__something_waits, defScope s_Node__something_waits, false⟩
def hd_Node__may_go_out : Xk.Df := ⟨fun K => He.ma K (He.ga K "Node") "_may_go_out", "_may_go_out", "Node._may_go_out", defArgs s_Node__may_go_out, defBody s_Node__may_go_out, defScope s_Node__may_go_out, false⟩
def hd_Node__end_step : Xk.Df := ⟨fun K => He.ma K (He.ga K "Node") "_end_step", "_end_step", "Node._end_step", defArgs s_Node__end_step, defBody s_Node__end_step, defScope s_Node__end_step, false⟩
def hd_Node__note : Xk.Df := ⟨fun K => He.ma K (He.ga K "Node") "_note", "_note", "Node._note", defArgs s_Node__note, defBody s_Node__note, defScope s_Node__note, false⟩
def hd_Node__send : Xk.Df := ⟨fun K => He.ma K (He.ga K "Node") "_send", "_send", "Node._send", defArgs s_Node__send, defBody s_Node__send, defScope s_Node__send, false⟩
def hd_Node__send_to_all : Xk.Df := ⟨fun K => He.ma K (He.ga K "Node") "_send_to_all", "_send_to_all", "Node._send_to_all", defArgs s_Node__send_to_all, defBody s_Node__send_to_all, defScope s_Node__send_to_all, false⟩
def hd_Node__send_to_others : Xk.Df := ⟨fun K => He.ma K (He.ga K "Node") "_send_to_others", "_send_to_others", "Node._send_to_others", defArgs s_Node__send_to_others, defBody s_Node__send_to_others, defScope s_Node__send_to_others, false⟩
def hd_Node__begin_if_free : Xk.Df := ⟨fun K => He.ma K (He.ga K "Node") "_begin_if_free", "_begin_if_free", "Node._begin_if_free", defArgs s_Node__begin_if_free, defBody s_Node__begin_if_free, defScope s_Node__begin_if_free, false⟩
def hd_Node__begin : Xk.Df := ⟨fun K => He.ma K (He.ga K "Node") "_begin", "_begin", "Node._begin", defArgs s_Node__begin, defBody s_Node__begin, defScope s_Node__begin, false⟩
def hd_Diary___init__ : Xk.Df := ⟨fun K => He.ma K (He.ga K "Diary") "__init__", "__init__", "Diary.__init__", defArgs s_Diary___init__, defBody s_Diary___init__, defScope s_Diary___init__, false⟩
def hd_Diary_settled : Xk.Df := ⟨fun K => He.ma K (He.ga K "Diary") "settled", "settled", "Diary.settled", defArgs s_Diary_settled, defBody s_Diary_settled, defScope s_Diary_settled, false⟩
def hd__law_row : Xk.Df := ⟨fun K => He.ga K "_law_row", "_law_row", "_law_row", defArgs s__law_row, defBody s__law_row, defScope s__law_row, false⟩
def hd__law_take : Xk.Df := ⟨fun K => He.ga K "_law_take", "_law_take", "_law_take", defArgs s__law_take, defBody s__law_take, defScope s__law_take, false⟩
def hd__law_new : Xk.Df := ⟨fun K => He.ga K "_law_new", "_law_new", "_law_new", defArgs s__law_new, defBody s__law_new, defScope s__law_new, false⟩
def hd__law_forget : Xk.Df := ⟨fun K => He.ga K "_law_forget", "_law_forget", "_law_forget", defArgs s__law_forget, defBody s__law_forget, defScope s__law_forget, false⟩
def hd__law_members_of : Xk.Df := ⟨fun K => He.ga K "_law_members_of", "_law_members_of", "_law_members_of", defArgs s__law_members_of, defBody s__law_members_of, defScope s__law_members_of, false⟩
def hd__law_do : Xk.Df := ⟨fun K => He.ga K "_law_do", "_law_do", "_law_do", defArgs s__law_do, defBody s__law_do, defScope s__law_do, false⟩
def hd__law_note : Xk.Df := ⟨fun K => He.ga K "_law_note", "_law_note", "_law_note", defArgs s__law_note, defBody s__law_note, defScope s__law_note, false⟩
def hd__law_post : Xk.Df := ⟨fun K => He.ga K "_law_post", "_law_post", "_law_post", defArgs s__law_post, defBody s__law_post, defScope s__law_post, false⟩
def hd__law_all : Xk.Df := ⟨fun K => He.ga K "_law_all", "_law_all", "_law_all", defArgs s__law_all, defBody s__law_all, defScope s__law_all, false⟩
def hd__law_others : Xk.Df := ⟨fun K => He.ga K "_law_others", "_law_others", "_law_others", defArgs s__law_others, defBody s__law_others, defScope s__law_others, false⟩
def hd__law_wishes : Xk.Df := ⟨fun K => He.ga K "_law_wishes", "_law_wishes", "_law_wishes", defArgs s__law_wishes, defBody s__law_wishes, defScope s__law_wishes, false⟩
def hd__law_begin : Xk.Df := ⟨fun K => He.ga K "_law_begin", "_law_begin", "_law_begin", defArgs s__law_begin, defBody s__law_begin, defScope s__law_begin, false⟩
def hd__law_offer : Xk.Df := ⟨fun K => He.ga K "_law_offer", "_law_offer", "_law_offer", defArgs s__law_offer, defBody s__law_offer, defScope s__law_offer, false⟩
def hd__law_offer_members : Xk.Df := ⟨fun K => He.ga K "_law_offer_members", "_law_offer_members", "_law_offer_members", defArgs s__law_offer_members, defBody s__law_offer_members, defScope s__law_offer_members, false⟩
def hd__law_end : Xk.Df := ⟨fun K => He.ga K "_law_end", "_law_end", "_law_end", defArgs s__law_end, defBody s__law_end, defScope s__law_end, false⟩
def hd__law_attempt_agrees : Xk.Df := ⟨fun K => He.ga K "_law_attempt_agrees", "_law_attempt_agrees", "_law_attempt_agrees", defArgs s__law_attempt_agrees, defBody s__law_attempt_agrees, defScope s__law_attempt_agrees, false⟩
def hd__law_agrees : Xk.Df := ⟨fun K => He.ga K "_law_agrees", "_law_agrees", "_law_agrees", defArgs s__law_agrees, defBody s__law_agrees, defScope s__law_agrees, false⟩
def hd__law_said : Xk.Df := ⟨fun K => He.ga K "_law_said", "_law_said", "_law_said", defArgs s__law_said, defBody s__law_said, defScope s__law_said, false⟩
def hd__law_some_members : Xk.Df := ⟨fun K => He.ga K "_law_some_members", "_law_some_members", "_law_some_members", defArgs s__law_some_members, defBody s__law_some_members, defScope s__law_some_members, false⟩
def hd__law_make : Xk.Df := ⟨fun K => He.ga K "_law_make", "_law_make", "_law_make", defArgs s__law_make, defBody s__law_make, defScope s__law_make, false⟩
def hd__law_start : Xk.Df := ⟨fun K => He.ga K "_law_start", "_law_start", "_law_start", defArgs s__law_start, defBody s__law_start, defScope s__law_start, false⟩
def hd__law_tick : Xk.Df := ⟨fun K => He.ga K "_law_tick", "_law_tick", "_law_tick", defArgs s__law_tick, defBody s__law_tick, defScope s__law_tick, false⟩
def hd__law_deed : Xk.Df := ⟨fun K => He.ga K "_law_deed", "_law_deed", "_law_deed", defArgs s__law_deed, defBody s__law_deed, defScope s__law_deed, false⟩
def hd_law : Xk.Df := ⟨fun K => He.ga K "law", "law", "law", defArgs s_law, defBody s_law, defScope s_law, false⟩
def cks0_0 : List (PySem.W.Frag → Bool) := [fun K => He.eqO (PySem.W.nsIn K mainGlobals "Acceptor") (some (some (.ref (He.ga K "Acceptor")))),
  fun K => PySem.W.plainGet K (He.ga K "Acceptor") Str.empty,
  fun K => PySem.W.hasDictIn K (He.ga K "Acceptor"),
  fun K => PySem.W.plainOver K (He.ga K "Acceptor"),
  fun K => He.eqO (PySem.W.findIn K (.ref (He.ga K "Acceptor")) "__setattr__") (some (some (.builtin "object.__setattr__"))),
  fun K => PySem.W.makesIn K (He.ga K "Acceptor"),
  fun K => PySem.W.keepIn K (.ref (He.ga K "Acceptor")),
  fun K => He.eqO (PySem.W.findIn K (.ref (He.ga K "Acceptor")) "promised") (some none),
  fun K => He.eqO (PySem.W.findIn K (.ref (He.ga K "Acceptor")) "accepted") (some none),
  fun K => He.eqO (PySem.W.nsIn K mainGlobals "Attempt") (some (some (.ref (He.ga K "Attempt")))),
  fun K => PySem.W.plainGet K (He.ga K "Attempt") Str.empty,
  fun K => PySem.W.hasDictIn K (He.ga K "Attempt"),
  fun K => PySem.W.plainOver K (He.ga K "Attempt"),
  fun K => He.eqO (PySem.W.findIn K (.ref (He.ga K "Attempt")) "__setattr__") (some (some (.builtin "object.__setattr__"))),
  fun K => PySem.W.makesIn K (He.ga K "Attempt"),
  fun K => PySem.W.keepIn K (.ref (He.ga K "Attempt")),
  fun K => He.eqO (PySem.W.findIn K (.ref (He.ga K "Attempt")) "ballot") (some none),
  fun K => He.eqO (PySem.W.findIn K (.ref (He.ga K "Attempt")) "entry") (some none),
  fun K => He.eqO (PySem.W.findIn K (.ref (He.ga K "Attempt")) "members") (some none)]
def cks0_1 : List (PySem.W.Frag → Bool) := [fun K => He.eqO (PySem.W.findIn K (.ref (He.ga K "Attempt")) "stage") (some none),
  fun K => He.eqO (PySem.W.findIn K (.ref (He.ga K "Attempt")) "promised_by") (some none),
  fun K => He.eqO (PySem.W.findIn K (.ref (He.ga K "Attempt")) "voted_by") (some none),
  fun K => He.eqO (PySem.W.findIn K (.ref (He.ga K "Attempt")) "bound") (some none),
  fun K => He.eqO (PySem.W.nsIn K mainGlobals "Diary") (some (some (.ref (He.ga K "Diary")))),
  fun K => PySem.W.plainGet K (He.ga K "Diary") Str.empty,
  fun K => PySem.W.hasDictIn K (He.ga K "Diary"),
  fun K => PySem.W.plainOver K (He.ga K "Diary"),
  fun K => He.eqO (PySem.W.findIn K (.ref (He.ga K "Diary")) "__setattr__") (some (some (.builtin "object.__setattr__"))),
  fun K => PySem.W.makesIn K (He.ga K "Diary"),
  fun K => PySem.W.keepIn K (.ref (He.ga K "Diary")),
  fun K => He.eqO (PySem.W.findIn K (.ref (He.ga K "Diary")) "lines") (some none),
  fun K => He.eqO (PySem.W.nsIn K mainGlobals "Journal") (some (some (.ref (He.ga K "Journal")))),
  fun K => PySem.W.plainGet K (He.ga K "Journal") Str.empty,
  fun K => PySem.W.hasDictIn K (He.ga K "Journal"),
  fun K => PySem.W.plainOver K (He.ga K "Journal"),
  fun K => He.eqO (PySem.W.findIn K (.ref (He.ga K "Journal")) "__setattr__") (some (some (.builtin "object.__setattr__"))),
  fun K => PySem.W.makesIn K (He.ga K "Journal"),
  fun K => PySem.W.keepIn K (.ref (He.ga K "Journal"))]
def cks0_2 : List (PySem.W.Frag → Bool) := [fun K => He.eqO (PySem.W.findIn K (.ref (He.ga K "Journal")) "_payloads") (some none),
  fun K => He.eqO (PySem.W.findIn K (.ref (He.ga K "Journal")) "_sizes") (some none),
  fun K => He.eqO (PySem.W.findIn K (.ref (He.ga K "Journal")) "_synced") (some none),
  fun K => He.eqO (PySem.W.nsIn K mainGlobals "Node") (some (some (.ref (He.ga K "Node")))),
  fun K => PySem.W.plainGet K (He.ga K "Node") Str.empty,
  fun K => PySem.W.hasDictIn K (He.ga K "Node"),
  fun K => PySem.W.plainOver K (He.ga K "Node"),
  fun K => He.eqO (PySem.W.findIn K (.ref (He.ga K "Node")) "__setattr__") (some (some (.builtin "object.__setattr__"))),
  fun K => PySem.W.makesIn K (He.ga K "Node"),
  fun K => PySem.W.keepIn K (.ref (He.ga K "Node")),
  fun K => He.eqO (PySem.W.findIn K (.ref (He.ga K "Node")) "index") (some none),
  fun K => He.eqO (PySem.W.findIn K (.ref (He.ga K "Node")) "size") (some none),
  fun K => He.eqO (PySem.W.findIn K (.ref (He.ga K "Node")) "first_members") (some none),
  fun K => He.eqO (PySem.W.findIn K (.ref (He.ga K "Node")) "lazy") (some none),
  fun K => He.eqO (PySem.W.findIn K (.ref (He.ga K "Node")) "state") (some none),
  fun K => He.eqO (PySem.W.findIn K (.ref (He.ga K "Node")) "journal") (some none),
  fun K => He.eqO (PySem.W.findIn K (.ref (He.ga K "Node")) "record") (some none),
  fun K => He.eqO (PySem.W.findIn K (.ref (He.ga K "Node")) "_make_machine") (some none),
  fun K => He.eqO (PySem.W.findIn K (.ref (He.ga K "Node")) "_untold") (some none)]
def cks0_3 : List (PySem.W.Frag → Bool) := [fun K => He.eqO (PySem.W.findIn K (.ref (He.ga K "Node")) "waiting") (some none),
  fun K => He.eqO (PySem.W.findIn K (.ref (He.ga K "Node")) "wanted") (some none),
  fun K => He.eqO (PySem.W.findIn K (.ref (He.ga K "Node")) "attempt") (some none),
  fun K => He.eqO (PySem.W.findIn K (.ref (He.ga K "Node")) "patience") (some none),
  fun K => He.eqO (PySem.W.findIn K (.ref (He.ga K "Node")) "guest") (some none),
  fun K => He.eqO (PySem.W.findIn K (.ref (He.ga K "Node")) "seen") (some none),
  fun K => He.eqO (PySem.W.findIn K (.ref (He.ga K "Node")) "machine") (some none),
  fun K => He.eqO (PySem.W.findIn K (.ref (He.ga K "Node")) "_sends") (some none),
  fun K => He.eqO (PySem.W.findIn K (.ref (He.ga K "Node")) "_letters") (some none),
  fun K => He.eqO (PySem.W.nsIn K mainGlobals "Record") (some (some (.ref (He.ga K "Record")))),
  fun K => PySem.W.plainGet K (He.ga K "Record") Str.empty,
  fun K => PySem.W.hasDictIn K (He.ga K "Record"),
  fun K => PySem.W.plainOver K (He.ga K "Record"),
  fun K => He.eqO (PySem.W.findIn K (.ref (He.ga K "Record")) "__setattr__") (some (some (.builtin "object.__setattr__"))),
  fun K => PySem.W.makesIn K (He.ga K "Record"),
  fun K => PySem.W.keepIn K (.ref (He.ga K "Record")),
  fun K => He.eqO (PySem.W.findIn K (.ref (He.ga K "Record")) "row") (some none),
  fun K => He.eqO (PySem.W.findIn K (.ref (He.ga K "Record")) "acceptor") (some none),
  fun K => He.eqO (PySem.W.findIn K (.ref (He.ga K "Journal")) "__init__") (some (some (.ref (He.ma K (He.ga K "Journal") "__init__"))))]
def cks0 : List (PySem.W.Frag → Bool) := cks0_0 ++ cks0_1 ++ cks0_2 ++ cks0_3
def dfs0 : List Xk.Df := [hd_Journal___init__, hd_Journal_frame_count, hd_Journal_synced_frames, hd_Journal_append, hd_Journal_sync, hd_Journal_payloads, hd_members_of_slot, hd_batch_of, hd_sign_of, hd_pack, hd__add_data, hd__add_integer, hd__add_sevens, hd_unpack, hd__read_whole, hd__has_great_integer, hd__read_data, hd__read_integer, hd__read_text, hd__read_tuple, hd__read_sevens, hd__octet_at, hd_next_ballot, hd_Acceptor___init__, hd_Acceptor_promise]
def cks1_0 : List (PySem.W.Frag → Bool) := [fun K => PySem.W.isFn K (.ref (He.ma K (He.ga K "Journal") "__init__")),
  fun K => He.eqO (PySem.W.findIn K (.ref (He.ga K "Journal")) "frame_count") (some (some (.ref (He.ma K (He.ga K "Journal") "frame_count")))),
  fun K => He.eqO (PySem.W.specialIn K (.ref (He.ma K (He.ga K "Journal") "frame_count")) "__get__") (some (some (.builtin "property.__get__"))),
  fun K => decide (PySem.W.takesIn K (.ref (He.ma K (He.ga K "Journal") "frame_count")) = some true),
  fun K => Xk.rcIs K (He.ma K (He.ga K "Journal") "frame_count") "property",
  fun K => He.eqO (PySem.W.findIn K (.ref (He.ga K "Journal")) "synced_frames") (some (some (.ref (He.ma K (He.ga K "Journal") "synced_frames")))),
  fun K => He.eqO (PySem.W.specialIn K (.ref (He.ma K (He.ga K "Journal") "synced_frames")) "__get__") (some (some (.builtin "property.__get__"))),
  fun K => decide (PySem.W.takesIn K (.ref (He.ma K (He.ga K "Journal") "synced_frames")) = some true),
  fun K => Xk.rcIs K (He.ma K (He.ga K "Journal") "synced_frames") "property",
  fun K => He.eqO (PySem.W.findIn K (.ref (He.ga K "Journal")) "append") (some (some (.ref (He.ma K (He.ga K "Journal") "append")))),
  fun K => PySem.W.isFn K (.ref (He.ma K (He.ga K "Journal") "append")),
  fun K => He.eqO (PySem.W.findIn K (.ref (He.ga K "Journal")) "sync") (some (some (.ref (He.ma K (He.ga K "Journal") "sync")))),
  fun K => PySem.W.isFn K (.ref (He.ma K (He.ga K "Journal") "sync")),
  fun K => He.eqO (PySem.W.findIn K (.ref (He.ga K "Journal")) "payloads") (some (some (.ref (He.ma K (He.ga K "Journal") "payloads")))),
  fun K => PySem.W.isFn K (.ref (He.ma K (He.ga K "Journal") "payloads")),
  fun K => He.eqO (PySem.W.nsIn K mainGlobals "members_of_slot") (some (some (.ref (He.ga K "members_of_slot")))),
  fun K => He.eqO (PySem.W.nsIn K mainGlobals "batch_of") (some (some (.ref (He.ga K "batch_of")))),
  fun K => He.eqO (PySem.W.nsIn K mainGlobals "sign_of") (some (some (.ref (He.ga K "sign_of")))),
  fun K => He.eqO (PySem.W.nsIn K mainGlobals "pack") (some (some (.ref (He.ga K "pack"))))]
def cks1_1 : List (PySem.W.Frag → Bool) := [fun K => He.eqO (PySem.W.nsIn K mainGlobals "_add_data") (some (some (.ref (He.ga K "_add_data")))),
  fun K => He.eqO (PySem.W.nsIn K mainGlobals "_add_integer") (some (some (.ref (He.ga K "_add_integer")))),
  fun K => He.eqO (PySem.W.nsIn K mainGlobals "_add_sevens") (some (some (.ref (He.ga K "_add_sevens")))),
  fun K => He.eqO (PySem.W.nsIn K mainGlobals "unpack") (some (some (.ref (He.ga K "unpack")))),
  fun K => He.eqO (PySem.W.nsIn K mainGlobals "_read_whole") (some (some (.ref (He.ga K "_read_whole")))),
  fun K => He.eqO (PySem.W.nsIn K mainGlobals "_has_great_integer") (some (some (.ref (He.ga K "_has_great_integer")))),
  fun K => He.eqO (PySem.W.nsIn K mainGlobals "_read_data") (some (some (.ref (He.ga K "_read_data")))),
  fun K => He.eqO (PySem.W.nsIn K mainGlobals "_read_integer") (some (some (.ref (He.ga K "_read_integer")))),
  fun K => He.eqO (PySem.W.nsIn K mainGlobals "_read_text") (some (some (.ref (He.ga K "_read_text")))),
  fun K => He.eqO (PySem.W.nsIn K mainGlobals "_read_tuple") (some (some (.ref (He.ga K "_read_tuple")))),
  fun K => He.eqO (PySem.W.nsIn K mainGlobals "_read_sevens") (some (some (.ref (He.ga K "_read_sevens")))),
  fun K => He.eqO (PySem.W.nsIn K mainGlobals "_octet_at") (some (some (.ref (He.ga K "_octet_at")))),
  fun K => He.eqO (PySem.W.nsIn K mainGlobals "next_ballot") (some (some (.ref (He.ga K "next_ballot")))),
  fun K => He.eqO (PySem.W.findIn K (.ref (He.ga K "Acceptor")) "__init__") (some (some (.ref (He.ma K (He.ga K "Acceptor") "__init__")))),
  fun K => PySem.W.isFn K (.ref (He.ma K (He.ga K "Acceptor") "__init__")),
  fun K => He.eqO (PySem.W.findIn K (.ref (He.ga K "Acceptor")) "promise") (some (some (.ref (He.ma K (He.ga K "Acceptor") "promise")))),
  fun K => PySem.W.isFn K (.ref (He.ma K (He.ga K "Acceptor") "promise")),
  fun K => He.eqO (PySem.W.findIn K (.ref (He.ga K "Acceptor")) "accept") (some (some (.ref (He.ma K (He.ga K "Acceptor") "accept")))),
  fun K => PySem.W.isFn K (.ref (He.ma K (He.ga K "Acceptor") "accept"))]
def cks1_2 : List (PySem.W.Frag → Bool) := [fun K => He.eqO (PySem.W.findIn K (.ref (He.ga K "Record")) "__init__") (some (some (.ref (He.ma K (He.ga K "Record") "__init__")))),
  fun K => PySem.W.isFn K (.ref (He.ma K (He.ga K "Record") "__init__")),
  fun K => He.eqO (PySem.W.findIn K (.ref (He.ga K "Record")) "do") (some (some (.ref (He.ma K (He.ga K "Record") "do")))),
  fun K => PySem.W.isFn K (.ref (He.ma K (He.ga K "Record") "do")),
  fun K => He.eqO (PySem.W.findIn K (.ref (He.ga K "Attempt")) "__init__") (some (some (.ref (He.ma K (He.ga K "Attempt") "__init__")))),
  fun K => PySem.W.isFn K (.ref (He.ma K (He.ga K "Attempt") "__init__")),
  fun K => He.eqO (PySem.W.findIn K (.ref (He.ga K "Node")) "__init__") (some (some (.ref (He.ma K (He.ga K "Node") "__init__")))),
  fun K => PySem.W.isFn K (.ref (He.ma K (He.ga K "Node") "__init__")),
  fun K => He.eqO (PySem.W.findIn K (.ref (He.ga K "Node")) "_begin_anew") (some (some (.ref (He.ma K (He.ga K "Node") "_begin_anew")))),
  fun K => PySem.W.isFn K (.ref (He.ma K (He.ga K "Node") "_begin_anew")),
  fun K => He.eqO (PySem.W.findIn K (.ref (He.ga K "Node")) "upto") (some (some (.ref (He.ma K (He.ga K "Node") "upto")))),
  fun K => He.eqO (PySem.W.specialIn K (.ref (He.ma K (He.ga K "Node") "upto")) "__get__") (some (some (.builtin "property.__get__"))),
  fun K => decide (PySem.W.takesIn K (.ref (He.ma K (He.ga K "Node") "upto")) = some true),
  fun K => Xk.rcIs K (He.ma K (He.ga K "Node") "upto") "property",
  fun K => He.eqO (PySem.W.findIn K (.ref (He.ga K "Node")) "members_now") (some (some (.ref (He.ma K (He.ga K "Node") "members_now")))),
  fun K => He.eqO (PySem.W.specialIn K (.ref (He.ma K (He.ga K "Node") "members_now")) "__get__") (some (some (.builtin "property.__get__"))),
  fun K => decide (PySem.W.takesIn K (.ref (He.ma K (He.ga K "Node") "members_now")) = some true),
  fun K => Xk.rcIs K (He.ma K (He.ga K "Node") "members_now") "property",
  fun K => He.eqO (PySem.W.findIn K (.ref (He.ga K "Node")) "offer") (some (some (.ref (He.ma K (He.ga K "Node") "offer"))))]
def cks1_3 : List (PySem.W.Frag → Bool) := [fun K => PySem.W.isFn K (.ref (He.ma K (He.ga K "Node") "offer")),
  fun K => He.eqO (PySem.W.findIn K (.ref (He.ga K "Node")) "offer_members") (some (some (.ref (He.ma K (He.ga K "Node") "offer_members")))),
  fun K => PySem.W.isFn K (.ref (He.ma K (He.ga K "Node") "offer_members")),
  fun K => He.eqO (PySem.W.findIn K (.ref (He.ga K "Node")) "tick") (some (some (.ref (He.ma K (He.ga K "Node") "tick")))),
  fun K => PySem.W.isFn K (.ref (He.ma K (He.ga K "Node") "tick")),
  fun K => He.eqO (PySem.W.findIn K (.ref (He.ga K "Node")) "sends") (some (some (.ref (He.ma K (He.ga K "Node") "sends")))),
  fun K => PySem.W.isFn K (.ref (He.ma K (He.ga K "Node") "sends")),
  fun K => He.eqO (PySem.W.findIn K (.ref (He.ga K "Node")) "letters") (some (some (.ref (He.ma K (He.ga K "Node") "letters")))),
  fun K => PySem.W.isFn K (.ref (He.ma K (He.ga K "Node") "letters")),
  fun K => He.eqO (PySem.W.findIn K (.ref (He.ga K "Node")) "new_votes") (some (some (.ref (He.ma K (He.ga K "Node") "new_votes")))),
  fun K => PySem.W.isFn K (.ref (He.ma K (He.ga K "Node") "new_votes")),
  fun K => He.eqO (PySem.W.findIn K (.ref (He.ga K "Node")) "_long_patience") (some (some (.ref (He.ma K (He.ga K "Node") "_long_patience")))),
  fun K => PySem.W.isFn K (.ref (He.ma K (He.ga K "Node") "_long_patience")),
  fun K => He.eqO (PySem.W.findIn K (.ref (He.ga K "Node")) "_something_waits") (some (some (.ref (He.ma K (He.ga K "Node") "_something_waits")))),
  fun K => PySem.W.isFn K (.ref (He.ma K (He.ga K "Node") "_something_waits")),
  fun K => He.eqO (PySem.W.findIn K (.ref (He.ga K "Node")) "_may_go_out") (some (some (.ref (He.ma K (He.ga K "Node") "_may_go_out")))),
  fun K => PySem.W.isFn K (.ref (He.ma K (He.ga K "Node") "_may_go_out")),
  fun K => He.eqO (PySem.W.findIn K (.ref (He.ga K "Node")) "_end_step") (some (some (.ref (He.ma K (He.ga K "Node") "_end_step")))),
  fun K => PySem.W.isFn K (.ref (He.ma K (He.ga K "Node") "_end_step"))]
def cks1 : List (PySem.W.Frag → Bool) := cks1_0 ++ cks1_1 ++ cks1_2 ++ cks1_3
def dfs1 : List Xk.Df := [hd_Acceptor_accept, hd_Record___init__, hd_Record_do, hd_Attempt___init__, hd_Node___init__, hd_Node__begin_anew, hd_Node_upto, hd_Node_members_now, hd_Node_offer, hd_Node_offer_members, hd_Node_tick, hd_Node_sends, hd_Node_letters, hd_Node_new_votes, hd_Node__long_patience, hd_Node__something_waits, hd_Node__may_go_out, hd_Node__end_step, hd_Node__note, hd_Node__send, hd_Node__send_to_all, hd_Node__send_to_others, hd_Node__begin_if_free, hd_Node__begin, hd_Diary___init__]
def cks2_0 : List (PySem.W.Frag → Bool) := [fun K => He.eqO (PySem.W.findIn K (.ref (He.ga K "Node")) "_note") (some (some (.ref (He.ma K (He.ga K "Node") "_note")))),
  fun K => PySem.W.isFn K (.ref (He.ma K (He.ga K "Node") "_note")),
  fun K => He.eqO (PySem.W.findIn K (.ref (He.ga K "Node")) "_send") (some (some (.ref (He.ma K (He.ga K "Node") "_send")))),
  fun K => PySem.W.isFn K (.ref (He.ma K (He.ga K "Node") "_send")),
  fun K => He.eqO (PySem.W.findIn K (.ref (He.ga K "Node")) "_send_to_all") (some (some (.ref (He.ma K (He.ga K "Node") "_send_to_all")))),
  fun K => PySem.W.isFn K (.ref (He.ma K (He.ga K "Node") "_send_to_all")),
  fun K => He.eqO (PySem.W.findIn K (.ref (He.ga K "Node")) "_send_to_others") (some (some (.ref (He.ma K (He.ga K "Node") "_send_to_others")))),
  fun K => PySem.W.isFn K (.ref (He.ma K (He.ga K "Node") "_send_to_others")),
  fun K => He.eqO (PySem.W.findIn K (.ref (He.ga K "Node")) "_begin_if_free") (some (some (.ref (He.ma K (He.ga K "Node") "_begin_if_free")))),
  fun K => PySem.W.isFn K (.ref (He.ma K (He.ga K "Node") "_begin_if_free")),
  fun K => He.eqO (PySem.W.findIn K (.ref (He.ga K "Node")) "_begin") (some (some (.ref (He.ma K (He.ga K "Node") "_begin")))),
  fun K => PySem.W.isFn K (.ref (He.ma K (He.ga K "Node") "_begin")),
  fun K => He.eqO (PySem.W.findIn K (.ref (He.ga K "Diary")) "__init__") (some (some (.ref (He.ma K (He.ga K "Diary") "__init__")))),
  fun K => PySem.W.isFn K (.ref (He.ma K (He.ga K "Diary") "__init__")),
  fun K => He.eqO (PySem.W.findIn K (.ref (He.ga K "Diary")) "settled") (some (some (.ref (He.ma K (He.ga K "Diary") "settled")))),
  fun K => PySem.W.isFn K (.ref (He.ma K (He.ga K "Diary") "settled")),
  fun K => He.eqO (PySem.W.nsIn K mainGlobals "_law_row") (some (some (.ref (He.ga K "_law_row")))),
  fun K => He.eqO (PySem.W.nsIn K mainGlobals "_law_take") (some (some (.ref (He.ga K "_law_take")))),
  fun K => He.eqO (PySem.W.nsIn K mainGlobals "_law_new") (some (some (.ref (He.ga K "_law_new"))))]
def cks2_1 : List (PySem.W.Frag → Bool) := [fun K => He.eqO (PySem.W.nsIn K mainGlobals "_law_forget") (some (some (.ref (He.ga K "_law_forget")))),
  fun K => He.eqO (PySem.W.nsIn K mainGlobals "_law_members_of") (some (some (.ref (He.ga K "_law_members_of")))),
  fun K => He.eqO (PySem.W.nsIn K mainGlobals "_law_do") (some (some (.ref (He.ga K "_law_do")))),
  fun K => He.eqO (PySem.W.nsIn K mainGlobals "_law_note") (some (some (.ref (He.ga K "_law_note")))),
  fun K => He.eqO (PySem.W.nsIn K mainGlobals "_law_post") (some (some (.ref (He.ga K "_law_post")))),
  fun K => He.eqO (PySem.W.nsIn K mainGlobals "_law_all") (some (some (.ref (He.ga K "_law_all")))),
  fun K => He.eqO (PySem.W.nsIn K mainGlobals "_law_others") (some (some (.ref (He.ga K "_law_others")))),
  fun K => He.eqO (PySem.W.nsIn K mainGlobals "_law_wishes") (some (some (.ref (He.ga K "_law_wishes")))),
  fun K => He.eqO (PySem.W.nsIn K mainGlobals "_law_begin") (some (some (.ref (He.ga K "_law_begin")))),
  fun K => He.eqO (PySem.W.nsIn K mainGlobals "_law_offer") (some (some (.ref (He.ga K "_law_offer")))),
  fun K => He.eqO (PySem.W.nsIn K mainGlobals "_law_offer_members") (some (some (.ref (He.ga K "_law_offer_members")))),
  fun K => He.eqO (PySem.W.nsIn K mainGlobals "_law_end") (some (some (.ref (He.ga K "_law_end")))),
  fun K => He.eqO (PySem.W.nsIn K mainGlobals "_law_attempt_agrees") (some (some (.ref (He.ga K "_law_attempt_agrees")))),
  fun K => He.eqO (PySem.W.nsIn K mainGlobals "_law_agrees") (some (some (.ref (He.ga K "_law_agrees")))),
  fun K => He.eqO (PySem.W.nsIn K mainGlobals "_law_said") (some (some (.ref (He.ga K "_law_said")))),
  fun K => He.eqO (PySem.W.nsIn K mainGlobals "_law_some_members") (some (some (.ref (He.ga K "_law_some_members")))),
  fun K => He.eqO (PySem.W.nsIn K mainGlobals "_law_make") (some (some (.ref (He.ga K "_law_make")))),
  fun K => He.eqO (PySem.W.nsIn K mainGlobals "_law_start") (some (some (.ref (He.ga K "_law_start")))),
  fun K => He.eqO (PySem.W.nsIn K mainGlobals "_law_tick") (some (some (.ref (He.ga K "_law_tick"))))]
def cks2_2 : List (PySem.W.Frag → Bool) := [fun K => He.eqO (PySem.W.nsIn K mainGlobals "_law_deed") (some (some (.ref (He.ga K "_law_deed")))),
  fun K => He.eqO (PySem.W.nsIn K mainGlobals "law") (some (some (.ref (He.ga K "law")))),
  Xk.strIs "ACCEPT" "accept",
  Xk.strIs "ASKING" "asking",
  Xk.strIs "BATCH" "batch",
  Xk.intIs "BELOW_ZERO" 2,
  Xk.strIs "CHOSEN" "chosen",
  Xk.intIs "FRAME_HEAD" 6,
  Xk.intIs "FROM_ZERO" 1,
  Xk.strIs "HIGH_SIGNS" "&'()*+,-./0123456789:;<=>?@ABCDEFGHIJKLMNOPQRSTUVWXYZ[\\]^_`abcdefghijklmnopqrstuvwxyz{|}~",
  Xk.intIs "LONG_PATIENCE" 6,
  Xk.strIs "LOW_SIGNS" " !\"#$",
  Xk.strIs "MEMBERS" "members",
  Xk.intIs "MOST_BATCH" 8,
  Xk.intIs "MOST_DEPTH" 40,
  Xk.intIs "MOST_INTEGER" 1000000000000000000,
  Xk.intIs "MOST_ROUND" 9999,
  Xk.intIs "MOST_WAITING" 16,
  Xk.intIs "NOTHING" 0]
def cks2_3 : List (PySem.W.Frag → Bool) := [fun K => He.eqO (PySem.W.nsIn K mainGlobals "NO_BALLOT") (some (some (.ref (He.ga K "NO_BALLOT")))),
  fun K => Xk.tupI 0 0 (He.ga K "NO_BALLOT") K,
  Xk.strIs "PROMISE" "promise",
  Xk.intIs "TEXT" 3,
  Xk.intIs "TUPLE" 4,
  Xk.strIs "UP" "up",
  fun K => Xk.tupRN hd_Acceptor___init__ (He.ga K "NO_BALLOT") K,
  fun K => He.eqO (PySem.W.nsIn K mainGlobals "any") (some none),
  fun K => He.eqO (PySem.W.nsIn K mainGlobals "bool") (some none),
  fun K => He.eqO (PySem.W.nsIn K mainGlobals "int") (some none),
  fun K => He.eqO (PySem.W.nsIn K mainGlobals "isinstance") (some none),
  fun K => He.eqO (PySem.W.nsIn K mainGlobals "len") (some none),
  fun K => He.eqO (PySem.W.nsIn K mainGlobals "list") (some none),
  fun K => He.eqO (PySem.W.nsIn K mainGlobals "max") (some none),
  fun K => He.eqO (PySem.W.nsIn K mainGlobals "ord") (some none),
  fun K => He.eqO (PySem.W.nsIn K mainGlobals "range") (some none),
  fun K => He.eqO (PySem.W.nsIn K mainGlobals "reversed") (some none),
  fun K => He.eqO (PySem.W.nsIn K mainGlobals "str") (some none),
  fun K => He.eqO (PySem.W.nsIn K mainGlobals "tuple") (some none)]
def cks2 : List (PySem.W.Frag → Bool) := cks2_0 ++ cks2_1 ++ cks2_2 ++ cks2_3
def dfs2 : List Xk.Df := [hd_Diary_settled, hd__law_row, hd__law_take, hd__law_new, hd__law_forget, hd__law_members_of, hd__law_do, hd__law_note, hd__law_post, hd__law_all, hd__law_others, hd__law_wishes, hd__law_begin, hd__law_offer, hd__law_offer_members, hd__law_end, hd__law_attempt_agrees, hd__law_agrees, hd__law_said, hd__law_some_members, hd__law_make, hd__law_start, hd__law_tick, hd__law_deed, hd_law]
def nms0 : List PySem.Str := ["_wall", "FRAME_HEAD", "Journal", "MOST_BATCH", "MOST_WAITING", "BATCH", "MEMBERS", "members_of_slot", "batch_of", "LOW_SIGNS", "HIGH_SIGNS", "sign_of", "CrossError", "Malformed", "MOST_DEPTH", "MOST_INTEGER", "NOTHING", "FROM_ZERO", "BELOW_ZERO", "TEXT", "TUPLE", "pack", "_add_data", "_add_integer", "_add_sevens", "unpack", "unpack_own", "_read_whole", "_has_great_integer", "_read_data"]
def nms1 : List PySem.Str := ["_read_integer", "_read_text", "_read_tuple", "_read_sevens", "_octet_at", "NO_BALLOT", "MOST_ROUND", "next_ballot", "Acceptor", "PROMISE", "ACCEPT", "CHOSEN", "Record", "record_of", "ASKING", "Attempt", "UP", "DOWN", "LONG_PATIENCE", "Node", "Diary", "_law_row", "_law_take", "_law_new", "_law_forget", "_law_members_of", "_law_do", "_law_note", "_law_post", "_law_all"]
def nms2 : List PySem.Str := ["_law_others", "_law_wishes", "_law_begin", "_law_write", "_law_learn", "_law_offer", "_law_offer_members", "_law_end", "_law_crash", "_law_restart", "_law_wipe", "_law_attempt_agrees", "_law_agrees", "_law_said", "_law_some_members", "_law_command", "_law_entry", "_law_ballot", "_law_slot", "_law_make", "_law_start", "_law_tick", "_law_deed"]
def nms : List PySem.Str := nms0 ++ nms1 ++ nms2
def ads0 : List Addr := [3, 6, 4, 21, 108, 119, 126, 133, 143, 166, 175, 180, 187, 194, 201, 208, 215, 220, 227, 234, 239, 246, 253, 260, 261, 268, 314, 357, 368, 413, 705, 740, 751, 758, 765, 772, 779, 786, 793, 800]
def ads1 : List Addr := [805, 810, 817, 824, 831, 836, 843, 850, 857, 864, 871, 876, 883, 890, 895, 900, 907, 912, 919, 926, 933, 940, 947, 954, 959, 0, 20, 107, 118, 125, 132, 142, 165, 174, 179, 186, 193, 200, 207, 214]
def ads2 : List Addr := [219, 226, 233, 238, 245, 252, 259, 267, 313, 356, 367, 412, 704, 739, 750, 757, 764, 771, 778, 785, 792, 799, 804, 809, 816, 823, 830, 835, 842, 849, 856, 863, 870, 875, 882, 889, 894, 899, 906, 911]
def ads3 : List Addr := [918, 925, 932, 939, 946, 953, 958, 15, 16, 17, 18, 19, 35, 43, 51, 59, 67, 74, 81, 86, 91, 98, 105, 106, 109, 110, 113, 114, 115, 116, 117, 120, 121, 122, 123, 124, 127, 128, 129, 130]
def ads4 : List Addr := [131, 141, 144, 163, 164, 169, 170, 171, 172, 173, 176, 177, 178, 181, 182, 183, 184, 185, 188, 189, 190, 191, 192, 195, 196, 197, 198, 199, 202, 203, 204, 205, 206, 209, 210, 211, 212, 213, 216, 217]
def ads5 : List Addr := [218, 221, 222, 223, 224, 225, 228, 229, 230, 231, 232, 235, 236, 237, 240, 241, 242, 243, 244, 247, 248, 249, 250, 251, 254, 255, 256, 257, 258, 262, 263, 264, 265, 266, 283, 290, 297, 304, 311, 312]
def ads6 : List Addr := [315, 316, 332, 340, 347, 354, 355, 358, 359, 362, 363, 364, 365, 366, 382, 389, 396, 403, 410, 411, 414, 415, 431, 438, 446, 454, 461, 468, 475, 482, 489, 494, 501, 508, 515, 522, 527, 534, 541, 548]
def ads7 : List Addr := [555, 562, 569, 576, 583, 590, 597, 604, 611, 618, 625, 632, 639, 646, 653, 660, 667, 674, 681, 688, 695, 702, 703, 706, 707, 723, 730, 737, 738, 741, 742, 745, 746, 747, 748, 749, 752, 753, 754, 755]
def ads8 : List Addr := [756, 759, 760, 761, 762, 763, 766, 767, 768, 769, 770, 773, 774, 775, 776, 777, 780, 781, 782, 783, 784, 787, 788, 789, 790, 791, 794, 795, 796, 797, 798, 801, 802, 803, 806, 807, 808, 811, 812, 813]
def ads9 : List Addr := [814, 815, 818, 819, 820, 821, 822, 825, 826, 827, 828, 829, 832, 833, 834, 837, 838, 839, 840, 841, 844, 845, 846, 847, 848, 851, 852, 853, 854, 855, 858, 859, 860, 861, 862, 865, 866, 867, 868, 869]
def ads10 : List Addr := [872, 873, 874, 877, 878, 879, 880, 881, 884, 885, 886, 887, 888, 891, 892, 893, 896, 897, 898, 901, 902, 903, 904, 905, 908, 909, 910, 913, 914, 915, 916, 917, 920, 921, 922, 923, 924, 927, 928, 929]
def ads11 : List Addr := [930, 931, 934, 935, 936, 937, 938, 941, 942, 943, 944, 945, 948, 949, 950, 951, 952, 955, 956, 957, 34, 42, 50, 58, 66, 73, 80, 85, 90, 97, 104, 162, 155, 150, 282, 276, 289, 296, 303, 310]
def ads12 : List Addr := [331, 339, 346, 353, 381, 388, 395, 402, 409, 430, 437, 445, 453, 460, 467, 474, 481, 488, 493, 500, 507, 514, 521, 526, 533, 540, 547, 554, 561, 568, 575, 582, 589, 596, 603, 610, 617, 624, 631, 638]
def ads13 : List Addr := [645, 652, 659, 666, 673, 680, 687, 694, 701, 722, 729, 736, 41, 49, 57, 65, 338, 444, 452]
def ads : List Addr := ads0 ++ ads1 ++ ads2 ++ ads3 ++ ads4 ++ ads5 ++ ads6 ++ ads7 ++ ads8 ++ ads9 ++ ads10 ++ ads11 ++ ads12 ++ ads13
abbrev hR : PySem.W.OpenRow := PySem.W.OpenLaw.row PySem.Challenge.rw_crosskeep_k40_a_node_begins
theorem hrun0 (w : World) : HandSHeadRun.RunEq hR (PySem.W.view hR.prog [95]) (Xk.hkH ads cks0 dfs0) (Xk.lookH ads cks0 dfs0) 20000 nms w := by
  intro os
  kernel_rfl
theorem hrun1 (w : World) : HandSHeadRun.RunEq hR (PySem.W.view hR.prog [95]) (Xk.hkH ads cks1 dfs1) (Xk.lookH ads cks1 dfs1) 20000 nms w := by
  intro os
  kernel_rfl
theorem hrun2 (w : World) : HandSHeadRun.RunEq hR (PySem.W.view hR.prog [95]) (Xk.hkH ads cks2 dfs2) (Xk.lookH ads cks2 dfs2) 20000 nms w := by
  intro os
  kernel_rfl
theorem hrun (w : World) : HandSHeadRun.RunEq hR (PySem.W.view hR.prog [95]) (Xk.hkH ads (cks0 ++ (cks1 ++ cks2)) (dfs0 ++ (dfs1 ++ dfs2))) (Xk.lookH ads (cks0 ++ (cks1 ++ cks2)) (dfs0 ++ (dfs1 ++ dfs2))) 20000 nms w := (Xk.run_app (hrun0 w) (Xk.run_app (hrun1 w) (hrun2 w)))
end K40
section
open PySem PySem.W PySem.Calls PyProof.Rows
set_option maxRecDepth 100000 in
set_option maxHeartbeats 0 in
theorem K40.hpre (hc : WalkO (view K40.hR.prog [95]) K40.nms (XL (view K40.hR.prog [95]) []) (Xk.hkH K40.ads (K40.cks0 ++ (K40.cks1 ++ K40.cks2)) (K40.dfs0 ++ (K40.dfs1 ++ K40.dfs2))).says K40.hR.toRowW (HandSHeadRun.topDef K40.hR.prog 95) [] fun f vs => PySem.call f vs) : PySem.Challenge.rw_crosskeep_k40_a_node_begins.Holds := by
  w_on; o_law
  refine HandSHeadRun.head_any (r := K40.hR) (q := view K40.hR.prog [95]) (H := Xk.hkH K40.ads (K40.cks0 ++ (K40.cks1 ++ K40.cks2)) (K40.dfs0 ++ (K40.dfs1 ++ K40.dfs2))) (ob := Xk.lookH K40.ads (K40.cks0 ++ (K40.cks1 ++ K40.cks2)) (K40.dfs0 ++ (K40.dfs1 ++ K40.dfs2))) (M := 20000) (loose := K40.nms) (d := HandSHeadRun.topDef K40.hR.prog 95) (kwd := []) Xk.lookH_eq
    (by kernel_rfl) (fun s => by kernel_rfl) K40.hrun (by kernel_rfl) (by kernel_rfl) (by kernel_rfl) (by rfl) (by first | assumption | decide +kernel) (by decide +kernel) ⟨rfl, rfl, rfl, rfl, rfl, by decide +kernel⟩ ?hw hc
  case hw => w_witness2
end
namespace K40
open PySem PySem.Spec PyProof.Rows L2
structure Txt (K : PySem.W.Frag) (mg : Str → Option Value) where
  C_Acceptor : Addr
  Cls_Acceptor : Cls K C_Acceptor
  g_Acceptor : mg "Acceptor" = some (.ref C_Acceptor)
  A_Acceptor_promised : NoAttr K C_Acceptor "promised"
  A_Acceptor_accepted : NoAttr K C_Acceptor "accepted"
  C_Attempt : Addr
  Cls_Attempt : Cls K C_Attempt
  g_Attempt : mg "Attempt" = some (.ref C_Attempt)
  A_Attempt_ballot : NoAttr K C_Attempt "ballot"
  A_Attempt_entry : NoAttr K C_Attempt "entry"
  A_Attempt_members : NoAttr K C_Attempt "members"
  A_Attempt_stage : NoAttr K C_Attempt "stage"
  A_Attempt_promised_by : NoAttr K C_Attempt "promised_by"
  A_Attempt_voted_by : NoAttr K C_Attempt "voted_by"
  A_Attempt_bound : NoAttr K C_Attempt "bound"
  C_Diary : Addr
  Cls_Diary : Cls K C_Diary
  g_Diary : mg "Diary" = some (.ref C_Diary)
  A_Diary_lines : NoAttr K C_Diary "lines"
  C_Journal : Addr
  Cls_Journal : Cls K C_Journal
  g_Journal : mg "Journal" = some (.ref C_Journal)
  A_Journal__payloads : NoAttr K C_Journal "_payloads"
  A_Journal__sizes : NoAttr K C_Journal "_sizes"
  A_Journal__synced : NoAttr K C_Journal "_synced"
  C_Node : Addr
  Cls_Node : Cls K C_Node
  g_Node : mg "Node" = some (.ref C_Node)
  A_Node_index : NoAttr K C_Node "index"
  A_Node_size : NoAttr K C_Node "size"
  A_Node_first_members : NoAttr K C_Node "first_members"
  A_Node_lazy : NoAttr K C_Node "lazy"
  A_Node_state : NoAttr K C_Node "state"
  A_Node_journal : NoAttr K C_Node "journal"
  A_Node_record : NoAttr K C_Node "record"
  A_Node__make_machine : NoAttr K C_Node "_make_machine"
  A_Node__untold : NoAttr K C_Node "_untold"
  A_Node_waiting : NoAttr K C_Node "waiting"
  A_Node_wanted : NoAttr K C_Node "wanted"
  A_Node_attempt : NoAttr K C_Node "attempt"
  A_Node_patience : NoAttr K C_Node "patience"
  A_Node_guest : NoAttr K C_Node "guest"
  A_Node_seen : NoAttr K C_Node "seen"
  A_Node_machine : NoAttr K C_Node "machine"
  A_Node__sends : NoAttr K C_Node "_sends"
  A_Node__letters : NoAttr K C_Node "_letters"
  C_Record : Addr
  Cls_Record : Cls K C_Record
  g_Record : mg "Record" = some (.ref C_Record)
  A_Record_row : NoAttr K C_Record "row"
  A_Record_acceptor : NoAttr K C_Record "acceptor"
  t_ACCEPT : Tok
  g_ACCEPT : mg "ACCEPT" = some (.str "accept" t_ACCEPT)
  t_ASKING : Tok
  g_ASKING : mg "ASKING" = some (.str "asking" t_ASKING)
  t_BATCH : Tok
  g_BATCH : mg "BATCH" = some (.str "batch" t_BATCH)
  t_BELOW_ZERO : Tok
  g_BELOW_ZERO : mg "BELOW_ZERO" = some (.int 2 t_BELOW_ZERO)
  t_CHOSEN : Tok
  g_CHOSEN : mg "CHOSEN" = some (.str "chosen" t_CHOSEN)
  t_FRAME_HEAD : Tok
  g_FRAME_HEAD : mg "FRAME_HEAD" = some (.int 6 t_FRAME_HEAD)
  t_FROM_ZERO : Tok
  g_FROM_ZERO : mg "FROM_ZERO" = some (.int 1 t_FROM_ZERO)
  t_HIGH_SIGNS : Tok
  g_HIGH_SIGNS : mg "HIGH_SIGNS" = some (.str "&'()*+,-./0123456789:;<=>?@ABCDEFGHIJKLMNOPQRSTUVWXYZ[\\]^_`abcdefghijklmnopqrstuvwxyz{|}~" t_HIGH_SIGNS)
  t_LONG_PATIENCE : Tok
  g_LONG_PATIENCE : mg "LONG_PATIENCE" = some (.int 6 t_LONG_PATIENCE)
  t_LOW_SIGNS : Tok
  g_LOW_SIGNS : mg "LOW_SIGNS" = some (.str " !\"#$" t_LOW_SIGNS)
  t_MEMBERS : Tok
  g_MEMBERS : mg "MEMBERS" = some (.str "members" t_MEMBERS)
  t_MOST_BATCH : Tok
  g_MOST_BATCH : mg "MOST_BATCH" = some (.int 8 t_MOST_BATCH)
  t_MOST_DEPTH : Tok
  g_MOST_DEPTH : mg "MOST_DEPTH" = some (.int 40 t_MOST_DEPTH)
  t_MOST_INTEGER : Tok
  g_MOST_INTEGER : mg "MOST_INTEGER" = some (.int 1000000000000000000 t_MOST_INTEGER)
  t_MOST_ROUND : Tok
  g_MOST_ROUND : mg "MOST_ROUND" = some (.int 9999 t_MOST_ROUND)
  t_MOST_WAITING : Tok
  g_MOST_WAITING : mg "MOST_WAITING" = some (.int 16 t_MOST_WAITING)
  t_NOTHING : Tok
  g_NOTHING : mg "NOTHING" = some (.int 0 t_NOTHING)
  a_NO_BALLOT : Addr
  g_NO_BALLOT : mg "NO_BALLOT" = some (.ref a_NO_BALLOT)
  l_NO_BALLOT : ∀ H : Hp, SqT K H a_NO_BALLOT [.int 0, .int 0]
  t_PROMISE : Tok
  g_PROMISE : mg "PROMISE" = some (.str "promise" t_PROMISE)
  t_TEXT : Tok
  g_TEXT : mg "TEXT" = some (.int 3 t_TEXT)
  t_TUPLE : Tok
  g_TUPLE : mg "TUPLE" = some (.int 4 t_TUPLE)
  t_UP : Tok
  g_UP : mg "UP" = some (.str "up" t_UP)
  f_Journal___init__ : Addr
  d_Journal___init__ : FuncData
  F_Journal___init__ : Fun K "__init__" "Journal.__init__" s_Journal___init__ f_Journal___init__ d_Journal___init__
  b_Journal___init__ : Binds K d_Journal___init__ ["self"] []
  Mk_Journal : Mk K C_Journal f_Journal___init__
  f_Journal_frame_count : Addr
  d_Journal_frame_count : FuncData
  F_Journal_frame_count : Fun K "frame_count" "Journal.frame_count" s_Journal_frame_count f_Journal_frame_count d_Journal_frame_count
  b_Journal_frame_count : Binds K d_Journal_frame_count ["self"] []
  p_Journal_frame_count : Addr
  P_Journal_frame_count : PropOf K C_Journal "frame_count" p_Journal_frame_count f_Journal_frame_count
  f_Journal_synced_frames : Addr
  d_Journal_synced_frames : FuncData
  F_Journal_synced_frames : Fun K "synced_frames" "Journal.synced_frames" s_Journal_synced_frames f_Journal_synced_frames d_Journal_synced_frames
  b_Journal_synced_frames : Binds K d_Journal_synced_frames ["self"] []
  p_Journal_synced_frames : Addr
  P_Journal_synced_frames : PropOf K C_Journal "synced_frames" p_Journal_synced_frames f_Journal_synced_frames
  f_Journal_append : Addr
  d_Journal_append : FuncData
  F_Journal_append : Fun K "append" "Journal.append" s_Journal_append f_Journal_append d_Journal_append
  b_Journal_append : Binds K d_Journal_append ["self", "payload"] []
  M_Journal_append : Meth K C_Journal "append" f_Journal_append
  f_Journal_sync : Addr
  d_Journal_sync : FuncData
  F_Journal_sync : Fun K "sync" "Journal.sync" s_Journal_sync f_Journal_sync d_Journal_sync
  b_Journal_sync : Binds K d_Journal_sync ["self"] []
  M_Journal_sync : Meth K C_Journal "sync" f_Journal_sync
  f_Journal_payloads : Addr
  d_Journal_payloads : FuncData
  F_Journal_payloads : Fun K "payloads" "Journal.payloads" s_Journal_payloads f_Journal_payloads d_Journal_payloads
  b_Journal_payloads : Binds K d_Journal_payloads ["self"] []
  M_Journal_payloads : Meth K C_Journal "payloads" f_Journal_payloads
  f_members_of_slot : Addr
  d_members_of_slot : FuncData
  F_members_of_slot : Fun K "members_of_slot" "members_of_slot" s_members_of_slot f_members_of_slot d_members_of_slot
  b_members_of_slot : Binds K d_members_of_slot ["first_members", "row", "slot"] []
  g_members_of_slot : mg "members_of_slot" = some (.ref f_members_of_slot)
  f_batch_of : Addr
  d_batch_of : FuncData
  F_batch_of : Fun K "batch_of" "batch_of" s_batch_of f_batch_of d_batch_of
  b_batch_of : Binds K d_batch_of ["commands"] []
  g_batch_of : mg "batch_of" = some (.ref f_batch_of)
  f_sign_of : Addr
  d_sign_of : FuncData
  F_sign_of : Fun K "sign_of" "sign_of" s_sign_of f_sign_of d_sign_of
  b_sign_of : Binds K d_sign_of ["code"] []
  g_sign_of : mg "sign_of" = some (.ref f_sign_of)
  f_pack : Addr
  d_pack : FuncData
  F_pack : Fun K "pack" "pack" s_pack f_pack d_pack
  b_pack : Binds K d_pack ["data"] []
  g_pack : mg "pack" = some (.ref f_pack)
  f__add_data : Addr
  d__add_data : FuncData
  F__add_data : Fun K "_add_data" "_add_data" s__add_data f__add_data d__add_data
  b__add_data : Binds K d__add_data ["octets", "data"] []
  g__add_data : mg "_add_data" = some (.ref f__add_data)
  f__add_integer : Addr
  d__add_integer : FuncData
  F__add_integer : Fun K "_add_integer" "_add_integer" s__add_integer f__add_integer d__add_integer
  b__add_integer : Binds K d__add_integer ["octets", "number"] []
  g__add_integer : mg "_add_integer" = some (.ref f__add_integer)
  f__add_sevens : Addr
  d__add_sevens : FuncData
  F__add_sevens : Fun K "_add_sevens" "_add_sevens" s__add_sevens f__add_sevens d__add_sevens
  b__add_sevens : Binds K d__add_sevens ["octets", "number"] []
  g__add_sevens : mg "_add_sevens" = some (.ref f__add_sevens)
  f_unpack : Addr
  d_unpack : FuncData
  F_unpack : Fun K "unpack" "unpack" s_unpack f_unpack d_unpack
  b_unpack : Binds K d_unpack ["octets"] []
  g_unpack : mg "unpack" = some (.ref f_unpack)
  f__read_whole : Addr
  d__read_whole : FuncData
  F__read_whole : Fun K "_read_whole" "_read_whole" s__read_whole f__read_whole d__read_whole
  b__read_whole : Binds K d__read_whole ["octets", "room"] []
  g__read_whole : mg "_read_whole" = some (.ref f__read_whole)
  f__has_great_integer : Addr
  d__has_great_integer : FuncData
  F__has_great_integer : Fun K "_has_great_integer" "_has_great_integer" s__has_great_integer f__has_great_integer d__has_great_integer
  b__has_great_integer : Binds K d__has_great_integer ["data"] []
  g__has_great_integer : mg "_has_great_integer" = some (.ref f__has_great_integer)
  f__read_data : Addr
  d__read_data : FuncData
  F__read_data : Fun K "_read_data" "_read_data" s__read_data f__read_data d__read_data
  b__read_data : Binds K d__read_data ["octets", "at", "room"] []
  g__read_data : mg "_read_data" = some (.ref f__read_data)
  f__read_integer : Addr
  d__read_integer : FuncData
  F__read_integer : Fun K "_read_integer" "_read_integer" s__read_integer f__read_integer d__read_integer
  b__read_integer : Binds K d__read_integer ["octets", "at"] []
  g__read_integer : mg "_read_integer" = some (.ref f__read_integer)
  f__read_text : Addr
  d__read_text : FuncData
  F__read_text : Fun K "_read_text" "_read_text" s__read_text f__read_text d__read_text
  b__read_text : Binds K d__read_text ["octets", "at"] []
  g__read_text : mg "_read_text" = some (.ref f__read_text)
  f__read_tuple : Addr
  d__read_tuple : FuncData
  F__read_tuple : Fun K "_read_tuple" "_read_tuple" s__read_tuple f__read_tuple d__read_tuple
  b__read_tuple : Binds K d__read_tuple ["octets", "at", "room"] []
  g__read_tuple : mg "_read_tuple" = some (.ref f__read_tuple)
  f__read_sevens : Addr
  d__read_sevens : FuncData
  F__read_sevens : Fun K "_read_sevens" "_read_sevens" s__read_sevens f__read_sevens d__read_sevens
  b__read_sevens : Binds K d__read_sevens ["octets", "at"] []
  g__read_sevens : mg "_read_sevens" = some (.ref f__read_sevens)
  f__octet_at : Addr
  d__octet_at : FuncData
  F__octet_at : Fun K "_octet_at" "_octet_at" s__octet_at f__octet_at d__octet_at
  b__octet_at : Binds K d__octet_at ["octets", "at"] []
  g__octet_at : mg "_octet_at" = some (.ref f__octet_at)
  f_next_ballot : Addr
  d_next_ballot : FuncData
  F_next_ballot : Fun K "next_ballot" "next_ballot" s_next_ballot f_next_ballot d_next_ballot
  b_next_ballot : Binds K d_next_ballot ["after", "index"] []
  g_next_ballot : mg "next_ballot" = some (.ref f_next_ballot)
  f_Acceptor___init__ : Addr
  d_Acceptor___init__ : FuncData
  F_Acceptor___init__ : FunD K "__init__" "Acceptor.__init__" (defArgs s_Acceptor___init__) (defBody s_Acceptor___init__) (defScope s_Acceptor___init__) [.ref a_NO_BALLOT, .non] [] f_Acceptor___init__ d_Acceptor___init__
  D0_Acceptor___init__ : List Value
  V0_Acceptor___init__ : Vals [.ref a_NO_BALLOT, .non] D0_Acceptor___init__
  b0_Acceptor___init__ : Binds K d_Acceptor___init__ ["self", "promised", "accepted"] D0_Acceptor___init__
  D1_Acceptor___init__ : List Value
  V1_Acceptor___init__ : Vals [.non] D1_Acceptor___init__
  b1_Acceptor___init__ : Binds K d_Acceptor___init__ ["self", "promised", "accepted"] D1_Acceptor___init__
  D2_Acceptor___init__ : List Value
  V2_Acceptor___init__ : Vals [] D2_Acceptor___init__
  b2_Acceptor___init__ : Binds K d_Acceptor___init__ ["self", "promised", "accepted"] D2_Acceptor___init__
  Mk_Acceptor : Mk K C_Acceptor f_Acceptor___init__
  f_Acceptor_promise : Addr
  d_Acceptor_promise : FuncData
  F_Acceptor_promise : Fun K "promise" "Acceptor.promise" s_Acceptor_promise f_Acceptor_promise d_Acceptor_promise
  b_Acceptor_promise : Binds K d_Acceptor_promise ["self", "ballot"] []
  M_Acceptor_promise : Meth K C_Acceptor "promise" f_Acceptor_promise
  f_Acceptor_accept : Addr
  d_Acceptor_accept : FuncData
  F_Acceptor_accept : Fun K "accept" "Acceptor.accept" s_Acceptor_accept f_Acceptor_accept d_Acceptor_accept
  b_Acceptor_accept : Binds K d_Acceptor_accept ["self", "ballot", "entry"] []
  M_Acceptor_accept : Meth K C_Acceptor "accept" f_Acceptor_accept
  f_Record___init__ : Addr
  d_Record___init__ : FuncData
  F_Record___init__ : Fun K "__init__" "Record.__init__" s_Record___init__ f_Record___init__ d_Record___init__
  b_Record___init__ : Binds K d_Record___init__ ["self"] []
  Mk_Record : Mk K C_Record f_Record___init__
  f_Record_do : Addr
  d_Record_do : FuncData
  F_Record_do : Fun K "do" "Record.do" s_Record_do f_Record_do d_Record_do
  b_Record_do : Binds K d_Record_do ["self", "update"] []
  M_Record_do : Meth K C_Record "do" f_Record_do
  f_Attempt___init__ : Addr
  d_Attempt___init__ : FuncData
  F_Attempt___init__ : Fun K "__init__" "Attempt.__init__" s_Attempt___init__ f_Attempt___init__ d_Attempt___init__
  b_Attempt___init__ : Binds K d_Attempt___init__ ["self", "ballot", "entry", "members"] []
  Mk_Attempt : Mk K C_Attempt f_Attempt___init__
  f_Node___init__ : Addr
  d_Node___init__ : FuncData
  F_Node___init__ : Fun K "__init__" "Node.__init__" s_Node___init__ f_Node___init__ d_Node___init__
  b_Node___init__ : Binds K d_Node___init__ ["self", "index", "size", "first_members", "make_machine", "lazy"] []
  Mk_Node : Mk K C_Node f_Node___init__
  f_Node__begin_anew : Addr
  d_Node__begin_anew : FuncData
  F_Node__begin_anew : Fun K "_begin_anew" "Node._begin_anew" s_Node__begin_anew f_Node__begin_anew d_Node__begin_anew
  b_Node__begin_anew : Binds K d_Node__begin_anew ["self"] []
  M_Node__begin_anew : Meth K C_Node "_begin_anew" f_Node__begin_anew
  f_Node_upto : Addr
  d_Node_upto : FuncData
  F_Node_upto : Fun K "upto" "Node.upto" s_Node_upto f_Node_upto d_Node_upto
  b_Node_upto : Binds K d_Node_upto ["self"] []
  p_Node_upto : Addr
  P_Node_upto : PropOf K C_Node "upto" p_Node_upto f_Node_upto
  f_Node_members_now : Addr
  d_Node_members_now : FuncData
  F_Node_members_now : Fun K "members_now" "Node.members_now" s_Node_members_now f_Node_members_now d_Node_members_now
  b_Node_members_now : Binds K d_Node_members_now ["self"] []
  p_Node_members_now : Addr
  P_Node_members_now : PropOf K C_Node "members_now" p_Node_members_now f_Node_members_now
  f_Node_offer : Addr
  d_Node_offer : FuncData
  F_Node_offer : Fun K "offer" "Node.offer" s_Node_offer f_Node_offer d_Node_offer
  b_Node_offer : Binds K d_Node_offer ["self", "command"] []
  M_Node_offer : Meth K C_Node "offer" f_Node_offer
  f_Node_offer_members : Addr
  d_Node_offer_members : FuncData
  F_Node_offer_members : Fun K "offer_members" "Node.offer_members" s_Node_offer_members f_Node_offer_members d_Node_offer_members
  b_Node_offer_members : Binds K d_Node_offer_members ["self", "members"] []
  M_Node_offer_members : Meth K C_Node "offer_members" f_Node_offer_members
  f_Node_tick : Addr
  d_Node_tick : FuncData
  F_Node_tick : Fun K "tick" "Node.tick" s_Node_tick f_Node_tick d_Node_tick
  b_Node_tick : Binds K d_Node_tick ["self"] []
  M_Node_tick : Meth K C_Node "tick" f_Node_tick
  f_Node_sends : Addr
  d_Node_sends : FuncData
  F_Node_sends : Fun K "sends" "Node.sends" s_Node_sends f_Node_sends d_Node_sends
  b_Node_sends : Binds K d_Node_sends ["self"] []
  M_Node_sends : Meth K C_Node "sends" f_Node_sends
  f_Node_letters : Addr
  d_Node_letters : FuncData
  F_Node_letters : Fun K "letters" "Node.letters" s_Node_letters f_Node_letters d_Node_letters
  b_Node_letters : Binds K d_Node_letters ["self"] []
  M_Node_letters : Meth K C_Node "letters" f_Node_letters
  f_Node_new_votes : Addr
  d_Node_new_votes : FuncData
  F_Node_new_votes : Fun K "new_votes" "Node.new_votes" s_Node_new_votes f_Node_new_votes d_Node_new_votes
  b_Node_new_votes : Binds K d_Node_new_votes ["self"] []
  M_Node_new_votes : Meth K C_Node "new_votes" f_Node_new_votes
  f_Node__long_patience : Addr
  d_Node__long_patience : FuncData
  F_Node__long_patience : Fun K "_long_patience" "Node._long_patience" s_Node__long_patience f_Node__long_patience d_Node__long_patience
  b_Node__long_patience : Binds K d_Node__long_patience ["self"] []
  M_Node__long_patience : Meth K C_Node "_long_patience" f_Node__long_patience
  f_Node__something_waits : Addr
  d_Node__something_waits : FuncData
  F_Node__something_waits : Fun K "_something_waits" "Node._something_waits" s_Node__something_waits f_Node__something_waits d_Node__something_waits
  b_Node__something_waits : Binds K d_Node__something_waits ["self"] []
  M_Node__something_waits : Meth K C_Node "_something_waits" f_Node__something_waits
  f_Node__may_go_out : Addr
  d_Node__may_go_out : FuncData
  F_Node__may_go_out : Fun K "_may_go_out" "Node._may_go_out" s_Node__may_go_out f_Node__may_go_out d_Node__may_go_out
  b_Node__may_go_out : Binds K d_Node__may_go_out ["self"] []
  M_Node__may_go_out : Meth K C_Node "_may_go_out" f_Node__may_go_out
  f_Node__end_step : Addr
  d_Node__end_step : FuncData
  F_Node__end_step : Fun K "_end_step" "Node._end_step" s_Node__end_step f_Node__end_step d_Node__end_step
  b_Node__end_step : Binds K d_Node__end_step ["self"] []
  M_Node__end_step : Meth K C_Node "_end_step" f_Node__end_step
  f_Node__note : Addr
  d_Node__note : FuncData
  F_Node__note : Fun K "_note" "Node._note" s_Node__note f_Node__note d_Node__note
  b_Node__note : Binds K d_Node__note ["self", "update"] []
  M_Node__note : Meth K C_Node "_note" f_Node__note
  f_Node__send : Addr
  d_Node__send : FuncData
  F_Node__send : Fun K "_send" "Node._send" s_Node__send f_Node__send d_Node__send
  b_Node__send : Binds K d_Node__send ["self", "index", "body"] []
  M_Node__send : Meth K C_Node "_send" f_Node__send
  f_Node__send_to_all : Addr
  d_Node__send_to_all : FuncData
  F_Node__send_to_all : Fun K "_send_to_all" "Node._send_to_all" s_Node__send_to_all f_Node__send_to_all d_Node__send_to_all
  b_Node__send_to_all : Binds K d_Node__send_to_all ["self", "body"] []
  M_Node__send_to_all : Meth K C_Node "_send_to_all" f_Node__send_to_all
  f_Node__send_to_others : Addr
  d_Node__send_to_others : FuncData
  F_Node__send_to_others : Fun K "_send_to_others" "Node._send_to_others" s_Node__send_to_others f_Node__send_to_others d_Node__send_to_others
  b_Node__send_to_others : Binds K d_Node__send_to_others ["self", "body"] []
  M_Node__send_to_others : Meth K C_Node "_send_to_others" f_Node__send_to_others
  f_Node__begin_if_free : Addr
  d_Node__begin_if_free : FuncData
  F_Node__begin_if_free : Fun K "_begin_if_free" "Node._begin_if_free" s_Node__begin_if_free f_Node__begin_if_free d_Node__begin_if_free
  b_Node__begin_if_free : Binds K d_Node__begin_if_free ["self"] []
  M_Node__begin_if_free : Meth K C_Node "_begin_if_free" f_Node__begin_if_free
  f_Node__begin : Addr
  d_Node__begin : FuncData
  F_Node__begin : Fun K "_begin" "Node._begin" s_Node__begin f_Node__begin d_Node__begin
  b_Node__begin : Binds K d_Node__begin ["self"] []
  M_Node__begin : Meth K C_Node "_begin" f_Node__begin
  f_Diary___init__ : Addr
  d_Diary___init__ : FuncData
  F_Diary___init__ : Fun K "__init__" "Diary.__init__" s_Diary___init__ f_Diary___init__ d_Diary___init__
  b_Diary___init__ : Binds K d_Diary___init__ ["self"] []
  Mk_Diary : Mk K C_Diary f_Diary___init__
  f_Diary_settled : Addr
  d_Diary_settled : FuncData
  F_Diary_settled : Fun K "settled" "Diary.settled" s_Diary_settled f_Diary_settled d_Diary_settled
  b_Diary_settled : Binds K d_Diary_settled ["self", "command"] []
  M_Diary_settled : Meth K C_Diary "settled" f_Diary_settled
  f__law_row : Addr
  d__law_row : FuncData
  F__law_row : Fun K "_law_row" "_law_row" s__law_row f__law_row d__law_row
  b__law_row : Binds K d__law_row ["script", "k"] []
  g__law_row : mg "_law_row" = some (.ref f__law_row)
  f__law_take : Addr
  d__law_take : FuncData
  F__law_take : Fun K "_law_take" "_law_take" s__law_take f__law_take d__law_take
  b__law_take : Binds K d__law_take ["box", "size"] []
  g__law_take : mg "_law_take" = some (.ref f__law_take)
  f__law_new : Addr
  d__law_new : FuncData
  F__law_new : Fun K "_law_new" "_law_new" s__law_new f__law_new d__law_new
  b__law_new : Binds K d__law_new ["index", "size", "first", "lazy"] []
  g__law_new : mg "_law_new" = some (.ref f__law_new)
  f__law_forget : Addr
  d__law_forget : FuncData
  F__law_forget : Fun K "_law_forget" "_law_forget" s__law_forget f__law_forget d__law_forget
  b__law_forget : Binds K d__law_forget ["m"] []
  g__law_forget : mg "_law_forget" = some (.ref f__law_forget)
  f__law_members_of : Addr
  d__law_members_of : FuncData
  F__law_members_of : Fun K "_law_members_of" "_law_members_of" s__law_members_of f__law_members_of d__law_members_of
  b__law_members_of : Binds K d__law_members_of ["m"] []
  g__law_members_of : mg "_law_members_of" = some (.ref f__law_members_of)
  f__law_do : Addr
  d__law_do : FuncData
  F__law_do : Fun K "_law_do" "_law_do" s__law_do f__law_do d__law_do
  b__law_do : Binds K d__law_do ["m", "update"] []
  g__law_do : mg "_law_do" = some (.ref f__law_do)
  f__law_note : Addr
  d__law_note : FuncData
  F__law_note : Fun K "_law_note" "_law_note" s__law_note f__law_note d__law_note
  b__law_note : Binds K d__law_note ["m", "update"] []
  g__law_note : mg "_law_note" = some (.ref f__law_note)
  f__law_post : Addr
  d__law_post : FuncData
  F__law_post : Fun K "_law_post" "_law_post" s__law_post f__law_post d__law_post
  b__law_post : Binds K d__law_post ["m", "receivers", "body"] []
  g__law_post : mg "_law_post" = some (.ref f__law_post)
  f__law_all : Addr
  d__law_all : FuncData
  F__law_all : Fun K "_law_all" "_law_all" s__law_all f__law_all d__law_all
  b__law_all : Binds K d__law_all ["m"] []
  g__law_all : mg "_law_all" = some (.ref f__law_all)
  f__law_others : Addr
  d__law_others : FuncData
  F__law_others : Fun K "_law_others" "_law_others" s__law_others f__law_others d__law_others
  b__law_others : Binds K d__law_others ["m"] []
  g__law_others : mg "_law_others" = some (.ref f__law_others)
  f__law_wishes : Addr
  d__law_wishes : FuncData
  F__law_wishes : Fun K "_law_wishes" "_law_wishes" s__law_wishes f__law_wishes d__law_wishes
  b__law_wishes : Binds K d__law_wishes ["m"] []
  g__law_wishes : mg "_law_wishes" = some (.ref f__law_wishes)
  f__law_begin : Addr
  d__law_begin : FuncData
  F__law_begin : Fun K "_law_begin" "_law_begin" s__law_begin f__law_begin d__law_begin
  b__law_begin : Binds K d__law_begin ["m"] []
  g__law_begin : mg "_law_begin" = some (.ref f__law_begin)
  f__law_offer : Addr
  d__law_offer : FuncData
  F__law_offer : Fun K "_law_offer" "_law_offer" s__law_offer f__law_offer d__law_offer
  b__law_offer : Binds K d__law_offer ["m", "command"] []
  g__law_offer : mg "_law_offer" = some (.ref f__law_offer)
  f__law_offer_members : Addr
  d__law_offer_members : FuncData
  F__law_offer_members : Fun K "_law_offer_members" "_law_offer_members" s__law_offer_members f__law_offer_members d__law_offer_members
  b__law_offer_members : Binds K d__law_offer_members ["m", "members"] []
  g__law_offer_members : mg "_law_offer_members" = some (.ref f__law_offer_members)
  f__law_end : Addr
  d__law_end : FuncData
  F__law_end : Fun K "_law_end" "_law_end" s__law_end f__law_end d__law_end
  b__law_end : Binds K d__law_end ["m"] []
  g__law_end : mg "_law_end" = some (.ref f__law_end)
  f__law_attempt_agrees : Addr
  d__law_attempt_agrees : FuncData
  F__law_attempt_agrees : Fun K "_law_attempt_agrees" "_law_attempt_agrees" s__law_attempt_agrees f__law_attempt_agrees d__law_attempt_agrees
  b__law_attempt_agrees : Binds K d__law_attempt_agrees ["attempt", "model"] []
  g__law_attempt_agrees : mg "_law_attempt_agrees" = some (.ref f__law_attempt_agrees)
  f__law_agrees : Addr
  d__law_agrees : FuncData
  F__law_agrees : Fun K "_law_agrees" "_law_agrees" s__law_agrees f__law_agrees d__law_agrees
  b__law_agrees : Binds K d__law_agrees ["node", "m"] []
  g__law_agrees : mg "_law_agrees" = some (.ref f__law_agrees)
  f__law_said : Addr
  d__law_said : FuncData
  F__law_said : Fun K "_law_said" "_law_said" s__law_said f__law_said d__law_said
  b__law_said : Binds K d__law_said ["node", "m"] []
  g__law_said : mg "_law_said" = some (.ref f__law_said)
  f__law_some_members : Addr
  d__law_some_members : FuncData
  F__law_some_members : Fun K "_law_some_members" "_law_some_members" s__law_some_members f__law_some_members d__law_some_members
  b__law_some_members : Binds K d__law_some_members ["box", "size"] []
  g__law_some_members : mg "_law_some_members" = some (.ref f__law_some_members)
  f__law_make : Addr
  d__law_make : FuncData
  F__law_make : Fun K "_law_make" "_law_make" s__law_make f__law_make d__law_make
  b__law_make : Binds K d__law_make [] []
  g__law_make : mg "_law_make" = some (.ref f__law_make)
  f__law_start : Addr
  d__law_start : FuncData
  F__law_start : Fun K "_law_start" "_law_start" s__law_start f__law_start d__law_start
  b__law_start : Binds K d__law_start ["script", "lazy"] []
  g__law_start : mg "_law_start" = some (.ref f__law_start)
  f__law_tick : Addr
  d__law_tick : FuncData
  F__law_tick : Fun K "_law_tick" "_law_tick" s__law_tick f__law_tick d__law_tick
  b__law_tick : Binds K d__law_tick ["m"] []
  g__law_tick : mg "_law_tick" = some (.ref f__law_tick)
  f__law_deed : Addr
  d__law_deed : FuncData
  F__law_deed : Fun K "_law_deed" "_law_deed" s__law_deed f__law_deed d__law_deed
  b__law_deed : Binds K d__law_deed ["node", "m", "box"] []
  g__law_deed : mg "_law_deed" = some (.ref f__law_deed)
  f_law : Addr
  d_law : FuncData
  F_law : Fun K "law" "law" s_law f_law d_law
  b_law : Binds K d_law ["script"] []
  g_law : mg "law" = some (.ref f_law)
  m_any : mg "any" = none
  m_bool : mg "bool" = none
  m_int : mg "int" = none
  m_isinstance : mg "isinstance" = none
  m_len : mg "len" = none
  m_list : mg "list" = none
  m_max : mg "max" = none
  m_ord : mg "ord" = none
  m_range : mg "range" = none
  m_reversed : mg "reversed" = none
  m_str : mg "str" = none
  m_tuple : mg "tuple" = none
section
variable {P : Program} {w : World} {K : PySem.W.Frag} {mg : Str → Option Value} {base : Heap}
def sp__law_row (K : PySem.W.Frag) : Sp := fun vs H Q _ => ∃ (a : Addr) (k : Int) (ns : List Int), vs = [.ref a, .int k] ∧ SqL K H a (ns.map V.int) ∧ ns.length ≤ 63 ∧ 0 ≤ k ∧ k ≤ 1000 ∧ ∀ n : Int, 0 ≤ n → Q (.int n) H
theorem ok__law_row (T : Txt K mg) : FnOk P w K mg base CX0 1 T.f__law_row T.d__law_row ["script", "k"] (sp__law_row K) := by
  refine T.F__law_row.ok sc__law_row (fun vs H Q E h => ?_) (fun cdv A outer s H vs Q E hr h => ?_)
  · obtain ⟨a, k, ns, rfl, _⟩ := h
    rfl
  obtain ⟨a, k, ns, rfl, hS, hl, hk, hk2, q⟩ := h
  refine ⟨_, (pss_cons (ps_set (i := 2) sc__law_row.nd rfl (Or.inl rfl) (pe_int))
      (Evl.pss_cut (ps_if (pt_cmpR op_gt (pe_callB (Xk.k_len (K := K) (by rfl)) (by rfl) T.m_len PySem.boot_len (pa_cons (pv 0) pa_nil)) (pe_int) (nomark _)) (pss_one (ps_set (i := 2) sc__law_row.nd rfl (Or.inl rfl) (pe_ix (Xk.k_ixL (K := K) (by rfl)) (pv 0) (pe_op op_mod (pe_callTy Xk.call_nInt (by rfl) T.m_int (by decide +kernel) (pa_cons (pv 1) pa_nil)) (pe_callB (Xk.k_len (K := K) (by rfl)) (by rfl) T.m_len PySem.boot_len (pa_cons (pv 0) pa_nil))) (fun _ _ => rfl)))) pss_nil)
      (Evl.pss_cut (ps_if (pt_cmpR op_lt (pv 2) (pe_int) (nomark _)) (pss_one (ps_set (i := 2) sc__law_row.nd rfl (Or.inl rfl) (pe_op op_sub (pe_int) (pe_op op_mul (pe_int) (pv 2))))) pss_nil)
      (Evl.pss_cut (ps_if (PW.pt (pw_and (pt_cmpR op_ge (pv 2) (pe_op op_pow (pe_int) (pe_int)) (nomark _)) (pw_and1 (pt_cmpR op_lt (pv 1) (pe_callB (Xk.k_len (K := K) (by rfl)) (by rfl) T.m_len PySem.boot_len (pa_cons (pv 0) pa_nil)) (nomark _))))) (pss_one (ps_ret (pv 2))) pss_nil)
      (pss_cons (ps_set (i := 3) sc__law_row.nd rfl (Or.inl rfl) (pe_op op_mod (pe_callTy Xk.call_nInt (by rfl) T.m_int (by decide +kernel) (pa_cons (pe_op op_add (pe_op op_add (pe_op op_mul (pv 2) (pe_int)) (pe_op op_mul (pe_op op_add (pv 1) (pe_int)) (pe_int))) (pe_callB (Xk.k_len (K := K) (by rfl)) (by rfl) T.m_len PySem.boot_len (pa_cons (pv 0) pa_nil))) pa_nil)) (pe_int)))
      (pss_cons (ps_set (i := 4) sc__law_row.nd rfl (Or.inl rfl) (pe_op op_mod (pe_callTy Xk.call_nInt (by rfl) T.m_int (by decide +kernel) (pa_cons (pe_op op_add (pe_op op_add (pe_op op_mul (pv 3) (pv 3)) (pe_op op_mul (pv 2) (pe_int))) (pv 1)) pa_nil)) (pe_int)))
      (pss_one (ps_ret (pe_op op_add (pe_op op_mul (pv 4) (pe_int)) (pe_op op_mod (pe_callTy Xk.call_nInt (by rfl) T.m_int (by decide +kernel) (pa_cons (pe_op op_mul (pv 3) (pe_int)) pa_nil)) (pe_int))))))))))), ?_⟩
  wtm_at "x0"
  wtm_at "xs"
  refine Xk.x_cut (fun σ' H' => H = H' ∧ ∃ c : Int, σ' = [some (.ref a), some (.int k), some (.int c), none, none]) ?_ ?_
  · wtm_at "xs"
    refine Xk.x_itd (fun h => ?_) (fun h => ?_)
    · wtm_at "xs"
      rw [List.length_map] at h ⊢
      have h1 : k % (ns.length : Int) < ns.length := Int.emod_lt_of_pos _ h
      have h2 : 0 ≤ k % (ns.length : Int) := Int.emod_nonneg _ (by omega)
      obtain ⟨j, hj⟩ := Int.eq_ofNat_of_zero_le h2
      rw [hj] at h1 ⊢
      have h3 : j < ns.length := by omega
      refine Xk.x_ixL hS (atI_nat (j := j) (by rw [List.getElem?_map, List.getElem?_eq_getElem h3]; rfl)) ?_
      exact ⟨rfl, _, rfl⟩
    · wtm_at "xs"
      exact ⟨rfl, _, rfl⟩
  rintro σ' H' ⟨rfl, c, rfl⟩
  refine Xk.x_cut (fun σ' H' => H = H' ∧ ∃ c : Int, 0 ≤ c ∧ σ' = [some (.ref a), some (.int k), some (.int c), none, none]) ?_ ?_
  · wtm_at "xs"
    refine Xk.x_itd (fun h => ?_) (fun h => ?_)
    · wtm_at "xs"
      exact ⟨rfl, _, by omega, rfl⟩
    · wtm_at "xs"
      exact ⟨rfl, _, by omega, rfl⟩
  rintro σ' H' ⟨rfl, c, hc, rfl⟩
  refine Xk.x_cut (fun σ' H' => H = H' ∧ σ' = [some (.ref a), some (.int k), some (.int c), none, none]) ?_ ?_
  · wtm_at "xs"
    refine Xk.x_itd (fun h => ?_) (fun h => ?_)
    · wtm_at "xs"
      refine Xk.x_itd (fun h => ?_) (fun h => ?_)
      · wtm_at "xs"
        exact q _ hc
      · wtm_at "xs"
        exact ⟨rfl, rfl⟩
    · wtm_at "xs"
      exact ⟨rfl, rfl⟩
  rintro σ' H' ⟨rfl, rfl⟩
  wtm_at "xs"
  exact q _ (by omega)
--CUT--
def lowS : Str := " !\"#$"
def highS : Str := "&'()*+,-./0123456789:;<=>?@ABCDEFGHIJKLMNOPQRSTUVWXYZ[\\]^_`abcdefghijklmnopqrstuvwxyz{|}~"
def tx (c : Nat) : Bool := decide (c ∈ lowS.cps.toList) || decide (c ∈ highS.cps.toList)
theorem one_len (c : Nat) : (⟨#[c]⟩ : Str).length = 1 := rfl
theorem one_all {p : Nat → Bool} {c : Nat} (h : p c = true) : Xk.AllC p ⟨#[c]⟩ = true := by
  unfold Xk.AllC
  simp [h]
theorem nil_all (p : Nat → Bool) : Xk.AllC p "" = true := rfl
def sp__law_take (K : PySem.W.Frag) : Sp := fun vs H Q _ => ∃ (a : Addr) (z n : Int), vs = [.ref a, .int z] ∧ H a = some (.lst [.int n]) ∧ 0 < z ∧ z ≤ 1000000000000000001 ∧ (0 ≤ n % z → n % z < z → Q (.int (n % z)) (upd H a (.lst [.int (n / z)])))
theorem ok__law_take (T : Txt K mg) : FnOk P w K mg base CX0 1 T.f__law_take T.d__law_take ["box", "size"] (sp__law_take K) := by
  refine T.F__law_take.ok sc__law_take (fun vs H Q E h => ?_) (fun cdv A outer s H vs Q E hr h => ?_)
  · obtain ⟨a, z, n, rfl, _⟩ := h
    rfl
  obtain ⟨a, z, n, rfl, hb, h0, h1, q⟩ := h
  refine ⟨_, (pss_cons (ps_set (i := 2) sc__law_take.nd rfl (Or.inl rfl) (pe_op op_mod (pe_callTy Xk.call_nInt (by rfl) T.m_int (by decide +kernel) (pa_cons (pe_ix (Xk.k_ixL (K := K) (by rfl)) (pv 0) (pe_int) (fun _ _ => rfl)) pa_nil)) (pv 1)))
      (pss_cons (ps_asg (pe_op op_fdivW (pe_ix (Xk.k_ixL (K := K) (by rfl)) (pv 0) (pe_int) (fun _ _ => rfl)) (pv 1)) (pg_sub (pv 0) (pe_int) set_list))
      (pss_one (ps_ret (pv 2))))), ?_⟩
  have cw : CDivW n z := ⟨h0, by have h2 : z.natAbs < 2 ^ 62 := by omega
                                 have h3 : z.natAbs ≠ 0 := by omega
                                 have := (Nat.log2_lt h3).mpr h2
                                 omega⟩
  wtm_at "x0"
  wtm_at "xs"
  refine Xk.x_setL (j := 0) hb rfl ?_
  wtm_at "xs"
  exact q (Int.emod_nonneg _ (by omega)) (Int.emod_lt_of_pos _ h0)
--CUT--
/-- a draw from a box, said so that it goes on -/
theorem draw {K : PySem.W.Frag} {H : Hp} {Q : VK} {E : XK} {a : Addr} {z n : Int} (hb : H a = some (.lst [.int n])) (hz : 0 < z ∧ z ≤ 1000000000000000001)
    (q : ∀ (j : Nat) (m : Int) H', (j : Int) < z → Xk.But a H H' → H' a = some (.lst [.int m]) → Q (.int j) H') : sp__law_take K [.ref a, .int z] H Q E := by
  refine ⟨a, z, n, rfl, hb, hz.1, hz.2, fun h1 h2 => ?_⟩
  obtain ⟨j, hj⟩ := Int.eq_ofNat_of_zero_le h1
  rw [hj] at h2 ⊢
  exact q j (n / z) _ h2 (Xk.but_mut (Xk.But.refl _ _)) upd_same
--CUT--
/-! ### sevens -/
def sevens (n : Nat) : List Int := if h : n < 128 then [(n : Int)] else (((n % 128 : Nat) : Int) + 128) :: sevens (n / 128)
  termination_by n
  decreasing_by omega
theorem sevens_lt {n : Nat} (h : n < 128) : sevens n = [(n : Int)] := by
  rw [sevens]
  exact dif_pos h
theorem sevens_ge {n : Nat} (h : ¬ n < 128) : sevens n = (((n % 128 : Nat) : Int) + 128) :: sevens (n / 128) := by
  rw [sevens]
  exact dif_neg h
theorem sevens_len {k : Nat} : ∀ {n : Nat}, n < 128 ^ (k + 1) → (sevens n).length ≤ k + 1 := by
  induction k with
  | zero =>
    intro n h
    rw [sevens_lt (by omega)]
    exact Nat.le_refl _
  | succ k ih =>
    intro n h
    by_cases c : n < 128
    · rw [sevens_lt c]
      show 1 ≤ k + 1 + 1
      omega
    · rw [sevens_ge c]
      have h2 : n / 128 < 128 ^ (k + 1) := by
        rw [Nat.div_lt_iff_lt_mul (by decide)]
        rw [Nat.pow_succ] at h
        exact h
      have h3 := ih h2
      show (sevens (n / 128)).length + 1 ≤ k + 1 + 1
      omega
theorem sevens_pos (n : Nat) : 1 ≤ (sevens n).length := by
  by_cases c : n < 128
  · rw [sevens_lt c]
    exact Nat.le_refl _
  · rw [sevens_ge c]
    exact Nat.succ_le_succ (Nat.zero_le _)
theorem map_snoc (xs : List Int) (i : Int) : xs.map V.int ++ [V.int i] = (xs ++ [i]).map V.int := by
  rw [List.map_append]
  rfl
/-- an integer's octets -/
def intD (i : Int) : List Int := if 0 ≤ i then 1 :: sevens i.toNat else 2 :: sevens (-i - 1).toNat
theorem intD_pos {i : Int} (h : 0 ≤ i) : intD i = 1 :: sevens i.toNat := if_pos h
theorem intD_neg {i : Int} (h : ¬ 0 ≤ i) : intD i = 2 :: sevens (-i - 1).toNat := if_neg h
def sp__add_sevens (K : PySem.W.Frag) : Sp := fun vs H Q _ => ∃ (a : Addr) (n : Nat) (xs : List Int), vs = [.ref a, .int n] ∧ H a = some (.lst (xs.map V.int)) ∧ xs.length ≤ 50000 ∧ n < 128 ^ 10 ∧ ∀ H', Xk.But a H H' → H' a = some (.lst ((xs ++ sevens n).map V.int)) → Q .non H'
theorem ok__add_sevens (T : Txt K mg) : FnOk P w K mg base CX0 1 T.f__add_sevens T.d__add_sevens ["octets", "number"] (sp__add_sevens K) := by
  refine T.F__add_sevens.ok sc__add_sevens (fun vs H Q E h => ?_) (fun cdv A outer s H vs Q E hr h => ?_)
  · obtain ⟨a, n, xs, rfl, _⟩ := h
    rfl
  obtain ⟨a, n, xs, rfl, ha, hl, hn, q⟩ := h
  refine ⟨_, (Evl.pss_cut (ps_while PassesOwn.never (pt_cmpR op_ge (pv 1) (pe_int) (nomark _)) (pss_cons (ps_expr (pe_bm PySem.F.plainAttrs_list PySem.F.slot_list_append PySem.F.type_list_append mt_append (pv 0) (pa_cons (pe_op op_add (pe_op op_mod (pv 1) (pe_int)) (pe_int)) pa_nil)))
      (pss_one (ps_set (i := 1) sc__add_sevens.nd rfl (Or.inl rfl) (pe_op op_fdiv (pv 1) (pe_int))))))
      (pss_one (ps_expr (pe_bm PySem.F.plainAttrs_list PySem.F.slot_list_append PySem.F.type_list_append mt_append (pv 0) (pa_cons (pv 1) pa_nil))))), ?_⟩
  wtm_at "x0"
  wtm_at "xs"
  have hsl := sevens_len hn
  refine Xk.x_while1 (fun m σ' H' => ∃ (n' : Nat) (ys : List Int), σ' = [some (.ref a), some (.int n')] ∧ Xk.But a H H' ∧ H' a = some (.lst ((xs ++ ys).map V.int)) ∧ ys ++ sevens n' = sevens n ∧ n' = m) n ⟨n, [], rfl, Xk.But.refl _ _, by rw [List.append_nil]; exact ha, rfl, rfl⟩ ?_
  rintro m σ' H' ⟨n', ys, rfl, b1, h1, e1, rfl⟩
  have hyl : ys.length ≤ 10 := by
    have z := congrArg List.length e1
    rw [List.length_append] at z
    omega
  have hz : ((xs ++ ys).map V.int).length < 100000 := by rw [List.length_map, List.length_append]; omega
  wtm_at "xs"
  refine Xk.x_wd (fun c => ?_) (fun c => ?_)
  · have c' : ¬ n' < 128 := by omega
    refine Xk.x_wT ?_
    wtm_at "xs"
    have e2 : (n' : Int) / 128 = ((n' / 128 : Nat) : Int) := rfl
    have e3 : (n' : Int) % 128 = ((n' % 128 : Nat) : Int) := rfl
    refine ⟨n' / 128, by omega, n' / 128, ys ++ [(((n' % 128 : Nat) : Int) + 128)], by rw [e2], Xk.but_mut b1, by rw [upd_same, e3, ← List.append_assoc]; exact congrArg (fun z => some (HO.lst z)) (map_snoc (xs ++ ys) _), ?_, rfl⟩
    rw [← e1, sevens_ge c', List.append_assoc]
    rfl
  · have c' : n' < 128 := by omega
    refine Xk.x_wF ?_
    wtm_at "xs"
    refine q _ (Xk.but_mut b1) ?_
    rw [upd_same, ← e1, sevens_lt c', ← List.append_assoc]
    exact congrArg (fun z => some (HO.lst z)) (map_snoc (xs ++ ys) _)
def sp__add_integer (K : PySem.W.Frag) : Sp := fun vs H Q _ => ∃ (a : Addr) (i : Int) (xs : List Int), vs = [.ref a, .int i] ∧ H a = some (.lst (xs.map V.int)) ∧ xs.length ≤ 49000 ∧ -1000000000000000000 ≤ i ∧ i ≤ 1000000000000000000 ∧ ∀ H', Xk.But a H H' → H' a = some (.lst ((xs ++ intD i).map V.int)) → Q .non H'
theorem ok__add_integer (T : Txt K mg) : FnOk P w K mg base CX0 2 T.f__add_integer T.d__add_integer ["octets", "number"] (sp__add_integer K) := by
  refine T.F__add_integer.ok sc__add_integer (fun vs H Q E h => ?_) (fun cdv A outer s H vs Q E hr h => ?_)
  · obtain ⟨a, i, xs, rfl, _⟩ := h
    rfl
  obtain ⟨a, i, xs, rfl, ha, hl, h1, h2, q⟩ := h
  refine ⟨_, (pss_one (ps_if (pt_cmpR op_ge (pv 1) (pe_int) (nomark _)) (pss_cons (ps_expr (pe_bm PySem.F.plainAttrs_list PySem.F.slot_list_append PySem.F.type_list_append mt_append (pv 0) (pa_cons (pe_glob (by rfl) T.g_FROM_ZERO Xk.rel_int) pa_nil)))
      (pss_one (ps_expr (pe_call (ok__add_sevens T) (hr.mono (by decide)) (by rfl) T.g__add_sevens T.F__add_sevens.kp T.b__add_sevens .nil pass0 (pa_cons (pv 0) (pa_cons (pv 1) pa_nil)))))) (pss_cons (ps_expr (pe_bm PySem.F.plainAttrs_list PySem.F.slot_list_append PySem.F.type_list_append mt_append (pv 0) (pa_cons (pe_glob (by rfl) T.g_BELOW_ZERO Xk.rel_int) pa_nil)))
      (pss_one (ps_expr (pe_call (ok__add_sevens T) (hr.mono (by decide)) (by rfl) T.g__add_sevens T.F__add_sevens.kp T.b__add_sevens .nil pass0 (pa_cons (pv 0) (pa_cons (pe_op op_sub (pe_un un_neg (pv 1)) (pe_int)) pa_nil)))))))), ?_⟩
  have hz : (xs.map V.int).length < 100000 := by rw [List.length_map]; omega
  have big : (1000000000000000001 : Nat) < 128 ^ 10 := by decide
  wtm_at "x0"
  wtm_at "xs"
  refine Xk.x_itd (fun c => ?_) (fun c => ?_)
  · wtm_at "xs"
    have e : i = ((i.toNat : Nat) : Int) := by omega
    refine ⟨a, i.toNat, xs ++ [1], by rw [← e], by rw [upd_same, List.map_append]; rfl, by rw [List.length_append]; show xs.length + 1 ≤ 50000; omega, by omega, fun H' b1 h3 => ?_⟩
    wtm_at "xs"
    refine q H' (Xk.but_trans (Xk.but_mut (Xk.But.refl _ _)) b1) ?_
    rw [h3, List.append_assoc, intD_pos (by omega)]
    rfl
  · wtm_at "xs"
    have e : -i - 1 = (((-i - 1).toNat : Nat) : Int) := by omega
    refine ⟨a, (-i - 1).toNat, xs ++ [2], by rw [← e], by rw [upd_same, List.map_append]; rfl, by rw [List.length_append]; show xs.length + 1 ≤ 50000; omega, by omega, fun H' b1 h3 => ?_⟩
    wtm_at "xs"
    refine q H' (Xk.but_trans (Xk.but_mut (Xk.But.refl _ _)) b1) ?_
    rw [h3, List.append_assoc, intD_neg (by omega)]
    rfl
--CUT--
mutual
/-- the octets of data -/
def packD : PyData → List Int
  | .none => [0]
  | .int i => intD i
  | .str s => 3 :: (sevens s.length ++ s.cps.toList.map fun c : Nat => (c : Int))
  | .tuple ds => 4 :: (sevens ds.length ++ packAll ds)
  | _ => []
def packAll : List PyData → List Int
  | [] => []
  | d :: ds => packD d ++ packAll ds
end
mutual
/-- data that the law draws -/
def Gd : PyData → Prop
  | .none => True
  | .int i => -1000000000000000000 ≤ i ∧ i ≤ 1000000000000000000
  | .str s => s.length ≤ 1000 ∧ Xk.AllC tx s = true
  | .tuple ds => ds.length ≤ 1000 ∧ GdAll ds
  | _ => False
def GdAll : List PyData → Prop
  | [] => True
  | d :: ds => Gd d ∧ GdAll ds
end
theorem packAll_snoc (d : PyData) : ∀ ds : List PyData, packAll (ds ++ [d]) = packAll ds ++ packD d
  | [] => by rw [List.nil_append, packAll, packAll, packAll, List.append_nil]; rfl
  | e :: ds => by rw [List.cons_append, packAll, packAll_snoc d ds, packAll, List.append_assoc]
theorem gdAll_at : ∀ {ds : List PyData} {i : Nat} {d : PyData}, GdAll ds → ds[i]? = some d → Gd d
  | [], _, _, _, h => by cases h
  | e :: ds, 0, d, h, z => by
    cases z
    rw [GdAll] at h
    exact h.1
  | e :: ds, i + 1, d, h, z => by
    rw [GdAll] at h
    exact gdAll_at (ds := ds) (i := i) h.2 z
theorem packAll_take_le (ds : List PyData) (i : Nat) : (packAll (ds.take i)).length ≤ (packAll ds).length := by
  induction ds generalizing i with
  | nil => rw [List.take_nil]; exact Nat.le_refl _
  | cons d ds ih =>
    cases i with
    | zero => exact Nat.zero_le _
    | succ i =>
      rw [List.take_succ_cons, packAll, packAll, List.length_append, List.length_append]
      have := ih i
      omega
theorem tyx_st {a : Addr} {H : Hp} {xs : List V} (h : SqT K H a xs) : TyX K H (.ref a) (.type "tuple") := by
  rcases h with (h | ⟨u, h⟩) | h
  · exact .base (.tup h)
  · exact .fTuple h
  · obtain ⟨o, _, _, e, c, _⟩ := h
    exact .kTuple e c
def sp__add_data (K : PySem.W.Frag) (m : Nat) : Sp := fun vs H Q _ => ∃ n, m = n + 1 ∧ ∃ (a : Addr) (v : V) (xs : List Int) (d : PyData), vs = [.ref a, v] ∧ H a = some (.lst (xs.map V.int)) ∧ Xk.Pk K H n v d ∧ Gd d ∧ xs.length + (packD d).length ≤ 40000 ∧ ∀ H', Xk.But a H H' → H' a = some (.lst ((xs ++ packD d).map V.int)) → Q .non H'
theorem okr__add_data (T : Txt K mg) : ∀ m : Nat, FnOk P w K mg base CX0 (2 + m) T.f__add_data T.d__add_data ["octets", "data"] (sp__add_data K m)
  | 0 => by
    have no : ∀ vs H Q E, ¬ sp__add_data K 0 vs H Q E := fun vs H Q E h => by
      obtain ⟨n, e, _⟩ := h
      cases e
    exact ⟨fun vs H Q E h => absurd h (no vs H Q E), fun A outer s H args us vs Q E _ _ _ _ h => absurd h (no vs H Q E)⟩
  | m + 1 => by
    have ih := okr__add_data T m
    refine T.F__add_data.ok sc__add_data (fun vs H Q E h => ?_) (fun cdv A outer s H vs Q E hr h => ?_)
    · obtain ⟨n, _, a, v, xs, d, rfl, _⟩ := h
      rfl
    obtain ⟨n, en, a, v, xs, d, rfl, ha, hv, hg, hl, q⟩ := h
    obtain rfl : n = m := by omega
    refine ⟨_, (pss_one (ps_if (pt_cmpR Xk.op_nIsN (pv 1) (pe_non) (nomark _)) (pss_one (ps_expr (pe_bm PySem.F.plainAttrs_list PySem.F.slot_list_append PySem.F.type_list_append mt_append (pv 0) (pa_cons (pe_glob (by rfl) T.g_NOTHING Xk.rel_int) pa_nil)))) (pss_one (ps_if (pt_val (pe_callB (Xk.k_isi (K := K) (by rfl)) (by rfl) T.m_isinstance (by decide +kernel) (pa_cons (pv 1) (pa_cons (pe_bltn (v := .ty "int") (u := .type "int") (by rfl) T.m_int (by decide +kernel) Xk.rel_ty) pa_nil)))) (pss_one (ps_expr (pe_call (ok__add_integer T) (hr.mono (by first | exact Nat.le_refl _ | (simp only [Nat.add_eq]; omega) | omega | decide)) (by rfl) T.g__add_integer T.F__add_integer.kp T.b__add_integer .nil pass0 (pa_cons (pv 0) (pa_cons (pv 1) pa_nil))))) (pss_one (ps_if (pt_val (pe_callB (Xk.k_isi (K := K) (by rfl)) (by rfl) T.m_isinstance (by decide +kernel) (pa_cons (pv 1) (pa_cons (pe_bltn (v := .ty "str") (u := .type "str") (by rfl) T.m_str (by decide +kernel) Xk.rel_ty) pa_nil)))) (pss_cons (ps_expr (pe_bm PySem.F.plainAttrs_list PySem.F.slot_list_append PySem.F.type_list_append mt_append (pv 0) (pa_cons (pe_glob (by rfl) T.g_TEXT Xk.rel_int) pa_nil)))
      (pss_cons (ps_expr (pe_call (ok__add_sevens T) (hr.mono (by first | exact Nat.le_refl _ | (simp only [Nat.add_eq]; omega) | omega | decide)) (by rfl) T.g__add_sevens T.F__add_sevens.kp T.b__add_sevens .nil pass0 (pa_cons (pv 0) (pa_cons (pe_callB (Xk.k_lenX (K := K) (by rfl)) (by rfl) T.m_len PySem.boot_len (pa_cons (pv 1) pa_nil)) pa_nil))))
      (pss_one (ps_expr (pe_bm PySem.F.plainAttrs_list PySem.F.slot_list_extend PySem.F.type_list_extend mt_extend (pv 0) (pa_cons (pe_lc (own := [("sign", 3)]) (g := gName 3) (tt := tYes) rfl sc__add_data.nd  (pi_str (pv 1)) (blkOk_by (N := N__add_data) (sc := defScope s__add_data) (own := [("sign", 3)]) (by decide +kernel)) (fun _ _ _ _ _ => pg_name (i := 3) sc__add_data.nd rfl (Or.inl rfl)) (fun _ _ _ _ _ => pts_nil) (fun _ _ _ _ _ => (pe_callB Xk.k_ord (by rfl) T.m_ord (by decide +kernel) (pa_cons (pv 3) pa_nil)))) pa_nil)))))) (pss_cons (ps_expr (pe_bm PySem.F.plainAttrs_list PySem.F.slot_list_append PySem.F.type_list_append mt_append (pv 0) (pa_cons (pe_glob (by rfl) T.g_TUPLE Xk.rel_int) pa_nil)))
      (pss_cons (ps_expr (pe_call (ok__add_sevens T) (hr.mono (by first | exact Nat.le_refl _ | (simp only [Nat.add_eq]; omega) | omega | decide)) (by rfl) T.g__add_sevens T.F__add_sevens.kp T.b__add_sevens .nil pass0 (pa_cons (pv 0) (pa_cons (pe_callB (Xk.k_lenX (K := K) (by rfl)) (by rfl) T.m_len PySem.boot_len (pa_cons (pv 1) pa_nil)) pa_nil))))
      (pss_one (ps_for PassesOwn.never rfl (pi_tup (pv 1)) (pg_name (i := 2) sc__add_data.nd rfl (Or.inl rfl)) (pss_one (ps_expr (pe_call ih (hr.mono (by first | exact Nat.le_refl _ | (simp only [Nat.add_eq]; omega) | omega | decide)) (by rfl) T.g__add_data T.F__add_data.kp T.b__add_data .nil pass0 (pa_cons (pv 0) (pa_cons (pv 2) pa_nil))))))))))))))), ?_⟩
    have hz : (xs.map V.int).length < 100000 := by rw [List.length_map]; omega
    wtm_at "x0"
    obtain ⟨h1, h2, h3⟩ := hv
    cases d with
    | none =>
      cases h1
      wtm_at "xs"
      exact q _ (Xk.but_mut (Xk.But.refl _ _)) (by rw [upd_same, List.map_append]; rfl)
    | bool b => simp only [Gd] at hg
    | list ds => simp only [Gd] at hg
    | dict ds => simp only [Gd] at hg
    | int i =>
      cases h1
      simp only [Gd] at hg
      simp only [packD] at hl q
      wtm_at "xs"
      refine ⟨a, i, xs, rfl, ha, by omega, hg.1, hg.2, fun H' b1 e1 => ?_⟩
      wtm_at "xs"
      exact q H' b1 e1
    | str z =>
      cases h1
      simp only [Gd] at hg
      simp only [packD] at hl q
      have zl : z.length = z.cps.toList.length := rfl
      have hl2 : xs.length + (1 + ((sevens z.length).length + z.length)) ≤ 40000 := by
        have e : (3 :: (sevens z.length ++ List.map (fun c : Nat => (c : Int)) z.cps.toList)).length = 1 + ((sevens z.length).length + z.length) := by
          rw [List.length_cons, List.length_append, List.length_map, ← zl]
          omega
        omega
      wtm_at "xs"
      refine Xk.x_lenXS (by omega) ?_
      wtm_at "xs"
      have big : (1001 : Nat) < 128 ^ 10 := by decide
      refine ⟨a, z.length, xs ++ [3], rfl, by rw [upd_same, List.map_append]; rfl, by rw [List.length_append]; show xs.length + 1 ≤ 50000; omega, by omega, fun H1 b1 e1 => ?_⟩
      have hb1 := Xk.but_trans (Xk.but_mut (Xk.But.refl a H)) b1
      wtm_at "xs"
      refine Xk.x_lcS (fun Dl i H' => Same H1 H' ∧ H' Dl = some (.lst (((z.cps.toList.take i).map fun c : Nat => (c : Int)).map V.int))) ?_ ?_ ?_
      · intro Dl hD
        exact ⟨Xk.same_fr hD, upd_same⟩
      · rintro Dl hD i c H' hi ⟨s2, h2⟩
        have hi2 := Xk.at_lt hi
        wtm_at "xs"
        refine ⟨rfl, ?_⟩
        wtm_at "xs"
        exact ⟨_, h2, Xk.size_lt (by simp only [List.length_map, List.length_take]; omega), Xk.same_mut s2 hD, by rw [upd_same, List.take_add_one, hi]; simp⟩
      · rintro Dl H' hD ⟨s2, h2⟩
        rw [List.take_of_length_le (show z.cps.toList.length ≤ z.length from Nat.le_refl _)] at h2
        wtm_at "xs"
        refine Xk.x_ext (s2 _ _ e1) h2 (by simp only [List.length_map, List.length_append, List.length_cons, List.length_nil]; omega) ?_
        wtm_at "xs"
        refine q _ (Xk.but_mut (Xk.but_trans hb1 (Xk.but_same s2))) ?_
        rw [upd_same]
        simp
    | tuple ds =>
      cases h1 with
      | @tup p vs _ hs hd =>
        simp only [Gd] at hg
        simp only [packD] at hl q
        obtain ⟨n2, rfl⟩ : ∃ n2, n = n2 + 1 := ⟨n - 1, by have h4 : PyData.depthAll ds + 1 ≤ n := h3; omega⟩
        have hpk : Xk.PkAll K H n2 vs ds := ⟨hd, h2, by have h4 : PyData.depthAll ds + 1 ≤ n2 + 1 := h3; omega⟩
        have hl2 : xs.length + (1 + ((sevens ds.length).length + (packAll ds).length)) ≤ 40000 := by
          have e : (4 :: (sevens ds.length ++ packAll ds)).length = 1 + ((sevens ds.length).length + (packAll ds).length) := by
            rw [List.length_cons, List.length_append]
            omega
          omega
        have hvl := hpk.len
        have big : (1001 : Nat) < 128 ^ 10 := by decide
        wtm_at "xs"
        refine Xk.x_isi (tyx_st hs) (Xk.kit_F (by decide +kernel)) ?_
        wtm_at "xs"
        refine Xk.x_isi (tyx_st hs) (Xk.kit_F (by decide +kernel)) ?_
        wtm_at "xs"
        have t0 := Xk.tt_mutL (K := K) (o := HO.lst (List.map V.int xs ++ [V.int 4])) ha
        refine Xk.x_lenXT (t0.t _ _ hs) ?_
        wtm_at "xs"
        refine ⟨a, ds.length, xs ++ [4], by rw [hvl], by rw [upd_same, List.map_append]; rfl, by rw [List.length_append]; show xs.length + 1 ≤ 50000; omega, by omega, fun H1 b1 e1 => ?_⟩
        have hb1 := Xk.but_trans (Xk.but_mut (Xk.But.refl a H)) b1
        wtm_at "xs"
        have t1 := Xk.tt_butL (K := K) ha hb1
        refine Xk.x_forT (xs := vs) (fun i σ' H' => ∃ y2 y3, σ' = [some (.ref a), some (.ref p), y2, y3] ∧ Xk.But a H H' ∧ H' a = some (.lst ((xs ++ (4 :: (sevens ds.length ++ packAll (ds.take i)))).map V.int))) (t1.t _ _ hs) ⟨_, _, rfl, hb1, by rw [e1, List.take_zero, packAll]; simp⟩ ?_ ?_ ?_
        · rintro i σ' H' hi ⟨y2, y3, rfl, hb, hx⟩
          exact (Xk.tt_butL (K := K) ha hb).t _ _ hs
        · rintro i x σ' H' hi ⟨y2, y3, rfl, hb, hx⟩
          obtain ⟨d, hd1, hd2⟩ := hpk.at hi
          have hle := packAll_take_le ds (i + 1)
          have hts : ds.take (i + 1) = ds.take i ++ [d] := by rw [List.take_add_one, hd1]; rfl
          rw [hts, packAll_snoc, List.length_append] at hle
          wtm_at "xs"
          refine ⟨n2, rfl, a, x, _, d, rfl, hx, hd2.st (Xk.tt_butL (K := K) ha hb), gdAll_at hg.2 hd1, ?_, fun H2 b2 e2 => ?_⟩
          · rw [List.length_append, List.length_cons, List.length_append]
            omega
          · wtm_at "xs"
            refine ⟨_, _, rfl, Xk.but_trans hb b2, ?_⟩
            rw [e2, hts, packAll_snoc]
            simp
        · rintro σ' H' ⟨y2, y3, rfl, hb, hx⟩
          wtm_at "xs"
          refine q H' hb ?_
          rw [hx, List.take_of_length_le (by omega)]
theorem ok__add_data (T : Txt K mg) : FnOk P w K mg base CX0 47 T.f__add_data T.d__add_data ["octets", "data"] (sp__add_data K 45) := by
  exact okr__add_data T 45
--CUT--
/-- the slice as a list of ints -/
theorem cut_ints (xs : List Int) (i j : Nat) : cutV (xs.map V.int) (some (i : Int)) (some (j : Int)) = ((xs.drop i).take (j - i)).map V.int := by
  unfold cutV
  rw [HT.sIx_nat, HT.sIx_nat, List.length_map, ← List.map_drop, ← List.map_take]
  congr 1
  by_cases h : i ≤ xs.length
  · rw [show min i xs.length = i by omega]
    by_cases h2 : j ≤ xs.length
    · rw [show min j xs.length = j by omega]
    · rw [show min j xs.length = xs.length by omega, List.take_of_length_le (by rw [List.length_drop]; omega), List.take_of_length_le (by rw [List.length_drop]; omega)]
  · rw [List.drop_eq_nil_of_le (show xs.length ≤ min i xs.length by omega), List.drop_eq_nil_of_le (show xs.length ≤ i by omega)]
    simp
theorem cut_by {xs : List Int} {x y : Int} {i j : Nat} (hx : x = (i : Int)) (hy : y = (j : Int)) : cutV (xs.map V.int) (some x) (some y) = ((xs.drop i).take (j - i)).map V.int := by
  rw [hx, hy]
  exact cut_ints xs i j

def sp_pack (K : PySem.W.Frag) : Sp := fun vs H Q _ => ∃ (v : V) (d : PyData) (n : Nat), vs = [v] ∧ n ≤ 44 ∧ Xk.Pk K H n v d ∧ Gd d ∧ (packD d).length ≤ 40000 ∧ ∀ H' p, Xk.Fr p H → Same H H' → H' p = some (.lst ((packD d).map V.int)) → Q (.ref p) H'
theorem ok_pack (T : Txt K mg) : FnOk P w K mg base CX0 48 T.f_pack T.d_pack ["data"] (sp_pack K) := by
  refine T.F_pack.ok sc_pack (fun vs H Q E h => ?_) (fun cdv A outer s H vs Q E hr h => ?_)
  · obtain ⟨v, d, n, rfl, _⟩ := h
    rfl
  obtain ⟨v, d, n, rfl, hn, hv, hg, hl, q⟩ := h
  refine ⟨_, (pss_cons (ps_set (i := 1) sc_pack.nd rfl (Or.inl rfl) (pe_lst pa_nil))
      (pss_cons (ps_expr (pe_call (ok__add_data T) (hr.mono (by decide)) (by rfl) T.g__add_data T.F__add_data.kp T.b__add_data .nil pass0 (pa_cons (pv 1) (pa_cons (pv 0) pa_nil))))
      (pss_one (ps_ret (pv 1))))), ?_⟩
  wtm_at "x0"
  wtm_at "xs"
  intro p H1 hp1 s1 h1
  wtm_at "xs"
  refine ⟨44, rfl, p, v, [], d, rfl, h1, (hv.mono hn).same s1, hg, by show 0 + _ ≤ 40000; omega, fun H2 b2 e2 => ?_⟩
  wtm_at "xs"
  exact q H2 p hp1 (Xk.same_but b2 hp1 s1) e2
def sp_sign_of (K : PySem.W.Frag) : Sp := fun vs H Q _ => ∃ c : Nat, vs = [.int c] ∧ tx c = true ∧ Q (.str ⟨#[c]⟩) H
theorem tx_where : ∀ c, tx c = true → (32 ≤ c ∧ c < 37 ∧ lowS.cps.toList[c - 32]? = some c) ∨ (38 ≤ c ∧ c ≤ 126 ∧ highS.cps.toList[c - 38]? = some c) := by
  intro c h
  have h2 : c ∈ lowS.cps.toList ∨ c ∈ highS.cps.toList := by
    unfold tx at h
    rw [Bool.or_eq_true, decide_eq_true_eq, decide_eq_true_eq] at h
    exact h
  rcases h2 with h2 | h2
  · exact .inl (by simpa using List.all_eq_true.mp (show lowS.cps.toList.all (fun c => decide (32 ≤ c ∧ c < 37 ∧ lowS.cps.toList[c - 32]? = some c)) = true by decide +kernel) c h2)
  · exact .inr (by simpa using List.all_eq_true.mp (show highS.cps.toList.all (fun c => decide (38 ≤ c ∧ c ≤ 126 ∧ highS.cps.toList[c - 38]? = some c)) = true by decide +kernel) c h2)
theorem ok_sign_of (T : Txt K mg) : FnOk P w K mg base CX0 1 T.f_sign_of T.d_sign_of ["code"] (sp_sign_of K) := by
  refine T.F_sign_of.ok sc_sign_of (fun vs H Q E h => ?_) (fun cdv A outer s H vs Q E hr h => ?_)
  · obtain ⟨c, rfl, _⟩ := h
    rfl
  obtain ⟨c, rfl, hc, q⟩ := h
  refine ⟨_, (Evl.pss_cut (ps_if (pt_chain op_le op_lt (pe_int) (pv 0) (pe_int)) (pss_one (ps_ret (pe_ix ix_str (pe_glob (by rfl) T.g_LOW_SIGNS Xk.rel_str) (pe_op op_sub (pv 0) (pe_int)) (fun _ _ => rfl)))) pss_nil)
      (Evl.pss_cut (ps_if (pt_chain op_le op_le (pe_int) (pv 0) (pe_int)) (pss_one (ps_ret (pe_ix ix_str (pe_glob (by rfl) T.g_HIGH_SIGNS Xk.rel_str) (pe_op op_sub (pv 0) (pe_int)) (fun _ _ => rfl)))) pss_nil)
      (pss_one (ps_ret (pe_non))))), ?_⟩
  wtm_at "x0"
  wtm_at "xs"
  rcases tx_where c hc with ⟨h1, h2, h3⟩ | ⟨h1, h2, h3⟩
  · refine Xk.x_cut (fun _ _ => False) ?_ (fun _ _ h => h.elim)
    wtm_at "xs"
    refine Xk.x_ixS (c := c) (by decide +kernel) (show atI lowS.cps.toList _ = some c from Xk.at_nat (j := c - 32) (by omega) h3) ?_
    wtm_at "xs"
    exact q
  · refine Xk.x_cut (fun σ' H' => H' = H ∧ σ' = [some (.int (c : Int))]) ?_ ?_
    · wtm_at "xs"
      exact ⟨rfl, rfl⟩
    · rintro σ' H' ⟨rfl, rfl⟩
      refine Xk.x_cut (fun _ _ => False) ?_ (fun _ _ h => h.elim)
      wtm_at "xs"
      refine Xk.x_ixS (c := c) (by decide +kernel) (show atI highS.cps.toList _ = some c from Xk.at_nat (j := c - 38) (by omega) h3) ?_
      wtm_at "xs"
      exact q
--CUT--
def sp__octet_at (K : PySem.W.Frag) : Sp := fun vs H Q _ => ∃ (a : Addr) (xs : List Int) (i : Nat) (x : Int), vs = [.ref a, .int i] ∧ SqL K H a (xs.map V.int) ∧ xs[i]? = some x ∧ Q (.int x) H
theorem ok__octet_at (T : Txt K mg) : FnOk P w K mg base CX0 1 T.f__octet_at T.d__octet_at ["octets", "at"] (sp__octet_at K) := by
  refine T.F__octet_at.ok sc__octet_at (fun vs H Q E h => ?_) (fun cdv A outer s H vs Q E hr h => ?_)
  · obtain ⟨a, xs, i, x, rfl, _⟩ := h
    rfl
  obtain ⟨a, xs, i, x, rfl, ha, hx, q⟩ := h
  refine ⟨_, (Evl.pss_cut (ps_if (pt_cmpR op_ge (pv 1) (pe_callB (Xk.k_len (K := K) (by rfl)) (by rfl) T.m_len PySem.boot_len (pa_cons (pv 0) pa_nil)) (nomark _)) (pss_one Xk.ps_never) pss_nil)
      (pss_one (ps_ret (pe_ix (Xk.k_ixL (K := K) (by rfl)) (pv 0) (pv 1) (fun _ _ => rfl))))), ?_⟩
  have hi := Xk.at_lt hx
  have hi2 : (i : Int) < (xs.map V.int).length := by rw [List.length_map]; omega
  wtm_at "x0"
  wtm_at "xs"
  refine Xk.x_cut (fun σ' H' => H' = H ∧ σ' = [some (.ref a), some (.int (i : Int))]) ?_ ?_
  · wtm_at "xs"
    exact ⟨rfl, rfl⟩
  · rintro σ' H' ⟨rfl, rfl⟩
    wtm_at "xs"
    exact q
/-- what stands in xs from i on begins with ys -/
def On (xs : List Int) (i : Nat) (ys : List Int) : Prop := ∃ r, xs.drop i = ys ++ r
theorem On.head {xs : List Int} {i : Nat} {y : Int} {ys : List Int} (h : On xs i (y :: ys)) : xs[i]? = some y := by
  obtain ⟨r, h⟩ := h
  have h2 := congrArg (fun l => l[0]?) h
  simpa using h2
theorem On.tail {xs : List Int} {i : Nat} {y : Int} {ys : List Int} (h : On xs i (y :: ys)) : On xs (i + 1) ys := by
  obtain ⟨r, h⟩ := h
  refine ⟨r, ?_⟩
  rw [← List.drop_drop, h]
  rfl
theorem On.left {xs : List Int} {i : Nat} {ys zs : List Int} (h : On xs i (ys ++ zs)) : On xs i ys := by
  obtain ⟨r, h⟩ := h
  exact ⟨zs ++ r, by rw [h, List.append_assoc]⟩
theorem On.right {xs : List Int} {i : Nat} {ys zs : List Int} (h : On xs i (ys ++ zs)) : On xs (i + ys.length) zs := by
  obtain ⟨r, h⟩ := h
  refine ⟨r, ?_⟩
  rw [← List.drop_drop, h, List.append_assoc, List.drop_left]
theorem On.len {xs : List Int} {i : Nat} {ys : List Int} (h : On xs i ys) : ys.length ≤ xs.length - i := by
  obtain ⟨r, h⟩ := h
  have h2 := congrArg List.length h
  rw [List.length_drop, List.length_append] at h2
  omega
theorem On.part {xs : List Int} {i : Nat} {ys : List Int} (h : On xs i ys) : (xs.drop i).take ys.length = ys := by
  obtain ⟨r, h⟩ := h
  rw [h, List.take_left]
def sp__read_sevens (K : PySem.W.Frag) : Sp := fun vs H Q _ => ∃ (a : Addr) (xs : List Int) (i n : Nat), vs = [.ref a, .int i] ∧ SqL K H a (xs.map V.int) ∧ On xs i (sevens n) ∧ n < 128 ^ 10 ∧ ∀ H' p, Xk.Fr p H → Same H H' → H' p = some (.tup [.int n, .int ((i + (sevens n).length : Nat) : Int)]) → Q (.ref p) H'
theorem ok__read_sevens (T : Txt K mg) : FnOk P w K mg base CX0 2 T.f__read_sevens T.d__read_sevens ["octets", "at"] (sp__read_sevens K) := by
  refine T.F__read_sevens.ok sc__read_sevens (fun vs H Q E h => ?_) (fun cdv A outer s H vs Q E hr h => ?_)
  · obtain ⟨a, xs, i, n, rfl, _⟩ := h
    rfl
  obtain ⟨a, xs, i, n, rfl, ha, ho, hn, q⟩ := h
  refine ⟨_, (pss_cons (ps_set (i := 2) sc__read_sevens.nd rfl (Or.inl rfl) (pe_int))
      (pss_cons (ps_set (i := 3) sc__read_sevens.nd rfl (Or.inl rfl) (pe_int))
      (pss_cons (ps_set (i := 4) sc__read_sevens.nd rfl (Or.inl rfl) (pv 1))
      (Evl.pss_cut (ps_while PassesOwn.never (pt_cmpR op_ge (pe_call (ok__octet_at T) (hr.mono (by decide)) (by rfl) T.g__octet_at T.F__octet_at.kp T.b__octet_at .nil pass0 (pa_cons (pv 0) (pa_cons (pv 4) pa_nil))) (pe_int) (nomark _)) (pss_cons (ps_aug (i := 2) sc__read_sevens.nd rfl (Or.inl rfl) (pe_op op_mul (pe_op op_sub (pe_ix (Xk.k_ixL (K := K) (by rfl)) (pv 0) (pv 4) (fun _ _ => rfl)) (pe_int)) (pv 3)) ip_add)
      (pss_cons (ps_aug (i := 3) sc__read_sevens.nd rfl (Or.inl rfl) (pe_int) Xk.ip_mul128)
      (pss_one (ps_aug (i := 4) sc__read_sevens.nd rfl (Or.inl rfl) (pe_int) ip_add)))))
      (Evl.pss_cut (ps_if (PW.pt (pw_and (pt_cmpR op_eq (pe_ix (Xk.k_ixL (K := K) (by rfl)) (pv 0) (pv 4) (fun _ _ => rfl)) (pe_int) (nomark _)) (pw_and1 (pt_cmpR op_gt (pv 4) (pv 1) (nomark _))))) (pss_one Xk.ps_never) pss_nil)
      (pss_one (ps_ret (pe_tup (pa_cons (pe_op op_add (pv 2) (pe_op op_mul (pe_ix (Xk.k_ixL (K := K) (by rfl)) (pv 0) (pv 4) (fun _ _ => rfl)) (pv 3))) (pa_cons (pe_op op_add (pv 4) (pe_int)) pa_nil)))))))))), ?_⟩
  wtm_at "x0"
  wtm_at "xs"
  have hsl := sevens_len hn
  refine Xk.x_while1 (fun m σ' H' => ∃ (n' g k j : Nat), σ' = [some (.ref a), some (.int i), some (.int (g : Int)), some (.int ((128 ^ k : Nat) : Int)), some (.int (j : Int))] ∧ H' = H ∧ On xs j (sevens n') ∧ g + 128 ^ k * n' = n ∧ j = i + k ∧ j + (sevens n').length = i + (sevens n).length ∧ (0 < k → 0 < n') ∧ n' = m) n ⟨n, 0, 0, i, rfl, rfl, ho, by omega, rfl, rfl, fun z => absurd z (by decide), rfl⟩ ?_
  rintro m σ' H' ⟨n', g, k, j, rfl, rfl, ho', hg, hj, hl, hz, rfl⟩
  by_cases c : n' < 128
  · rw [sevens_lt c] at ho' hl
    have hx := ho'.head
    wtm_at "xs"
    refine ⟨a, xs, j, _, rfl, ha, hx, ?_⟩
    wtm_at "xs"
    refine Xk.x_wd (fun c2 => absurd c2 (by omega)) (fun _ => ?_)
    refine Xk.x_wF ?_
    wtm_at "xs"
    have hfin : ((i + (sevens n).length : Nat) : Int) = (j : Int) + 1 := by
      have : j + 1 = i + (sevens n).length := hl
      omega
    have hval : ((n : Nat) : Int) = (g : Int) + (n' : Int) * ((128 ^ k : Nat) : Int) := by rw [← hg, Nat.mul_comm, Int.natCast_add, Int.natCast_mul]
    refine Xk.x_cut (fun σ2 H2 => H2 = H' ∧ σ2 = [some (.ref a), some (.int i), some (.int (g : Int)), some (.int ((128 ^ k : Nat) : Int)), some (.int (j : Int))]) ?_ ?_
    · rcases Nat.eq_zero_or_pos n' with c0 | c0
      · subst c0
        have hk0 : k = 0 := by omega
        wtm_at "xs"
        exact ⟨rfl, rfl⟩
      · have hne : ¬ (V.int (n' : Int) = V.int 0) := fun z => by
          injection z with z
          omega
        wtm_at "xs"
        exact ⟨rfl, rfl⟩
    · rintro σ2 H2 ⟨rfl, rfl⟩
      wtm_at "xs"
      intro p H1 hp1 s1 h1
      wtm_at "xs"
      refine q H1 p hp1 s1 ?_
      rw [h1, hfin, hval]
  · rw [sevens_ge c] at ho' hl
    have hx := ho'.head
    wtm_at "xs"
    refine ⟨a, xs, j, _, rfl, ha, hx, ?_⟩
    wtm_at "xs"
    refine Xk.x_wd (fun _ => ?_) (fun c2 => absurd c2 (by omega))
    refine Xk.x_wT ?_
    wtm_at "xs"
    have e1 : (g : Int) + (((n' % 128 : Nat) : Int) + 128 - 128) * ((128 ^ k : Nat) : Int) = ((g + n' % 128 * 128 ^ k : Nat) : Int) := by
      rw [Int.natCast_add, Int.natCast_mul, Int.add_sub_cancel]
    have e2 : ((128 ^ k : Nat) : Int) * 128 = ((128 ^ (k + 1) : Nat) : Int) := by rw [Nat.pow_succ, Int.natCast_mul]; rfl
    have e3 : g + n' % 128 * 128 ^ k + 128 ^ (k + 1) * (n' / 128) = n := by
      rw [← hg, Nat.pow_succ, Nat.mul_assoc, Nat.mul_comm (n' % 128), Nat.add_assoc, ← Nat.mul_add]
      congr 2
      omega
    have hl2 : j + 1 + (sevens (n' / 128)).length = i + (sevens n).length := by
      rw [List.length_cons] at hl
      omega
    exact ⟨n' / 128, by omega, n' / 128, g + n' % 128 * 128 ^ k, k + 1, j + 1, by rw [e1, e2]; rfl, rfl, ho'.tail, e3, by omega, hl2, fun _ => by omega, rfl⟩
--CUT--
def sp__read_integer (K : PySem.W.Frag) : Sp := fun vs H Q _ => ∃ (a : Addr) (xs : List Int) (i : Nat) (n : Int), vs = [.ref a, .int i] ∧ SqL K H a (xs.map V.int) ∧ On xs i (intD n) ∧ -1000000000000000000 ≤ n ∧ n ≤ 1000000000000000000 ∧ ∀ H' p, Xk.Fr p H → Same H H' → H' p = some (.tup [.int n, .int ((i + (intD n).length : Nat) : Int)]) → Q (.ref p) H'
theorem ok__read_integer (T : Txt K mg) : FnOk P w K mg base CX0 3 T.f__read_integer T.d__read_integer ["octets", "at"] (sp__read_integer K) := by
  refine T.F__read_integer.ok sc__read_integer (fun vs H Q E h => ?_) (fun cdv A outer s H vs Q E hr h => ?_)
  · obtain ⟨a, xs, i, n, rfl, _⟩ := h
    rfl
  obtain ⟨a, xs, i, n, rfl, ha, ho, h1, h2, q⟩ := h
  refine ⟨_, (pss_cons (ps_asg (pe_call (ok__read_sevens T) (hr.mono (by decide)) (by rfl) T.g__read_sevens T.F__read_sevens.kp T.b__read_sevens .nil pass0 (pa_cons (pv 0) (pa_cons (pe_op op_add (pv 1) (pe_int)) pa_nil))) (pg_tup rfl (pgs_cons (pg_name (i := 2) sc__read_integer.nd rfl (Or.inl rfl)) (pgs_cons (pg_name (i := 3) sc__read_integer.nd rfl (Or.inl rfl)) pgs_nil))))
      (pss_one (ps_ret (pe_tup (pa_cons (pe_ifExp (pt_cmpR op_eq (pe_ix (Xk.k_ixL (K := K) (by rfl)) (pv 0) (pv 1) (fun _ _ => rfl)) (pe_glob (by rfl) T.g_BELOW_ZERO Xk.rel_int) (nomark _)) (pe_op op_sub (pe_un un_neg (pv 2)) (pe_int)) (pv 2)) (pa_cons (pv 3) pa_nil)))))), ?_⟩
  have big : (1000000000000000001 : Nat) < 128 ^ 10 := by decide
  wtm_at "x0"
  wtm_at "xs"
  by_cases c : 0 ≤ n
  · rw [intD_pos c] at ho q
    have hx := ho.head
    refine ⟨a, xs, i + 1, n.toNat, by rfl, ha, ho.tail, by omega, fun H1 p hp1 s1 e1 => ?_⟩
    wtm_at "xs"
    intro p2 H2 hp2 s2 h3
    wtm_at "xs"
    refine q H2 p2 (by wtm_at "free") (by wtm_at "sm") ?_
    rw [h3, show ((n.toNat : Nat) : Int) = n by omega, show i + 1 + (sevens n.toNat).length = i + (1 :: sevens n.toNat).length by rw [List.length_cons]; omega]
  · rw [intD_neg c] at ho q
    have hx := ho.head
    refine ⟨a, xs, i + 1, (-n - 1).toNat, by rfl, ha, ho.tail, by omega, fun H1 p hp1 s1 e1 => ?_⟩
    wtm_at "xs"
    intro p2 H2 hp2 s2 h3
    wtm_at "xs"
    refine q H2 p2 (by wtm_at "free") (by wtm_at "sm") ?_
    rw [h3, show -(((-n - 1).toNat : Nat) : Int) - 1 = n by omega, show i + 1 + (sevens (-n - 1).toNat).length = i + (2 :: sevens (-n - 1).toNat).length by rw [List.length_cons]; omega]
theorem okC_tx {z : Str} (h : Xk.AllC tx z = true) : Xk.AllC Xk.okC z = true := Xk.allC_mono h fun c hc => by
  rcases tx_where c hc with ⟨h1, h2, _⟩ | ⟨h1, h2, _⟩
  · exact decide_eq_true (by omega)
  · exact decide_eq_true (by omega)
def codes (z : Str) : List Int := z.cps.toList.map fun c : Nat => (c : Int)
theorem joinL_one : ∀ cs : List Nat, TL.joinL [] (cs.map fun c => [c]) = cs
  | [] => rfl
  | [c] => rfl
  | c :: d :: r => by
    show [c] ++ ([] ++ TL.joinL [] ((d :: r).map fun c => [c])) = c :: d :: r
    rw [joinL_one (d :: r)]
    rfl
theorem join_one (cs : List Nat) : Txt.join "" (cs.map fun c => (⟨#[c]⟩ : Str)) = ⟨cs.toArray⟩ := by
  have h : (Txt.join "" (cs.map fun c => (⟨#[c]⟩ : Str))).cps.toList = cs := by
    rw [TL.join_eq]
    refine (TL.tl_join "" _).trans ?_
    rw [List.map_map]
    exact joinL_one cs
  show (⟨(Txt.join "" (cs.map fun c => (⟨#[c]⟩ : Str))).cps⟩ : Str) = _
  rw [← Array.toArray_toList (xs := (Txt.join "" (cs.map fun c => (⟨#[c]⟩ : Str))).cps), h]
theorem pk_signs {K : PySem.W.Frag} {H : Hp} : ∀ cs : List Nat, cs.all tx = true → Xk.PkAll K H 0 (cs.map fun c => V.str ⟨#[c]⟩) (cs.map fun c => PyData.str ⟨#[c]⟩)
  | [], _ => Xk.pk_nil
  | c :: cs, h => by
    rw [List.all_cons, Bool.and_eq_true] at h
    exact Xk.pk_cons (Xk.pk_str (Xk.lay_str (okC_tx (one_all h.1)))) (pk_signs cs h.2)
theorem no_none (cs : List Nat) : Xk.inD .none (cs.map fun c => PyData.str ⟨#[c]⟩) = false := by
  unfold Xk.inD
  rw [List.any_map, List.any_eq_false]
  intro c _
  exact Bool.false_ne_true
theorem sum_ones (cs : List Nat) : ((cs.map fun c => (⟨#[c]⟩ : Str)).map (·.length)).sum = cs.length := by
  induction cs with
  | nil => rfl
  | cons c cs ih =>
    rw [List.map_cons, List.map_cons, List.sum_cons, ih, one_len, List.length_cons]
    omega
def sp__read_text (K : PySem.W.Frag) : Sp := fun vs H Q _ => ∃ (a : Addr) (xs : List Int) (i : Nat) (z : Str), vs = [.ref a, .int i] ∧ SqL K H a (xs.map V.int) ∧ On xs i (sevens z.length ++ codes z) ∧ z.length ≤ 1000 ∧ Xk.AllC tx z = true ∧ ∀ H' p, Xk.Fr p H → Same H H' → H' p = some (.tup [.str z, .int ((i + (sevens z.length ++ codes z).length : Nat) : Int)]) → Q (.ref p) H'
theorem ok__read_text (T : Txt K mg) : FnOk P w K mg base CX0 3 T.f__read_text T.d__read_text ["octets", "at"] (sp__read_text K) := by
  refine T.F__read_text.ok sc__read_text (fun vs H Q E h => ?_) (fun cdv A outer s H vs Q E hr h => ?_)
  · obtain ⟨a, xs, i, z, rfl, _⟩ := h
    rfl
  obtain ⟨a, xs, i, z, rfl, ha, ho, hl, hz, q⟩ := h
  refine ⟨_, (pss_cons (ps_asg (pe_call (ok__read_sevens T) (hr.mono (by decide)) (by rfl) T.g__read_sevens T.F__read_sevens.kp T.b__read_sevens .nil pass0 (pa_cons (pv 0) (pa_cons (pv 1) pa_nil))) (pg_tup rfl (pgs_cons (pg_name (i := 2) sc__read_text.nd rfl (Or.inl rfl)) (pgs_cons (pg_name (i := 3) sc__read_text.nd rfl (Or.inl rfl)) pgs_nil))))
      (pss_cons (ps_set (i := 4) sc__read_text.nd rfl (Or.inl rfl) (pe_op op_add (pv 3) (pv 2)))
      (Evl.pss_cut (ps_if (pt_cmpR op_gt (pv 4) (pe_callB (Xk.k_len (K := K) (by rfl)) (by rfl) T.m_len PySem.boot_len (pa_cons (pv 0) pa_nil)) (nomark _)) (pss_one Xk.ps_never) pss_nil)
      (pss_cons (ps_setLc (i := 5) (own := [("code", 6)]) (g := gName 6) (tt := tYes) rfl sc__read_text.nd rfl rfl (sw_true rfl rfl rfl (by decide +kernel)) (pi_list (pe_slice (Xk.k_slL (K := K) (by rfl)) (pv 0) (po_some (pv 3)) (po_some (pv 4)))) (blkOk_by (N := N__read_text) (sc := defScope s__read_text) (own := [("code", 6)]) (by decide +kernel)) (fun _ _ _ _ _ => pg_name (i := 6) sc__read_text.nd rfl (Or.inl rfl)) (fun _ _ _ _ _ => pts_nil) (fun _ _ _ _ _ => (pe_call (ok_sign_of T) (hr.mono (by decide)) (by rfl) T.g_sign_of T.F_sign_of.kp T.b_sign_of .nil pass0 (pa_cons (pv 6) pa_nil))))
      (Evl.pss_cut (ps_if (pt_cmpR (Xk.k_inD (K := K) (Xk.u65 hr) (by rfl)) (pe_non) (pv 5) (by rfl)) (pss_one Xk.ps_never) pss_nil)
      (pss_one (ps_ret (pe_tup (pa_cons (pe_bm PySem.F.plainAttrs_str PySem.F.slot_str_join PySem.F.type_str_join (Xk.k_join (K := K) (by rfl)) (pe_str) (pa_cons (pv 5) pa_nil)) (pa_cons (pv 4) pa_nil)))))))))), ?_⟩
  have big : (1000000000000000001 : Nat) < 128 ^ 10 := by decide
  wtm_at "x0"
  wtm_at "xs"
  refine ⟨a, xs, i, z.length, rfl, ha, ho.left, by omega, fun H1 p hp1 s1 e1 => ?_⟩
  wtm_at "xs"
  have hlen : i + ((sevens z.length).length + z.length) ≤ xs.length := by
    have h2 := ho.len
    have h3 := sevens_pos z.length
    rw [List.length_append, codes, List.length_map] at h2
    have : z.cps.toList.length = z.length := rfl
    omega
  have hlen2 : ((i + (sevens z.length).length : Nat) : Int) + (z.length : Int) ≤ ((xs.map V.int).length : Int) := by
    rw [List.length_map]
    omega
  refine Xk.x_cut (fun σ2 H2 => H2 = H1 ∧ σ2 = [some (.ref a), some (.int i), some (.int z.length), some (.int ((i + (sevens z.length).length : Nat) : Int)), some (.int (((i + (sevens z.length).length : Nat) : Int) + z.length)), none, none]) ?_ ?_
  · wtm_at "xs"
    exact ⟨rfl, rfl⟩
  · rintro σ2 H2 ⟨rfl, rfl⟩
    wtm_at "xs"
    intro p2 H3 hp2 s2 e2
    rw [cut_by (j := i + (sevens z.length).length + z.length) rfl (by omega)] at e2
    rw [show i + (sevens z.length).length + z.length - (i + (sevens z.length).length) = (codes z).length by rw [codes, List.length_map]; show _ = z.length; omega, ho.right.part] at e2
    wtm_at "xs"
    refine Xk.x_lcL (fun Dl i H' => Same H3 H' ∧ H' Dl = some (.lst ((z.cps.toList.take i).map fun c : Nat => V.str ⟨#[c]⟩))) (Xk.sq_of e2) ?_ ?_ ?_ ?_
    · intro Dl hD
      exact ⟨Xk.same_fr hD, upd_same⟩
    · rintro Dl i H' hD ⟨s3, h3⟩
      exact Xk.sq_of (s3 _ _ e2)
    · rintro Dl hD j x H' hi ⟨s3, h3⟩
      obtain ⟨c, hc, rfl⟩ : ∃ c : Nat, z.cps.toList[j]? = some c ∧ x = .int (c : Int) := by
        rw [codes, List.map_map, List.getElem?_map] at hi
        cases e : z.cps.toList[j]? with
        | none => rw [e] at hi; cases hi
        | some c => rw [e] at hi; exact ⟨c, rfl, (Option.some.inj hi).symm⟩
      have hi2 := Xk.at_lt hc
      have hzl : z.cps.toList.length = z.length := rfl
      wtm_at "xs"
      refine ⟨rfl, ?_⟩
      wtm_at "xs"
      refine ⟨c, rfl, ?_, ?_⟩
      · have hq := Xk.allC_at hz hc
        unfold Xk.AllC at hq
        simpa using hq
      · exact ⟨_, h3, Xk.size_lt (by simp only [List.length_map, List.length_take]; omega), Xk.same_mut s3 hD, by rw [upd_same, List.take_add_one, hc]; simp⟩
    · rintro Dl H' hD ⟨s3, h3⟩
      rw [List.length_map, codes, List.length_map, List.take_length] at h3
      wtm_at "xs"
      have hall : z.cps.toList.all tx = true := by
        have hq := hz
        unfold Xk.AllC at hq
        simpa using hq
      refine Xk.x_cut (fun σ2 H4 => H4 = H' ∧ σ2 = [some (.ref a), some (.int i), some (.int z.length), some (.int ((i + (sevens z.length).length : Nat) : Int)), some (.int (((i + (sevens z.length).length : Nat) : Int) + z.length)), some (.ref Dl), none]) ?_ ?_
      · wtm_at "xs"
        refine Xk.x_inPk (n := 0) Xk.pk_non (Xk.sq_of h3) (pk_signs _ hall) ?_
        rw [no_none]
        wtm_at "xs"
        exact ⟨rfl, rfl⟩
      · rintro σ2 H4 ⟨rfl, rfl⟩
        wtm_at "xs"
        have hzl : z.cps.toList.length = z.length := rfl
        refine ⟨rfl, ?_⟩
        wtm_at "xs"
        refine ⟨"", Dl, z.cps.toList.map fun c => ⟨#[c]⟩, rfl, rfl, .inl (Xk.sq_of (by rw [h3, List.map_map]; rfl)), by rw [sum_ones, List.length_map]; show _ + _ * 0 ≤ 16777216; omega, ?_⟩
        rw [join_one, Array.toArray_toList]
        wtm_at "xs"
        intro p4 H5 hp4 s4 h5
        wtm_at "xs"
        refine q H5 p4 (by wtm_at "free") (by wtm_at "sm") ?_
        rw [h5, show (((i + (sevens z.length).length : Nat) : Int) + z.length) = ((i + (sevens z.length ++ codes z).length : Nat) : Int) by rw [List.length_append, codes, List.length_map, hzl]; omega]
--CUT--
def sp__read_data (K : PySem.W.Frag) (m : Nat) : Sp := fun vs H Q _ => ∃ n, m = n + 1 ∧ ∃ (a : Addr) (xs : List Int) (i : Nat) (r : Int) (d : PyData), vs = [.ref a, .int i, .int r] ∧ SqL K H a (xs.map V.int) ∧ On xs i (packD d) ∧ Gd d ∧ d.depth ≤ n ∧ (d.depth : Int) ≤ r ∧ ∀ H' p v, Xk.Fr p H → Same H H' → H' p = some (.tup [v, .int ((i + (packD d).length : Nat) : Int)]) → Xk.Pk K H' n v d → Q (.ref p) H'
def sp__read_tuple (K : PySem.W.Frag) (m : Nat) : Sp := fun vs H Q _ => ∃ n, m = n + 1 ∧ ∃ (a : Addr) (xs : List Int) (i : Nat) (r : Int) (ds : List PyData), vs = [.ref a, .int i, .int r] ∧ SqL K H a (xs.map V.int) ∧ On xs i (sevens ds.length ++ packAll ds) ∧ ds.length ≤ 1000 ∧ GdAll ds ∧ PyData.depthAll ds ≤ n ∧ (PyData.depthAll ds : Int) + 1 ≤ r ∧ ∀ H' p v, Xk.Fr p H → Same H H' → H' p = some (.tup [v, .int ((i + (sevens ds.length ++ packAll ds).length : Nat) : Int)]) → Xk.Pk K H' (n + 1) v (.tuple ds) → Q (.ref p) H'
theorem fall {t u : TS} {D : Ends} {σ : L2.St} {H : Hp} (h1 : t { D with nx := fun σ2 H2 => H2 = H ∧ σ2 = σ } σ H) (h2 : u D σ H) : Evl.tCut t u D σ H := by
  refine Xk.x_cut (fun σ2 H2 => H2 = H ∧ σ2 = σ) h1 ?_
  rintro σ2 H2 ⟨rfl, rfl⟩
  exact h2
theorem packAll_app (ys : List PyData) : ∀ xs : List PyData, packAll (xs ++ ys) = packAll xs ++ packAll ys
  | [] => by rw [packAll]; rfl
  | x :: xs => by rw [List.cons_append, packAll, packAll, packAll_app ys xs, List.append_assoc]
theorem On.item {xs : List Int} {i j : Nat} {ds : List PyData} {d : PyData} (h : On xs i (packAll ds)) (e : ds[j]? = some d) : On xs (i + (packAll (ds.take j)).length) (packD d) := by
  have hj := Xk.at_lt e
  have e2 : ds = ds.take j ++ d :: ds.drop (j + 1) := by
    have e3 : ds[j] = d := by
      rw [List.getElem?_eq_getElem hj] at e
      exact Option.some.inj e
    rw [← e3, ← List.drop_eq_getElem_cons hj, List.take_append_drop]
  have h2 : On xs i (packAll (ds.take j) ++ (packD d ++ packAll (ds.drop (j + 1)))) := by
    have e4 : packAll ds = packAll (ds.take j) ++ (packD d ++ packAll (ds.drop (j + 1))) := by
      have e5 := congrArg packAll e2
      rw [packAll_app, packAll] at e5
      exact e5
    rw [← e4]
    exact h
  exact h2.right.left
theorem depth_at : ∀ {ds : List PyData} {i : Nat} {d : PyData}, ds[i]? = some d → d.depth ≤ PyData.depthAll ds
  | [], _, _, h => by cases h
  | e :: ds, 0, d, h => by
    cases h
    exact Nat.le_max_left _ _
  | e :: ds, i + 1, d, h => Nat.le_trans (depth_at (ds := ds) (i := i) h) (Nat.le_max_right _ _)
theorem rt__read_tuple (T : Txt K mg) (m : Nat) (ih : FnOk P w K mg base CX0 (3 + m + m) T.f__read_data T.d__read_data ["octets", "at", "room"] (sp__read_data K m)) : FnOk P w K mg base CX0 (3 + m + m + 1) T.f__read_tuple T.d__read_tuple ["octets", "at", "room"] (sp__read_tuple K m) := by
  refine T.F__read_tuple.ok sc__read_tuple (fun vs H Q E h => ?_) (fun cdv A outer s H vs Q E hr h => ?_)
  · obtain ⟨n, _, a, xs, i, r, ds, rfl, _⟩ := h
    rfl
  obtain ⟨n, rfl, a, xs, i, r, ds, rfl, ha, ho, hl, hg, hd, hr2, q⟩ := h
  refine ⟨_, (Evl.pss_cut (ps_if (pt_cmpR op_eq (pv 2) (pe_int) (nomark _)) (pss_one Xk.ps_never) pss_nil)
      (pss_cons (ps_asg (pe_call (ok__read_sevens T) (hr.mono (by first | exact Nat.le_refl _ | (simp only [Nat.add_eq]; omega) | omega | decide)) (by rfl) T.g__read_sevens T.F__read_sevens.kp T.b__read_sevens .nil pass0 (pa_cons (pv 0) (pa_cons (pv 1) pa_nil))) (pg_tup rfl (pgs_cons (pg_name (i := 3) sc__read_tuple.nd rfl (Or.inl rfl)) (pgs_cons (pg_name (i := 4) sc__read_tuple.nd rfl (Or.inl rfl)) pgs_nil))))
      (pss_cons (ps_set (i := 5) sc__read_tuple.nd rfl (Or.inl rfl) (pe_lst pa_nil))
      (pss_cons (ps_for PassesOwn.never rfl (pi_range1 (by rfl) T.m_range (pa_cons (pv 3) pa_nil)) (pg_name (i := 6) sc__read_tuple.nd rfl (Or.inl rfl)) (pss_cons (ps_asg (pe_call ih (hr.mono (by first | exact Nat.le_refl _ | (simp only [Nat.add_eq]; omega) | omega | decide)) (by rfl) T.g__read_data T.F__read_data.kp T.b__read_data .nil pass0 (pa_cons (pv 0) (pa_cons (pv 4) (pa_cons (pe_op op_sub (pv 2) (pe_int)) pa_nil)))) (pg_tup rfl (pgs_cons (pg_name (i := 7) sc__read_tuple.nd rfl (Or.inl rfl)) (pgs_cons (pg_name (i := 4) sc__read_tuple.nd rfl (Or.inl rfl)) pgs_nil))))
      (pss_one (ps_expr (pe_bm PySem.F.plainAttrs_list PySem.F.slot_list_append PySem.F.type_list_append mt_append (pv 5) (pa_cons (pv 7) pa_nil))))))
      (pss_one (ps_ret (pe_tup (pa_cons (pe_callTy (Xk.k_tuple (K := K) (by rfl)) (by rfl) T.m_tuple (by decide +kernel) (pa_cons (pv 5) pa_nil)) (pa_cons (pv 4) pa_nil))))))))), ?_⟩
  have big : (1000000000000000001 : Nat) < 128 ^ 10 := by decide
  have hr0 : ¬ (V.int r = V.int 0) := fun z => by
    injection z with z
    omega
  wtm_at "x0"
  wtm_at "xs"
  refine fall ?_ ?_
  · wtm_at "xs"
    exact ⟨rfl, rfl⟩
  wtm_at "xs"
  refine ⟨a, xs, i, ds.length, rfl, ha, ho.left, by omega, fun H1 p hp1 s1 e1 => ?_⟩
  wtm_at "xs"
  intro p2 H2 hp2 s2 e2
  wtm_at "xs"
  refine Xk.x_range (fun j σ' H' => ∃ y6 y7 vs, σ' = [some (.ref a), some (.int i), some (.int r), some (.int ds.length), some (.int ((i + (sevens ds.length).length + (packAll (ds.take j)).length : Nat) : Int)), some (.ref p2), y6, y7] ∧ Xk.But p2 H2 H' ∧ H' p2 = some (.lst vs) ∧ vs.length = j ∧ Xk.PkAll K H' n vs (ds.take j)) ⟨by omega, by omega⟩ ?_ ?_ ?_
  · exact ⟨_, _, [], by rw [List.take_zero, packAll]; rfl, Xk.But.refl _ _, e2, rfl, by rw [List.take_zero]; exact Xk.pk_nil⟩
  · rintro j σ' H' hj ⟨y6, y7, vs, rfl, hb, hv, hvl, hp⟩
    wtm_at "xs"
    obtain ⟨d, hd1⟩ := Xk.lt_at (xs := ds) (j := j) (by omega)
    have hdd := depth_at hd1
    have sH : Same H H' := Xk.same_but hb (by wtm_at "free") (by wtm_at "sm")
    refine ⟨n, rfl, a, xs, _, r - 1, d, rfl, Xk.sq_same ha sH, ho.right.item hd1, gdAll_at hg hd1, by omega, by omega, fun H3 p3 v hp3 s3 e3 hv3 => ?_⟩
    wtm_at "xs"
    have hts : ds.take (j + 1) = ds.take j ++ [d] := by rw [List.take_add_one, hd1]; rfl
    have hv4 := hv3.st (Xk.tt_mutL (K := K) (o := HO.lst (vs ++ [v])) (s3 _ _ hv))
    refine ⟨some (.int (j : Int)), some v, vs ++ [v], ?_, ?_, upd_same, by rw [List.length_append, hvl]; rfl, ?_⟩
    · rw [hts, packAll_snoc, List.length_append, ← Nat.add_assoc]
    · exact Xk.but_mut (Xk.but_trans hb (Xk.but_same s3))
    · rw [hts]
      exact Xk.pk_snoc ((hp.same s3).st (Xk.tt_mutL (K := K) (s3 _ _ hv))) hv4
  · rintro σ' H' ⟨y6, y7, vs, rfl, hb, hv, hvl, hp⟩
    wtm_at "xs"
    intro p4 H4 hp4 s4 e4
    wtm_at "xs"
    intro p5 H5 hp5 s5 e5
    wtm_at "xs"
    rw [Int.toNat_natCast, List.take_length] at hp e5
    have sH : Same H H' := Xk.same_but hb (by wtm_at "free") (by wtm_at "sm")
    refine q H5 p5 (.ref p4) (by wtm_at "free") (by wtm_at "sm") ?_ (Xk.pk_tup (Xk.st_of (s5 _ _ e4)) ((hp.same s4).same s5))
    rw [e5, List.length_append, ← Nat.add_assoc]
theorem okr__read_data (T : Txt K mg) : ∀ m : Nat, FnOk P w K mg base CX0 (3 + m + m) T.f__read_data T.d__read_data ["octets", "at", "room"] (sp__read_data K m)
  | 0 => by
    have no : ∀ vs H Q E, ¬ sp__read_data K 0 vs H Q E := fun vs H Q E h => by
      obtain ⟨n, e, _⟩ := h
      cases e
    exact ⟨fun vs H Q E h => absurd h (no vs H Q E), fun A outer s H args us vs Q E _ _ _ _ h => absurd h (no vs H Q E)⟩
  | m + 1 => by
    have ih := okr__read_data T m
    refine T.F__read_data.ok sc__read_data (fun vs H Q E h => ?_) (fun cdv A outer s H vs Q E hr h => ?_)
    · obtain ⟨n, _, a, xs, i, r, d, rfl, _⟩ := h
      rfl
    obtain ⟨n, en, a, xs, i, r, d, rfl, ha, ho, hg, hd, hr2, q⟩ := h
    obtain rfl : n = m := by omega
    refine ⟨_, (pss_cons (ps_set (i := 3) sc__read_data.nd rfl (Or.inl rfl) (pe_call (ok__octet_at T) (hr.mono (by first | exact Nat.le_refl _ | (simp only [Nat.add_eq]; omega) | omega | decide)) (by rfl) T.g__octet_at T.F__octet_at.kp T.b__octet_at .nil pass0 (pa_cons (pv 0) (pa_cons (pv 1) pa_nil))))
      (Evl.pss_cut (ps_if (pt_cmpR op_eq (pv 3) (pe_glob (by rfl) T.g_NOTHING Xk.rel_int) (nomark _)) (pss_one (ps_ret (pe_tup (pa_cons (pe_non) (pa_cons (pe_op op_add (pv 1) (pe_int)) pa_nil))))) pss_nil)
      (Evl.pss_cut (ps_if (PW.pt (pw_or (pt_cmpR op_eq (pv 3) (pe_glob (by rfl) T.g_FROM_ZERO Xk.rel_int) (nomark _)) (pw_or1 (pt_cmpR op_eq (pv 3) (pe_glob (by rfl) T.g_BELOW_ZERO Xk.rel_int) (nomark _))))) (pss_one (ps_ret (pe_call (ok__read_integer T) (hr.mono (by first | exact Nat.le_refl _ | (simp only [Nat.add_eq]; omega) | omega | decide)) (by rfl) T.g__read_integer T.F__read_integer.kp T.b__read_integer .nil pass0 (pa_cons (pv 0) (pa_cons (pv 1) pa_nil))))) pss_nil)
      (Evl.pss_cut (ps_if (pt_cmpR op_eq (pv 3) (pe_glob (by rfl) T.g_TEXT Xk.rel_int) (nomark _)) (pss_one (ps_ret (pe_call (ok__read_text T) (hr.mono (by first | exact Nat.le_refl _ | (simp only [Nat.add_eq]; omega) | omega | decide)) (by rfl) T.g__read_text T.F__read_text.kp T.b__read_text .nil pass0 (pa_cons (pv 0) (pa_cons (pe_op op_add (pv 1) (pe_int)) pa_nil))))) pss_nil)
      (Evl.pss_cut (ps_if (pt_cmpR op_eq (pv 3) (pe_glob (by rfl) T.g_TUPLE Xk.rel_int) (nomark _)) (pss_one (ps_ret (pe_call (rt__read_tuple T n ih) (hr.mono (by first | exact Nat.le_refl _ | (simp only [Nat.add_eq]; omega) | omega | decide)) (by rfl) T.g__read_tuple T.F__read_tuple.kp T.b__read_tuple .nil pass0 (pa_cons (pv 0) (pa_cons (pe_op op_add (pv 1) (pe_int)) (pa_cons (pv 2) pa_nil)))))) pss_nil)
      (pss_one Xk.ps_never)))))), ?_⟩
    wtm_at "x0"
    wtm_at "xs"
    cases d with
    | bool b => simp only [Gd] at hg
    | list ds => simp only [Gd] at hg
    | dict ds => simp only [Gd] at hg
    | none =>
      simp only [packD] at ho q
      have hx := ho.head
      refine ⟨a, xs, i, 0, rfl, ha, hx, ?_⟩
      refine Xk.x_cut (fun _ _ => False) ?_ (fun _ _ h => h.elim)
      wtm_at "xs"
      intro p H1 hp1 s1 h1
      wtm_at "xs"
      exact q H1 p .non hp1 s1 h1 Xk.pk_non
    | int k =>
      simp only [packD] at ho q
      simp only [Gd] at hg
      have hx : xs[i]? = some 1 ∨ xs[i]? = some 2 := by
        by_cases c : 0 ≤ k
        · rw [intD_pos c] at ho
          exact .inl ho.head
        · rw [intD_neg c] at ho
          exact .inr ho.head
      rcases hx with hx | hx
      all_goals
        refine ⟨a, xs, i, _, rfl, ha, hx, ?_⟩
        refine fall ?_ ?_
        · wtm_at "xs"
          exact ⟨rfl, rfl⟩
        · refine Xk.x_cut (fun _ _ => False) ?_ (fun _ _ h => h.elim)
          wtm_at "xs"
          refine ⟨a, xs, i, k, rfl, ha, ho, hg.1, hg.2, fun H1 p hp1 s1 h1 => ?_⟩
          wtm_at "xs"
          exact q H1 p _ hp1 s1 h1 Xk.pk_int
    | str z =>
      simp only [packD] at ho q
      simp only [Gd] at hg
      have hx := ho.head
      refine ⟨a, xs, i, _, rfl, ha, hx, ?_⟩
      refine fall ?_ ?_
      · wtm_at "xs"
        exact ⟨rfl, rfl⟩
      refine fall ?_ ?_
      · wtm_at "xs"
        exact ⟨rfl, rfl⟩
      refine Xk.x_cut (fun _ _ => False) ?_ (fun _ _ h => h.elim)
      wtm_at "xs"
      refine ⟨a, xs, i + 1, z, by rfl, ha, ho.tail, hg.1, hg.2, fun H1 p hp1 s1 h1 => ?_⟩
      wtm_at "xs"
      refine q H1 p _ hp1 s1 ?_ (Xk.pk_str (Xk.lay_str (okC_tx hg.2)))
      rw [h1, List.length_cons, show i + 1 + (sevens z.length ++ codes z).length = i + ((sevens z.length ++ codes z).length + 1) by omega]
      rfl
    | tuple ds =>
      simp only [packD] at ho q
      simp only [Gd] at hg
      have h4 : PyData.depthAll ds + 1 ≤ n := hd
      have h5 : ((PyData.depthAll ds + 1 : Nat) : Int) ≤ r := hr2
      obtain ⟨n2, rfl⟩ : ∃ n2, n = n2 + 1 := ⟨n - 1, by omega⟩
      have hx := ho.head
      refine ⟨a, xs, i, _, rfl, ha, hx, ?_⟩
      refine fall ?_ ?_
      · wtm_at "xs"
        exact ⟨rfl, rfl⟩
      refine fall ?_ ?_
      · wtm_at "xs"
        exact ⟨rfl, rfl⟩
      refine fall ?_ ?_
      · wtm_at "xs"
        exact ⟨rfl, rfl⟩
      refine Xk.x_cut (fun _ _ => False) ?_ (fun _ _ h => h.elim)
      wtm_at "xs"
      refine ⟨n2, rfl, a, xs, i + 1, r, ds, by rfl, ha, ho.tail, hg.1, hg.2, by omega, by omega, fun H1 p v hp1 s1 h1 hv => ?_⟩
      wtm_at "xs"
      refine q H1 p v hp1 s1 ?_ hv
      rw [h1, List.length_cons, show i + 1 + (sevens ds.length ++ packAll ds).length = i + ((sevens ds.length ++ packAll ds).length + 1) by omega]
theorem ok__read_data (T : Txt K mg) : FnOk P w K mg base CX0 87 T.f__read_data T.d__read_data ["octets", "at", "room"] (sp__read_data K 42) := okr__read_data T 42
--CUT--
def sp__read_whole (K : PySem.W.Frag) : Sp := fun vs H Q _ => ∃ (a : Addr) (r : Int) (d : PyData), vs = [.ref a, .int r] ∧ SqL K H a ((packD d).map V.int) ∧ Gd d ∧ d.depth ≤ 41 ∧ (d.depth : Int) ≤ r ∧ ∀ H' v, Same H H' → Xk.Pk K H' 41 v d → Q v H'
theorem ok__read_whole (T : Txt K mg) : FnOk P w K mg base CX0 88 T.f__read_whole T.d__read_whole ["octets", "room"] (sp__read_whole K) := by
  refine T.F__read_whole.ok sc__read_whole (fun vs H Q E h => ?_) (fun cdv A outer s H vs Q E hr h => ?_)
  · obtain ⟨a, r, d, rfl, _⟩ := h
    rfl
  obtain ⟨a, r, d, rfl, ha, hg, hd, hr2, q⟩ := h
  refine ⟨_, (pss_cons (ps_asg (pe_call (ok__read_data T) (hr.mono (by decide)) (by rfl) T.g__read_data T.F__read_data.kp T.b__read_data .nil pass0 (pa_cons (pv 0) (pa_cons (pe_int) (pa_cons (pv 1) pa_nil)))) (pg_tup rfl (pgs_cons (pg_name (i := 2) sc__read_whole.nd rfl (Or.inl rfl)) (pgs_cons (pg_name (i := 3) sc__read_whole.nd rfl (Or.inl rfl)) pgs_nil))))
      (Evl.pss_cut (ps_if (pt_cmpR op_lt (pv 3) (pe_callB (Xk.k_len (K := K) (by rfl)) (by rfl) T.m_len PySem.boot_len (pa_cons (pv 0) pa_nil)) (nomark _)) (pss_one Xk.ps_never) pss_nil)
      (pss_one (ps_ret (pv 2))))), ?_⟩
  wtm_at "x0"
  wtm_at "xs"
  refine ⟨41, rfl, a, packD d, 0, r, d, rfl, ha, ⟨[], by rw [List.drop_zero, List.append_nil]⟩, hg, hd, hr2, fun H1 p v hp1 s1 e1 hv => ?_⟩
  have hl : ((0 + (packD d).length : Nat) : Int) = (((packD d).map V.int).length : Int) := by rw [List.length_map]; omega
  wtm_at "xs"
  refine fall ?_ ?_
  · wtm_at "xs"
    exact ⟨rfl, rfl⟩
  wtm_at "xs"
  exact q H1 v s1 hv
def sp__has_great_integer (K : PySem.W.Frag) (m : Nat) : Sp := fun vs H Q _ => ∃ n, m = n + 1 ∧ ∃ (v : V) (d : PyData), vs = [v] ∧ Xk.Pk K H n v d ∧ Gd d ∧ ∀ H', Same H H' → Q (.bl false) H'
theorem okr__has_great_integer (T : Txt K mg) : ∀ m : Nat, FnOk P w K mg base CX0 (2 + m) T.f__has_great_integer T.d__has_great_integer ["data"] (sp__has_great_integer K m)
  | 0 => by
    have no : ∀ vs H Q E, ¬ sp__has_great_integer K 0 vs H Q E := fun vs H Q E h => by
      obtain ⟨n, e, _⟩ := h
      cases e
    exact ⟨fun vs H Q E h => absurd h (no vs H Q E), fun A outer s H args us vs Q E _ _ _ _ h => absurd h (no vs H Q E)⟩
  | m + 1 => by
    have ih := okr__has_great_integer T m
    refine T.F__has_great_integer.ok sc__has_great_integer (fun vs H Q E h => ?_) (fun cdv A outer s H vs Q E hr h => ?_)
    · obtain ⟨n, _, v, d, rfl, _⟩ := h
      rfl
    obtain ⟨n, en, v, d, rfl, hv, hg, q⟩ := h
    obtain rfl : n = m := by omega
    refine ⟨_, (Evl.pss_cut (ps_if (pt_val (pe_callB (Xk.k_isi (K := K) (by rfl)) (by rfl) T.m_isinstance (by decide +kernel) (pa_cons (pv 0) (pa_cons (pe_bltn (v := .ty "tuple") (u := .type "tuple") (by rfl) T.m_tuple (by decide +kernel) Xk.rel_ty) pa_nil)))) (pss_one (ps_ret (pe_callB (Xk.k_any (K := K) rfl (by rfl)) (by rfl) T.m_any (by decide +kernel) (pa_cons (pe_lc (own := [("item", 1)]) (g := gName 1) (tt := tYes) rfl sc__has_great_integer.nd  (pi_tup (pv 0)) (blkOk_by (N := N__has_great_integer) (sc := defScope s__has_great_integer) (own := [("item", 1)]) (by decide +kernel)) (fun _ _ _ _ _ => pg_name (i := 1) sc__has_great_integer.nd rfl (Or.inl rfl)) (fun _ _ _ _ _ => pts_nil) (fun _ _ _ _ _ => (pe_call ih (hr.mono (by first | exact Nat.le_refl _ | (simp only [Nat.add_eq]; omega) | omega | decide)) (by rfl) T.g__has_great_integer T.F__has_great_integer.kp T.b__has_great_integer .nil pass0 (pa_cons (pv 1) pa_nil)))) pa_nil)))) pss_nil)
      (pss_one (ps_ret ((pe_and (pe_callB (Xk.k_isi (K := K) (by rfl)) (by rfl) T.m_isinstance (by decide +kernel) (pa_cons (pv 0) (pa_cons (pe_bltn (v := .ty "int") (u := .type "int") (by rfl) T.m_int (by decide +kernel) Xk.rel_ty) pa_nil))) (pe_one (pe_not (pe_chain op_le op_le (pe_un un_neg (pe_glob (by rfl) T.g_MOST_INTEGER Xk.rel_int)) (pv 0) (pe_glob (by rfl) T.g_MOST_INTEGER Xk.rel_int))))))))), ?_⟩
    obtain ⟨h1, h2, h3⟩ := hv
    wtm_at "x0"
    cases d with
    | bool b => simp only [Gd] at hg
    | list ds => simp only [Gd] at hg
    | dict ds => simp only [Gd] at hg
    | none =>
      cases h1
      refine fall ?_ ?_
      · wtm_at "xs"
        exact ⟨rfl, rfl⟩
      wtm_at "xs"
      exact q _ (Same.refl _)
    | int i =>
      cases h1
      simp only [Gd] at hg
      refine fall ?_ ?_
      · wtm_at "xs"
        exact ⟨rfl, rfl⟩
      wtm_at "xs"
      rw [decide_eq_true hg.2]
      exact q _ (Same.refl _)
    | str z =>
      cases h1
      refine fall ?_ ?_
      · wtm_at "xs"
        exact ⟨rfl, rfl⟩
      wtm_at "xs"
      exact q _ (Same.refl _)
    | tuple ds =>
      cases h1 with
      | @tup p vs _ hs hd =>
        simp only [Gd] at hg
        refine Xk.x_cut (fun _ _ => False) ?_ (fun _ _ h => h.elim)
        wtm_at "xs"
        refine Xk.x_isi (tyx_st hs) (Xk.kit_T (by decide +kernel)) ?_
        wtm_at "xs"
        obtain ⟨n2, rfl⟩ : ∃ n2, n = n2 + 1 := ⟨n - 1, by have h4 : PyData.depthAll ds + 1 ≤ n := h3; omega⟩
        have hpk : Xk.PkAll K H n2 vs ds := ⟨hd, h2, by have h4 : PyData.depthAll ds + 1 ≤ n2 + 1 := h3; omega⟩
        refine Xk.x_lcT (fun Dl i H' => Same H H' ∧ H' Dl = some (.lst ((List.replicate i false).map V.bl))) hs ?_ ?_ ?_ ?_
        · intro Dl hD
          exact ⟨Xk.same_fr hD, upd_same⟩
        · rintro Dl i H' hD ⟨s3, h3⟩
          exact Xk.st_same hs s3
        · rintro Dl hD j x H' hi ⟨s3, h3⟩
          obtain ⟨d, hd1, hd2⟩ := hpk.at hi
          have hj := Xk.at_lt hd1
          wtm_at "xs"
          refine ⟨rfl, ?_⟩
          wtm_at "xs"
          refine ⟨n2, rfl, x, d, rfl, hd2.same s3, gdAll_at hg.2 hd1, fun H4 s4 => ?_⟩
          wtm_at "xs"
          exact ⟨_, s4 _ _ h3, Xk.size_lt (by simp only [List.length_map, List.length_replicate]; omega), Xk.same_mut (s3.trans s4) hD, by rw [upd_same, List.replicate_succ', List.map_append]; rfl⟩
        · rintro Dl H' hD ⟨s3, h3⟩
          wtm_at "xs"
          refine Xk.x_any (bs := List.replicate vs.length false) (Xk.sq_of h3) ?_
          rw [show (List.replicate vs.length false).any id = false by simp]
          wtm_at "xs"
          exact q _ s3
theorem ok__has_great_integer (T : Txt K mg) : FnOk P w K mg base CX0 44 T.f__has_great_integer T.d__has_great_integer ["data"] (sp__has_great_integer K 42) := okr__has_great_integer T 42
def sp_unpack (K : PySem.W.Frag) : Sp := fun vs H Q _ => ∃ (a : Addr) (d : PyData), vs = [.ref a] ∧ SqL K H a ((packD d).map V.int) ∧ Gd d ∧ d.depth ≤ 40 ∧ ∀ H' v, Same H H' → Xk.Pk K H' 41 v d → Q v H'
theorem ok_unpack (T : Txt K mg) : FnOk P w K mg base CX0 89 T.f_unpack T.d_unpack ["octets"] (sp_unpack K) := by
  refine T.F_unpack.ok sc_unpack (fun vs H Q E h => ?_) (fun cdv A outer s H vs Q E hr h => ?_)
  · obtain ⟨a, d, rfl, _⟩ := h
    rfl
  obtain ⟨a, d, rfl, ha, hg, hd, q⟩ := h
  refine ⟨_, (pss_cons (ps_set (i := 1) sc_unpack.nd rfl (Or.inl rfl) (pe_call (ok__read_whole T) (hr.mono (by decide)) (by rfl) T.g__read_whole T.F__read_whole.kp T.b__read_whole .nil pass0 (pa_cons (pv 0) (pa_cons (pe_glob (by rfl) T.g_MOST_DEPTH Xk.rel_int) pa_nil))))
      (Evl.pss_cut (ps_if (pt_val (pe_call (ok__has_great_integer T) (hr.mono (by decide)) (by rfl) T.g__has_great_integer T.F__has_great_integer.kp T.b__has_great_integer .nil pass0 (pa_cons (pv 1) pa_nil))) (pss_one Xk.ps_never) pss_nil)
      (pss_one (ps_ret (pv 1))))), ?_⟩
  wtm_at "x0"
  wtm_at "xs"
  refine ⟨a, 40, d, rfl, ha, hg, by omega, by omega, fun H1 v s1 hv => ?_⟩
  wtm_at "xs"
  refine Xk.x_cut (fun σ2 H2 => Same H1 H2 ∧ σ2 = [some (.ref a), some v]) ?_ ?_
  · wtm_at "xs"
    refine ⟨41, rfl, v, d, rfl, hv, hg, fun H2 s2 => ?_⟩
    wtm_at "xs"
    exact ⟨s2, rfl⟩
  rintro σ2 H2 ⟨s2, rfl⟩
  wtm_at "xs"
  exact q H2 v (s1.trans s2) (hv.same s2)
--CUT--
abbrev Bl := Int × Int
inductive En where
  | bat (cs : List PyData)
  | mem (ms : List Int)
inductive Up where
  | pro (s : Int) (b : Bl)
  | acc (s : Int) (b : Bl) (e : En)
  | cho (s : Int) (e : En)
structure Att where
  bal : Bl
  ent : En
  mbs : List Int
  stg : Str
  pby : List Int
  vby : List Int
  bnd : Option (Bl × En)
structure Nd where
  ix : Int
  sz : Int
  fst : List Int
  lzy : Bool
  sta : Str
  row : List En
  prm : Bl
  acc : Option (Bl × En)
  frm : List Up
  saf : Nat
  tld : Nat
  los : List PyData
  unt : List (Int × PyData)
  wai : List PyData
  wan : Option (List Int)
  att : Option Att
  pat : Int
  gst : Bool
  see : Int
  lin : List PyData
  out : List PyData
  ltr : List PyData
def dI (ns : List Int) : PyData := .tuple (ns.map PyData.int)
def dB (b : Bl) : PyData := .tuple [.int b.1, .int b.2]
def dE : En → PyData
  | .bat cs => .tuple [.str "batch", .tuple cs]
  | .mem ms => .tuple [.str "members", dI ms]
def dA : Option (Bl × En) → PyData
  | none => .none
  | some p => .tuple [dB p.1, dE p.2]
def dU : Up → PyData
  | .pro s b => .tuple [.str "promise", .int s, dB b]
  | .acc s b e => .tuple [.str "accept", .int s, dB b, dE e]
  | .cho s e => .tuple [.str "chosen", .int s, dE e]
def dW : Option (List Int) → PyData
  | none => .none
  | some ms => dI ms
def voteD : Up → Option PyData
  | .acc s b e => some (.tuple [.int s, dB b, dE e])
  | _ => none
def dV (p : Int × PyData) : PyData := .tuple [.int p.1, p.2]
/-- the members behind a row -/
def memOf (f : List Int) : List En → List Int
  | [] => f
  | .mem ms :: r => memOf ms r
  | .bat _ :: r => memOf f r
def mbs (n : Nd) : List Int := memOf n.fst n.row
def pl (u : Up) : List Int := packD (dU u)
def sumz (us : List Up) : Int := (us.map fun u => 6 + ((pl u).length : Int)).sum
def szs (us : List Up) : List Int := (List.range (us.length + 1)).map fun i => sumz (us.take i)
theorem sumz_snoc (us : List Up) (u : Up) : sumz (us ++ [u]) = sumz us + 6 + ((pl u).length : Int) := by
  unfold sumz
  rw [List.map_append, List.sum_append]
  simp only [List.map_cons, List.map_nil, List.sum_cons, List.sum_nil]
  omega
theorem szs_snoc (us : List Up) (u : Up) : szs (us ++ [u]) = szs us ++ [sumz us + 6 + ((pl u).length : Int)] := by
  unfold szs
  rw [List.length_append, List.length_singleton, List.range_succ, List.map_append]
  congr 1
  · refine List.map_congr_left fun i hi => ?_
    rw [List.take_append_of_le_length (by have := List.mem_range.mp hi; omega)]
  · rw [List.map_singleton, ← sumz_snoc]
    congr 2
    rw [← List.length_singleton (a := u), ← List.length_append, List.take_length]
theorem szs_last (us : List Up) : ∃ ys, szs us = ys ++ [sumz us] := by
  refine ⟨(List.range us.length).map fun i => sumz (us.take i), ?_⟩
  unfold szs
  rw [List.range_succ, List.map_append, List.map_singleton, List.take_length]
theorem memOf_snoc (e : En) : ∀ (r : List En) (f : List Int), memOf f (r ++ [e]) = match e with | .mem ms => ms | .bat _ => memOf f r
  | [], f => by cases e <;> rfl
  | .mem ms :: r, f => memOf_snoc e r ms
  | .bat cs :: r, f => memOf_snoc e r f

/-! what a step does -/
def doU (n : Nd) : Up → Nd
  | .pro _ b => { n with prm := b }
  | .acc _ b e => { n with prm := b, acc := some (b, e) }
  | .cho _ e => { n with row := n.row ++ [e], prm := (0, 0), acc := none }
def note (n : Nd) (u : Up) : Nd := { doU n u with frm := n.frm ++ [u] }
def dM (i : Int) (b : PyData) : PyData := .tuple [.int i, b]
def alls (n : Nd) : List Int := (List.range n.sz.toNat).map fun i => ((i : Nat) : Int)
def oths (n : Nd) : List Int := (alls n).filter fun i => decide (i ≠ n.ix)
def post (n : Nd) (rs : List Int) (b : PyData) : Nd := { n with out := n.out ++ rs.map fun i => dM i b }
def lpat (n : Nd) : Int := 6 + 2 * n.ix
def slot (n : Nd) : Int := n.row.length + 1
def top (n : Nd) : Int := max n.see n.prm.1
def entry (n : Nd) : En := match n.wan with
  | none => .bat (n.wai.take 8)
  | some ms => .mem ms
def begun (n : Nd) : Nd :=
  let b : Bl := (top n + 1, n.ix)
  let n1 := note n (.pro (slot n) b)
  let n2 : Nd := { n1 with att := some ⟨b, entry n, mbs n, "asking", [], [], none⟩, gst := false, pat := lpat n }
  post n2 (alls n) (.tuple [.str "ask", .int (slot n), dB b])
def begin_ (n : Nd) : Nd := if top n ≥ 9999 then n else begun n
def free (n : Nd) : Nd := if n.att.isNone && !n.gst then begin_ n else n
def endS (n : Nd) : Nd := if n.lzy then n else { n with saf := n.frm.length }
def wish (n : Nd) : Bool := decide (n.wai.length > 0) || n.wan.isSome
def refu (n : Nd) (c : PyData) : Bool := Xk.inD c n.lin || Xk.inD c n.wai || decide (n.wai.length ≥ 16)
def offerL (n : Nd) (c : PyData) : Nd := if refu n c then n else free { n with wai := n.wai ++ [c] }
def refuM (n : Nd) (ms : List Int) : Bool := n.wan.isSome || decide (ms = mbs n)
def offerM (n : Nd) (ms : List Int) : Nd := if refuM n ms then n else free { n with wan := some ms }
def tickL (n : Nd) : Nd :=
  let n1 : Nd := { n with pat := n.pat - 1 }
  if n1.pat = 0 then
    let n2 : Nd := { n1 with gst := false }
    if wish n2 && decide (top n2 < 9999) then begun n2 else post { n2 with pat := lpat n } (oths n) (.tuple [.str "fetch", .int n.row.length])
  else n1
--CUT--
/-! places -/
structure Cs where
  n : Addr
  j : Addr
  r : Addr
  a : Addr
  t : Addr
  d : Addr
  mf : Addr
abbrev csOf (T : Txt K mg) : Cs := ⟨T.C_Node, T.C_Journal, T.C_Record, T.C_Acceptor, T.C_Attempt, T.C_Diary, T.f__law_make⟩
structure Nc where
  dx : Addr
  dj : Addr
  dr : Addr
  da : Addr
  dm : Addr
  j : Addr
  jp : Addr
  js : Addr
  r : Addr
  rw : Addr
  ac : Addr
  un : Addr
  wt : Addr
  ma : Addr
  ln : Addr
  sd : Addr
  lt : Addr
  ps : List Addr
  rv : List V
  uv : List V
  wv : List V
  lv : List V
  sv : List V
  tv : List V
  pv : V
  av : V
  wn : V
  fm : V
  t : Addr
  dt : Addr
  tp : Addr
  tq : Addr
  tb : V
  te : V
  tm : V
  tz : V
def atV (c : Nc) : Option Att → V
  | none => .non
  | some _ => .ref c.t
def ndF (C : Cs) (c : Nc) (n : Nd) : List (Str × V) := [("index", .int n.ix), ("size", .int n.sz), ("first_members", c.fm), ("lazy", .bl n.lzy), ("state", .str n.sta), ("journal", .ref c.j), ("record", .ref c.r), ("_make_machine", .ref C.mf), ("_untold", .ref c.un), ("waiting", .ref c.wt), ("wanted", c.wn), ("attempt", atV c n.att), ("patience", .int n.pat), ("guest", .bl n.gst), ("seen", .int n.see), ("machine", .ref c.ma), ("_sends", .ref c.sd), ("_letters", .ref c.lt)]
def jF (c : Nc) (n : Nd) : List (Str × V) := [("_payloads", .ref c.jp), ("_sizes", .ref c.js), ("_synced", .int n.saf)]
def rF (c : Nc) : List (Str × V) := [("row", .ref c.rw), ("acceptor", .ref c.ac)]
def aF (c : Nc) : List (Str × V) := [("promised", c.pv), ("accepted", c.av)]
def dF (c : Nc) : List (Str × V) := [("lines", .ref c.ln)]
def tF (c : Nc) (A : Att) : List (Str × V) := [("ballot", c.tb), ("entry", c.te), ("members", c.tm), ("stage", .str A.stg), ("promised_by", .ref c.tp), ("voted_by", .ref c.tq), ("bound", c.tz)]
def atC (C : Cs) (c : Nc) : Option Att → List Xk.Cell
  | none => []
  | some A => [(c.t, .ins C.t c.dt (tF c A), 15), (c.tp, .lst (A.pby.map V.int), 16), (c.tq, .lst (A.vby.map V.int), 17)]
def ndB (C : Cs) (a : Addr) (c : Nc) (n : Nd) : List Xk.Cell := [(a, .ins C.n c.dx (ndF C c n), 1), (c.j, .ins C.j c.dj (jF c n), 2), (c.jp, .lst (c.ps.map V.ref), 3), (c.js, .lst ((szs n.frm).map V.int), 4), (c.r, .ins C.r c.dr (rF c), 5), (c.rw, .lst c.rv, 6), (c.ac, .ins C.a c.da (aF c), 7),
  (c.un, .lst c.uv, 8), (c.wt, .lst c.wv, 9), (c.ma, .ins C.d c.dm (dF c), 10), (c.ln, .lst c.lv, 11), (c.sd, .lst c.sv, 12), (c.lt, .lst c.tv, 13)]
def ndC (C : Cs) (a : Addr) (c : Nc) (n : Nd) : List Xk.Cell := ndB C a c n ++ atC C c n.att
/-- the payloads, each a list of its own -/
structure Pay (z : Nat) (tg : Xk.TgF) (H : Hp) (ps : List Addr) (us : List Up) : Prop where
  len : ps.length = us.length
  at_ : ∀ (i : Nat) (p : Addr) (u : Up), ps[i]? = some p → us[i]? = some u → H p = some (.lst ((pl u).map V.int)) ∧ Xk.Tg tg p z 14
/-- what the places tell -/
structure Vl (K : PySem.W.Frag) (H : Hp) (c : Nc) (n : Nd) : Prop where
  row : Xk.PkAll K H 38 c.rv (n.row.map dE)
  prm : Xk.Pk K H 1 c.pv (dB n.prm)
  acc : Xk.Pk K H 39 c.av (dA n.acc)
  unt : Xk.PkAll K H 41 c.uv (n.unt.map dV)
  wai : Xk.PkAll K H 36 c.wv n.wai
  wan : Xk.Pk K H 1 c.wn (dW n.wan)
  lin : Xk.PkAll K H 36 c.lv n.lin
  out : Xk.PkAll K H 42 c.sv n.out
  ltr : Xk.PkAll K H 42 c.tv n.ltr
  fst : Xk.Pk K H 1 c.fm (dI n.fst)
  att : ∀ A, n.att = some A → Xk.Pk K H 1 c.tb (dB A.bal) ∧ Xk.Pk K H 38 c.te (dE A.ent) ∧ Xk.Pk K H 1 c.tm (dI A.mbs) ∧ Xk.Pk K H 39 c.tz (dA A.bnd)
theorem Vl.st {H H' : Hp} {c : Nc} {n : Nd} (h : Vl K H c n) (e : Xk.St K H H') : Vl K H' c n :=
  ⟨h.row.st e, h.prm.st e, h.acc.st e, h.unt.st e, h.wai.st e, h.wan.st e, h.lin.st e, h.out.st e, h.ltr.st e, h.fst.st e, fun A q => ⟨(h.att A q).1.st e, (h.att A q).2.1.st e, (h.att A q).2.2.1.st e, (h.att A q).2.2.2.st e⟩⟩
structure NdAt (K : PySem.W.Frag) (C : Cs) (z : Nat) (tg : Xk.TgF) (H : Hp) (a : Addr) (c : Nc) (n : Nd) : Prop where
  lay : Xk.Lay z tg H (ndC C a c n)
  pay : Pay z tg H c.ps n.frm
  vl : Vl K H c n
theorem Pay.mv {z y : Nat} {tg tg' : Xk.TgF} {H H' : Hp} {ps : List Addr} {us : List Up} (h : Pay z tg H ps us) (m : Xk.Mv y K tg tg' H H') (n : z ≠ y) : Pay z tg' H' ps us := ⟨h.len, fun i p u e1 e2 => m.at_ n (h.at_ i p u e1 e2).2 (h.at_ i p u e1 e2).1⟩
theorem Pay.same {z : Nat} {tg : Xk.TgF} {H H' : Hp} {ps : List Addr} {us : List Up} (h : Pay z tg H ps us) (s : Same H H') : Pay z tg H' ps us := ⟨h.len, fun i p u e1 e2 => ⟨s _ _ (h.at_ i p u e1 e2).1, (h.at_ i p u e1 e2).2⟩⟩
theorem Pay.at_lt {z : Nat} {tg : Xk.TgF} {H : Hp} {ps : List Addr} {us : List Up} (h : Pay z tg H ps us) {i : Nat} {p : Addr} (e : ps[i]? = some p) : ∃ u, us[i]? = some u ∧ H p = some (.lst ((pl u).map V.int)) ∧ Xk.Tg tg p z 14 := by
  obtain ⟨u, hu⟩ := Xk.lt_at (xs := us) (j := i) (by rw [← h.len]; exact Xk.at_lt e)
  exact ⟨u, hu, h.at_ i p u e hu⟩
/-- a place of another role is written -/
theorem Pay.upd {z t : Nat} {tg : Xk.TgF} {H : Hp} {ps : List Addr} {us : List Up} {a : Addr} {o : HO} (h : Pay z tg H ps us) (ha : Xk.Tg tg a z t) (n : t ≠ 14) : Pay z tg (upd H a o) ps us := ⟨h.len, fun i p u e1 e2 => by
  have q := h.at_ i p u e1 e2
  exact ⟨(upd_ne (Xk.tg_ne q.2 ha (Ne.symm n))).trans q.1, q.2⟩⟩
theorem Pay.tag {z t : Nat} {tg : Xk.TgF} {H : Hp} {ps : List Addr} {us : List Up} {p : Addr} (h : Pay z tg H ps us) (f : Xk.Fr p H) : Pay z (Xk.tgU tg p z t) H ps us := ⟨h.len, fun i q u e1 e2 => by
  have x := h.at_ i q u e1 e2
  exact ⟨x.1, Xk.tgU_ne (Xk.ne_new f x.1) x.2⟩⟩
theorem NdAt.mv {C : Cs} {z y : Nat} {tg tg' : Xk.TgF} {H H' : Hp} {a : Addr} {c : Nc} {n : Nd} (h : NdAt K C z tg H a c n) (m : Xk.Mv y K tg tg' H H') (ne : z ≠ y) : NdAt K C z tg' H' a c n := ⟨h.lay.mv m ne, h.pay.mv m ne, h.vl.st m.st⟩
theorem NdAt.same {C : Cs} {z : Nat} {tg : Xk.TgF} {H H' : Hp} {a : Addr} {c : Nc} {n : Nd} (h : NdAt K C z tg H a c n) (s : Same H H') : NdAt K C z tg H' a c n := ⟨h.lay.same s, h.pay.same s, h.vl.st (Xk.tt_same s)⟩
/-- the cell at i is written: same places -/
theorem NdAt.put {C : Cs} {z i t : Nat} {tg : Xk.TgF} {H : Hp} {a x : Addr} {c c' : Nc} {n n' : Nd} {o o' : HO} (h : NdAt K C z tg H a c n) (e : (ndC C a c n)[i]? = some (x, o, t)) (k : Xk.mutO o = true) (nt : t ≠ 14)
    (l : (ndC C a c n).set i (x, o', t) = ndC C a c' n') (p : c'.ps = c.ps ∧ n'.frm = n.frm) (v : Vl K (upd H x o') c n → Vl K (upd H x o') c' n') : NdAt K C z tg (upd H x o') a c' n' ∧ Xk.Mv z K tg tg H (upd H x o') := by
  have g := h.lay.get e
  have m : Xk.Mv z K tg tg H (upd H x o') := Xk.Mv.upd g.2 g.1 k
  refine ⟨⟨(h.lay.upd e).eq l, ?_, v (h.vl.st m.st)⟩, m⟩
  rw [p.1, p.2]
  exact h.pay.upd g.2 nt
def NdA (K : PySem.W.Frag) (C : Cs) (z : Nat) (tg : Xk.TgF) (H : Hp) (a : Addr) (n : Nd) : Prop := ∃ c, NdAt K C z tg H a c n
/-- bounds -/
structure Wf (n : Nd) : Prop where
  row : n.row.length ≤ 8000
  frm : n.frm.length ≤ 8000
  out : n.out.length ≤ 80000
  ltr : n.ltr.length ≤ 8000
  lin : n.lin.length ≤ 8000
  unt : n.unt.length ≤ 8000
  wai : n.wai.length ≤ 16
  sz : 0 ≤ n.sz ∧ n.sz ≤ 100
  ix : 0 ≤ n.ix ∧ n.ix ≤ 100
  see : 0 ≤ n.see ∧ n.see ≤ 100000
  prm : 0 ≤ n.prm.1 ∧ n.prm.1 ≤ 100000 ∧ 0 ≤ n.prm.2 ∧ n.prm.2 ≤ 100
theorem Pay.of {z : Nat} {tg tg' : Xk.TgF} {H H' : Hp} {ps : List Addr} {us : List Up} (h : Pay z tg H ps us) (k : ∀ p o, Xk.Tg tg p z 14 → H p = some o → H' p = some o ∧ Xk.Tg tg' p z 14) : Pay z tg' H' ps us := ⟨h.len, fun i p u e1 e2 => k p _ (h.at_ i p u e1 e2).2 (h.at_ i p u e1 e2).1⟩
theorem x_mid {te : TE} {σ : L2.St} {H : Hp} {Q : VK} (M : V → Hp → Prop) (h : ∀ Q' : VK, (∀ v H', M v H' → Q' v H') → te σ H Q') (k : ∀ v H', M v H' → Q v H') : te σ H Q := h Q k
theorem Wf.begun1 {n : Nd} {s : Int} {b : Bl} (w : Wf n) (hf : n.frm.length ≤ 7999) (hb : 0 ≤ b.1 ∧ b.1 ≤ 100000 ∧ 0 ≤ b.2 ∧ b.2 ≤ 100) (A : Option Att) (g : Bool) (p : Int) : Wf { note n (.pro s b) with att := A, gst := g, pat := p } :=
  ⟨w.row, by show (n.frm ++ [_]).length ≤ 8000; rw [List.length_append]; show n.frm.length + 1 ≤ 8000; omega, w.out, w.ltr, w.lin, w.unt, w.wai, w.sz, w.ix, w.see, hb⟩
--CUT--
theorem pk_low {H : Hp} {n m : Nat} {v : V} {d : PyData} (h : Xk.Pk K H n v d) (l : d.depth ≤ m) : Xk.Pk K H m v d := ⟨h.1, h.2.1, l⟩
theorem dep_I (ns : List Int) : (dI ns).depth ≤ 1 := by
  unfold dI
  show PyData.depthAll (ns.map PyData.int) + 1 ≤ 1
  have := Xk.depth_ints ns
  unfold Xk.dInts at this
  omega
theorem dep_B (b : Bl) : (dB b).depth ≤ 1 := Nat.le_refl 1
theorem pk_tupD {H : Hp} {n : Nat} {v : V} {ds : List PyData} (h : Xk.Pk K H n v (.tuple ds)) : ∃ a vs, v = .ref a ∧ SqT K H a vs ∧ Xk.PkAll K H (n - 1) vs ds := by
  obtain ⟨h1, h2, h3⟩ := h
  cases h1 with
  | @tup p vs _ hs hd => exact ⟨p, vs, rfl, hs, hd, h2, by have h4 : PyData.depthAll ds + 1 ≤ n := h3; omega⟩
theorem pk_one {H : Hp} {n : Nat} {vs : List V} {d : PyData} (h : Xk.PkAll K H n vs [d]) : ∃ v, vs = [v] ∧ Xk.Pk K H n v d := by
  cases vs with
  | nil => have := h.len; cases this
  | cons v r =>
    obtain ⟨d', es, e, h1, h2⟩ := h.uncons
    cases e
    cases r with
    | nil => exact ⟨v, rfl, h1⟩
    | cons w r => have := h2.len; cases this
theorem pk_more {H : Hp} {n : Nat} {vs : List V} {d : PyData} {ds : List PyData} (h : Xk.PkAll K H n vs (d :: ds)) : ∃ v ws, vs = v :: ws ∧ Xk.Pk K H n v d ∧ Xk.PkAll K H n ws ds := by
  cases vs with
  | nil => have := h.len; cases this
  | cons v r =>
    obtain ⟨d', es, e, h1, h2⟩ := h.uncons
    cases e
    exact ⟨v, r, rfl, h1, h2⟩
theorem pk_strD {H : Hp} {n : Nat} {v : V} {x : Str} (h : Xk.Pk K H n v (.str x)) : v = .str x := by
  obtain ⟨h1, _⟩ := h
  cases h1
  rfl
theorem pk_intD {H : Hp} {n : Nat} {v : V} {x : Int} (h : Xk.Pk K H n v (.int x)) : v = .int x := by
  obtain ⟨h1, _⟩ := h
  cases h1
  rfl
theorem pk_nonD {H : Hp} {n : Nat} {v : V} (h : Xk.Pk K H n v .none) : v = .non := by
  obtain ⟨h1, _⟩ := h
  cases h1
  rfl
theorem pk_pair {H : Hp} {n : Nat} {v : V} {d e : PyData} (h : Xk.Pk K H n v (.tuple [d, e])) : ∃ a x y, v = .ref a ∧ SqT K H a [x, y] ∧ Xk.Pk K H (n - 1) x d ∧ Xk.Pk K H (n - 1) y e := by
  obtain ⟨a, vs, rfl, hs, hp⟩ := pk_tupD h
  obtain ⟨x, ws, rfl, h1, h2⟩ := pk_more hp
  obtain ⟨y, rfl, h3⟩ := pk_one h2
  exact ⟨a, x, y, rfl, hs, h1, h3⟩
theorem pk_B {H : Hp} {n : Nat} {v : V} {b : Bl} (h : Xk.Pk K H n v (dB b)) : ∃ a, v = .ref a ∧ SqT K H a [.int b.1, .int b.2] := by
  obtain ⟨a, x, y, rfl, hs, h1, h2⟩ := pk_pair h
  rw [pk_intD h1, pk_intD h2] at hs
  exact ⟨a, rfl, hs⟩
theorem pk_ofB {H : Hp} {a : Addr} {b : Bl} (h : SqT K H a [.int b.1, .int b.2]) : Xk.Pk K H 1 (.ref a) (dB b) := Xk.pk_tup2 h Xk.pk_int Xk.pk_int
theorem pk_I {H : Hp} {n : Nat} {v : V} {ns : List Int} (h : Xk.Pk K H n v (dI ns)) : ∃ a, v = .ref a ∧ SqT K H a (ns.map V.int) := by
  obtain ⟨a, vs, rfl, hs, hp⟩ := pk_tupD h
  refine ⟨a, rfl, ?_⟩
  suffices vs = ns.map V.int by rw [← this]; exact hs
  clear h hs
  generalize n - 1 = m at hp
  induction ns generalizing vs with
  | nil => have := hp.len; exact List.eq_nil_of_length_eq_zero this
  | cons i r ih =>
    obtain ⟨x, ws, rfl, h1, h2⟩ := pk_more hp
    rw [List.map_cons, pk_intD h1, ih _ h2]
theorem pk_ofI {H : Hp} {a : Addr} {ns : List Int} (h : SqT K H a (ns.map V.int)) : Xk.Pk K H 1 (.ref a) (dI ns) := Xk.pk_tup h (Xk.pk_ints ns)

def sp_Journal___init__ (K : PySem.W.Frag) (C : Cs) : Sp := fun vs H Q _ => ∃ x dx, vs = [.ref x] ∧ H x = some (.ins C.j dx []) ∧ ∀ H' jp js, Xk.But x H H' → Xk.Fr jp H → Xk.Fr js H → jp ≠ js → H' x = some (.ins C.j dx [("_payloads", .ref jp), ("_sizes", .ref js), ("_synced", .int 0)]) → H' jp = some (.lst []) → H' js = some (.lst [.int 0]) → Q .non H'
theorem ok_Journal___init__ (T : Txt K mg) : FnOk P w K mg base CX0 1 T.f_Journal___init__ T.d_Journal___init__ ["self"] (sp_Journal___init__ K (csOf T)) := by
  refine T.F_Journal___init__.ok sc_Journal___init__ (fun vs H Q E h => ?_) (fun cdv A outer s H vs Q E hr h => ?_)
  · obtain ⟨x, dx, rfl, _⟩ := h
    rfl
  obtain ⟨x, dx, rfl, j1, q⟩ := h
  have cl_Journal := T.Cls_Journal
  have at_Journal__payloads := T.A_Journal__payloads
  have at_Journal__sizes := T.A_Journal__sizes
  have at_Journal__synced := T.A_Journal__synced
  refine ⟨_, (pss_cons (ps_fld (pv 0) (pe_lst pa_nil) rfl)
      (pss_cons (ps_fld (pv 0) (pe_lst (pa_cons (pe_int) pa_nil)) rfl)
      (pss_one (ps_fld (pv 0) (pe_int) rfl)))), ?_⟩
  wtm_at "x0"
  wtm_at "xs"
  intro jp H2 hm s2 h2
  have n1 : x ≠ jp := Xk.ne_new hm j1
  wtm_at "xs"
  intro js H3 hl s3 h3
  have n2 : x ≠ js := Xk.ne_new hl upd_same
  have h2' : (upd H2 x (.ins T.C_Journal dx (putF "_payloads" (.ref jp) []))) jp = some (.lst []) := (upd_ne n1.symm).trans h2
  have n3 : jp ≠ js := Xk.ne_new hl h2'
  have j3 := s3 _ _ upd_same
  have j4 := s3 _ _ h2'
  wtm_at "xs"
  refine q _ jp js (fun c o n e => ?_) hm (Xk.free_back (Xk.fr_upd hl) s2) n3 upd_same ((upd_ne n1.symm).trans ((upd_ne n1.symm).trans j4)) ((upd_ne n2.symm).trans ((upd_ne n2.symm).trans h3))
  exact (upd_ne n).trans ((upd_ne n).trans (s3 _ _ ((upd_ne n).trans (s2 _ _ e))))
def JIs (C : Cs) (H : Hp) (j dj jp js : Addr) (sy : Int) : Prop := H j = some (.ins C.j dj [("_payloads", .ref jp), ("_sizes", .ref js), ("_synced", .int sy)])
def sp_Journal_frame_count (K : PySem.W.Frag) (C : Cs) : Sp := fun vs H Q _ => ∃ j dj jp js sy xs, vs = [.ref j] ∧ JIs C H j dj jp js sy ∧ H jp = some (.lst xs) ∧ Q (.int xs.length) H
theorem ok_Journal_frame_count (T : Txt K mg) : FnOk P w K mg base CX0 1 T.f_Journal_frame_count T.d_Journal_frame_count ["self"] (sp_Journal_frame_count K (csOf T)) := by
  refine T.F_Journal_frame_count.ok sc_Journal_frame_count (fun vs H Q E h => ?_) (fun cdv A outer s H vs Q E hr h => ?_)
  · obtain ⟨j, dj, jp, js, sy, xs, rfl, _⟩ := h
    rfl
  obtain ⟨j, dj, jp, js, sy, xs, rfl, hJ, hP, q⟩ := h
  unfold JIs at hJ
  have cl_Journal := T.Cls_Journal
  have at_Journal__payloads := T.A_Journal__payloads
  have at_Journal__sizes := T.A_Journal__sizes
  have at_Journal__synced := T.A_Journal__synced
  refine ⟨_, (pss_one (ps_ret (pe_callB (Xk.k_len (K := K) (by rfl)) (by rfl) T.m_len PySem.boot_len (pa_cons (Xk.k_fld (K := K) (by rfl) (pv 0) rfl) pa_nil)))), ?_⟩
  wtm_at "x0"
  wtm_at "xs"
  exact q
def sp_Journal_synced_frames (K : PySem.W.Frag) (C : Cs) : Sp := fun vs H Q _ => ∃ j dj jp js sy, vs = [.ref j] ∧ JIs C H j dj jp js sy ∧ Q (.int sy) H
theorem ok_Journal_synced_frames (T : Txt K mg) : FnOk P w K mg base CX0 1 T.f_Journal_synced_frames T.d_Journal_synced_frames ["self"] (sp_Journal_synced_frames K (csOf T)) := by
  refine T.F_Journal_synced_frames.ok sc_Journal_synced_frames (fun vs H Q E h => ?_) (fun cdv A outer s H vs Q E hr h => ?_)
  · obtain ⟨j, dj, jp, js, sy, rfl, _⟩ := h
    rfl
  obtain ⟨j, dj, jp, js, sy, rfl, hJ, q⟩ := h
  unfold JIs at hJ
  have cl_Journal := T.Cls_Journal
  have at_Journal__payloads := T.A_Journal__payloads
  have at_Journal__sizes := T.A_Journal__sizes
  have at_Journal__synced := T.A_Journal__synced
  refine ⟨_, (pss_one (ps_ret (Xk.k_fld (K := K) (by rfl) (pv 0) rfl))), ?_⟩
  wtm_at "x0"
  wtm_at "xs"
  exact q
def sp_Journal_sync (K : PySem.W.Frag) (C : Cs) : Sp := fun vs H Q _ => ∃ j dj jp js sy xs, vs = [.ref j] ∧ JIs C H j dj jp js sy ∧ H jp = some (.lst xs) ∧ Q .non (upd H j (.ins C.j dj [("_payloads", .ref jp), ("_sizes", .ref js), ("_synced", .int xs.length)]))
theorem ok_Journal_sync (T : Txt K mg) : FnOk P w K mg base CX0 1 T.f_Journal_sync T.d_Journal_sync ["self"] (sp_Journal_sync K (csOf T)) := by
  refine T.F_Journal_sync.ok sc_Journal_sync (fun vs H Q E h => ?_) (fun cdv A outer s H vs Q E hr h => ?_)
  · obtain ⟨j, dj, jp, js, sy, xs, rfl, _⟩ := h
    rfl
  obtain ⟨j, dj, jp, js, sy, xs, rfl, hJ, hP, q⟩ := h
  unfold JIs at hJ
  have cl_Journal := T.Cls_Journal
  have at_Journal__payloads := T.A_Journal__payloads
  have at_Journal__sizes := T.A_Journal__sizes
  have at_Journal__synced := T.A_Journal__synced
  refine ⟨_, (pss_one (ps_fld (pv 0) (pe_callB (Xk.k_len (K := K) (by rfl)) (by rfl) T.m_len PySem.boot_len (pa_cons (Xk.k_fld (K := K) (by rfl) (pv 0) rfl) pa_nil)) rfl)), ?_⟩
  wtm_at "x0"
  wtm_at "xs"
  exact q
def sp_Journal_append (K : PySem.W.Frag) (C : Cs) : Sp := fun vs H Q _ => ∃ j dj jp js sy xs ys s p ws, vs = [.ref j, .ref p] ∧ JIs C H j dj jp js sy ∧ H jp = some (.lst xs) ∧ H js = some (.lst ((ys ++ [s]).map V.int)) ∧ jp ≠ js ∧ p ≠ jp ∧ H p = some (.lst (List.map V.int ws)) ∧ xs.length ≤ 9000 ∧ ys.length ≤ 9000 ∧
  ∀ H2 q, Xk.Fr q H → Same H H2 → H2 q = some (.lst (ws.map V.int)) → Q .non (upd (upd H2 jp (.lst (xs ++ [.ref q]))) js (.lst ((ys ++ [s] ++ [s + 6 + (ws.length : Int)]).map V.int)))
theorem ok_Journal_append (T : Txt K mg) : FnOk P w K mg base CX0 1 T.f_Journal_append T.d_Journal_append ["self", "payload"] (sp_Journal_append K (csOf T)) := by
  refine T.F_Journal_append.ok sc_Journal_append (fun vs H Q E h => ?_) (fun cdv A outer s H vs Q E hr h => ?_)
  · obtain ⟨j, dj, jp, js, sy, xs, ys, s, p, ws, rfl, _⟩ := h
    rfl
  obtain ⟨j, dj, jp, js, sy, xs, ys, s1, p, ws, rfl, hJ, hP, hS, njs, npj, hp, l1, l2, q⟩ := h
  unfold JIs at hJ
  have cl_Journal := T.Cls_Journal
  have at_Journal__payloads := T.A_Journal__payloads
  have at_Journal__sizes := T.A_Journal__sizes
  have at_Journal__synced := T.A_Journal__synced
  have n1 : j ≠ jp := fun e => by rw [e, hP] at hJ; cases hJ
  have n2 : j ≠ js := fun e => by rw [e, hS] at hJ; cases hJ
  refine ⟨_, (pss_cons (ps_expr (pe_bm PySem.F.plainAttrs_list PySem.F.slot_list_append PySem.F.type_list_append mt_append (Xk.k_fld (K := K) (by rfl) (pv 0) rfl) (pa_cons (pe_callTy (Xk.k_list (K := K) (by rfl)) (by rfl) T.m_list (by decide +kernel) (pa_cons (pv 1) pa_nil)) pa_nil)))
      (pss_one (ps_expr (pe_bm PySem.F.plainAttrs_list PySem.F.slot_list_append PySem.F.type_list_append mt_append (Xk.k_fld (K := K) (by rfl) (pv 0) rfl) (pa_cons (pe_op op_add (pe_op op_add (pe_ix (Xk.k_ixL (K := K) (by rfl)) (Xk.k_fld (K := K) (by rfl) (pv 0) rfl) (pe_un un_neg (pe_int)) (fun _ _ => rfl)) (pe_glob (by rfl) T.g_FRAME_HEAD Xk.rel_int)) (pe_callB (Xk.k_len (K := K) (by rfl)) (by rfl) T.m_len PySem.boot_len (pa_cons (pv 1) pa_nil))) pa_nil))))), ?_⟩
  wtm_at "x0"
  wtm_at "xs"
  intro qq H2 hq s2 h2
  have n3 : jp ≠ qq := Xk.ne_new hq hP
  have n4 : j ≠ qq := Xk.ne_new hq hJ
  have hJ2 := s2 _ _ hJ
  have hS2 := s2 _ _ hS
  have hP2 := s2 _ _ hP
  wtm_at "xs"
  refine Xk.x_ixL (Xk.sq_of ((upd_ne njs.symm).trans hS2)) (Xk.at_neg (j := ys.length) (by decide) (by rw [List.length_map, List.length_append, List.length_singleton]; omega) (by rw [List.map_append, List.getElem?_append_right (by rw [List.length_map]; exact Nat.le_refl _), List.length_map, Nat.sub_self]; rfl)) ?_
  have hp2 : upd H2 jp (.lst (xs ++ [V.ref qq])) p = some (.lst (ws.map V.int)) := (upd_ne npj).trans (s2 _ _ hp)
  wtm_at "xs"
  have e := q H2 qq hq s2 h2
  rw [List.map_append] at e
  rw [List.length_map]
  exact e
def sp_Journal_payloads (K : PySem.W.Frag) (C : Cs) : Sp := fun vs H Q _ => ∃ (j dj jp js : Addr) (sy : Int) (ps : List Addr) (us : List Up) (z : Nat) (tg : Xk.TgF), vs = [.ref j] ∧ JIs C H j dj jp js sy ∧ H jp = some (.lst (ps.map V.ref)) ∧ Pay z tg H ps us ∧ ps.length ≤ 9000 ∧
  ∀ (H' : Hp) (p : Addr) (qs : List Addr), Same H H' → H' p = some (.lst (qs.map V.ref)) → qs.length = us.length → (∀ (i : Nat) (x : Addr) (u : Up), qs[i]? = some x → us[i]? = some u → H' x = some (.lst ((pl u).map V.int))) → Q (.ref p) H'
theorem ok_Journal_payloads (T : Txt K mg) : FnOk P w K mg base CX0 1 T.f_Journal_payloads T.d_Journal_payloads ["self"] (sp_Journal_payloads K (csOf T)) := by
  refine T.F_Journal_payloads.ok sc_Journal_payloads (fun vs H Q E h => ?_) (fun cdv A outer s H vs Q E hr h => ?_)
  · obtain ⟨j, dj, jp, js, sy, ps, us, z, tg, rfl, _⟩ := h
    rfl
  obtain ⟨j, dj, jp, js, sy, ps, us, z, tg, rfl, hJ, hP, hy, hl, q⟩ := h
  unfold JIs at hJ
  have cl_Journal := T.Cls_Journal
  have at_Journal__payloads := T.A_Journal__payloads
  have at_Journal__sizes := T.A_Journal__sizes
  have at_Journal__synced := T.A_Journal__synced
  refine ⟨_, (pss_one (ps_ret (pe_lc (own := [("payload", 1)]) (g := gName 1) (tt := tYes) rfl sc_Journal_payloads.nd  (pi_list (Xk.k_fld (K := K) (by rfl) (pv 0) rfl)) (blkOk_by (N := N_Journal_payloads) (sc := defScope s_Journal_payloads) (own := [("payload", 1)]) (by decide +kernel)) (fun _ _ _ _ _ => pg_name (i := 1) sc_Journal_payloads.nd rfl (Or.inl rfl)) (fun _ _ _ _ _ => pts_nil) (fun _ _ _ _ _ => (pe_callTy (Xk.k_list (K := K) (by rfl)) (by rfl) T.m_list (by decide +kernel) (pa_cons (pv 1) pa_nil)))))), ?_⟩
  wtm_at "x0"
  wtm_at "xs"
  refine Xk.x_lcL (fun Dl i H' => Same H H' ∧ Xk.Fr Dl H ∧ ∃ qs : List Addr, H' Dl = some (.lst (qs.map V.ref)) ∧ qs.length = i ∧ ∀ (j : Nat) (x : Addr) (u : Up), qs[j]? = some x → us[j]? = some u → H' x = some (.lst ((pl u).map V.int)) ∧ x ≠ Dl) (Xk.sq_of hP) (fun Dl hD => ⟨Xk.same_fr hD, hD, [], upd_same, rfl, fun j x u e => by cases e⟩) (fun Dl i H' hD hh => Xk.sq_of (hh.1 _ _ hP)) ?_ ?_
  · rintro Dl hD i x H1 hi ⟨s1, hD2, qs, hq, hql, hqa⟩
    obtain ⟨p, hp, rfl⟩ := Xk.of_map_at hi
    obtain ⟨u, hu, hpu, _⟩ := hy.at_lt hp
    have hp1 := s1 _ _ hpu
    wtm_at "xs"
    refine Xk.x_wiped rfl ?_
    wtm_at "xs"
    intro l H3 hl3 s3 h3
    have hq3 := s3 _ _ hq
    have hne : l ≠ Dl := (Xk.ne_new hl3 hq).symm
    suffices fin : (Same H (upd H3 Dl (.lst (qs.map V.ref ++ [.ref l]))) ∧ Xk.Fr Dl H ∧ ∃ qs2 : List Addr, (upd H3 Dl (.lst (qs.map V.ref ++ [.ref l]))) Dl = some (.lst (qs2.map V.ref)) ∧ qs2.length = i + 1 ∧ ∀ (j : Nat) (x : Addr) (u : Up), qs2[j]? = some x → us[j]? = some u → (upd H3 Dl (.lst (qs.map V.ref ++ [.ref l]))) x = some (.lst ((pl u).map V.int)) ∧ x ≠ Dl) by
      exact ⟨_, hq3, Xk.size_lt (by rw [List.length_map]; have := Xk.at_lt hp; omega), fin⟩
    refine ⟨Xk.same_mut (s1.trans s3) hD, hD2, qs ++ [l], ?_, by rw [List.length_append, hql]; rfl, fun j x' u' e1 e2 => ?_⟩
    · rw [upd_same, List.map_append]
      rfl
    · by_cases hj : j < qs.length
      · rw [List.getElem?_append_left hj] at e1
        have k := hqa j x' u' e1 e2
        exact ⟨(upd_ne k.2).trans (s3 _ _ k.1), k.2⟩
      · rw [List.getElem?_append_right (by omega)] at e1
        have hj2 : j < (qs ++ [l]).length := by
          have := Xk.at_lt e1
          rw [List.length_append]
          rw [List.length_singleton] at this ⊢
          omega
        have hj3 : j = i := by
          rw [List.length_append, List.length_singleton] at hj2
          omega
        subst hj3
        rw [hql, Nat.sub_self] at e1
        cases e1
        rw [hu] at e2
        cases e2
        exact ⟨(upd_ne hne).trans h3, hne⟩
  · rintro Dl H' hD ⟨s1, _, qs, hq, hql, hqa⟩
    exact q H' Dl qs s1 hq (by rw [hql, List.length_map, hy.len]) fun i x u e1 e2 => (hqa i x u e1 e2).1
def sp_Acceptor___init__ (K : PySem.W.Frag) (C : Cs) : Sp := fun vs H Q _ => ∃ x dx p a, vs = [.ref x, p, a] ∧ H x = some (.ins C.a dx []) ∧ ∀ H', Xk.But x H H' → H' x = some (.ins C.a dx [("promised", p), ("accepted", a)]) → Q .non H'
theorem ok_Acceptor___init__ (T : Txt K mg) : FnOk P w K mg base CX0 1 T.f_Acceptor___init__ T.d_Acceptor___init__ ["self", "promised", "accepted"] (sp_Acceptor___init__ K (csOf T)) := by
  refine Xk.okD T.F_Acceptor___init__ sc_Acceptor___init__ (fun vs H Q E h => ?_) (fun cdv A outer s H vs Q E hr h => ?_)
  · obtain ⟨x, dx, p, a, rfl, _⟩ := h
    rfl
  obtain ⟨x, dx, p, a, rfl, j1, q⟩ := h
  have cl_Acceptor := T.Cls_Acceptor
  have at_Acceptor_promised := T.A_Acceptor_promised
  have at_Acceptor_accepted := T.A_Acceptor_accepted
  refine ⟨_, (pss_cons (ps_fld (pv 0) (pv 1) rfl)
      (pss_one (ps_fld (pv 0) (pv 2) rfl))), ?_⟩
  wtm_at "x0"
  wtm_at "xs"
  exact q _ (Xk.but_mut (Xk.but_mut (Xk.But.refl _ _))) upd_same
def sp_Acceptor_promise (K : PySem.W.Frag) (C : Cs) : Sp := fun vs H Q _ => ∃ x dx p a b, vs = [.ref x, b] ∧ H x = some (.ins C.a dx [("promised", p), ("accepted", a)]) ∧ Q .non (upd H x (.ins C.a dx [("promised", b), ("accepted", a)]))
theorem ok_Acceptor_promise (T : Txt K mg) : FnOk P w K mg base CX0 1 T.f_Acceptor_promise T.d_Acceptor_promise ["self", "ballot"] (sp_Acceptor_promise K (csOf T)) := by
  refine T.F_Acceptor_promise.ok sc_Acceptor_promise (fun vs H Q E h => ?_) (fun cdv A outer s H vs Q E hr h => ?_)
  · obtain ⟨x, dx, p, a, b, rfl, _⟩ := h
    rfl
  obtain ⟨x, dx, p, a, b, rfl, j1, q⟩ := h
  have cl_Acceptor := T.Cls_Acceptor
  have at_Acceptor_promised := T.A_Acceptor_promised
  have at_Acceptor_accepted := T.A_Acceptor_accepted
  refine ⟨_, (pss_one (ps_fld (pv 0) (pv 1) rfl)), ?_⟩
  wtm_at "x0"
  wtm_at "xs"
  exact q
def sp_Acceptor_accept (K : PySem.W.Frag) (C : Cs) : Sp := fun vs H Q _ => ∃ x dx p a b e, vs = [.ref x, b, e] ∧ H x = some (.ins C.a dx [("promised", p), ("accepted", a)]) ∧ ∀ H' t, Xk.But x H H' → Xk.Fr t H → H' t = some (.tup [b, e]) → H' x = some (.ins C.a dx [("promised", b), ("accepted", .ref t)]) → Q .non H'
theorem ok_Acceptor_accept (T : Txt K mg) : FnOk P w K mg base CX0 1 T.f_Acceptor_accept T.d_Acceptor_accept ["self", "ballot", "entry"] (sp_Acceptor_accept K (csOf T)) := by
  refine T.F_Acceptor_accept.ok sc_Acceptor_accept (fun vs H Q E h => ?_) (fun cdv A outer s H vs Q E hr h => ?_)
  · obtain ⟨x, dx, p, a, b, e, rfl, _⟩ := h
    rfl
  obtain ⟨x, dx, p, a, b, e, rfl, j1, q⟩ := h
  have cl_Acceptor := T.Cls_Acceptor
  have at_Acceptor_promised := T.A_Acceptor_promised
  have at_Acceptor_accepted := T.A_Acceptor_accepted
  refine ⟨_, (pss_cons (ps_fld (pv 0) (pv 1) rfl)
      (pss_one (ps_fld (pv 0) (pe_tup (pa_cons (pv 1) (pa_cons (pv 2) pa_nil))) rfl))), ?_⟩
  wtm_at "x0"
  wtm_at "xs"
  intro t H2 ht s2 h2
  have j2 := s2 _ _ upd_same
  have n1 : t ≠ x := (Xk.ne_new ht upd_same).symm
  wtm_at "xs"
  exact q _ t (fun c o n g => (upd_ne n).trans (s2 _ _ ((upd_ne n).trans g))) (Xk.fr_upd ht) ((upd_ne n1).trans h2) upd_same
--CUT--
def sp_Record___init__ (K : PySem.W.Frag) (C : Cs) : Sp := fun vs H Q _ => ∃ x dx, vs = [.ref x] ∧ H x = some (.ins C.r dx []) ∧ ∀ (H' : Hp) (rl ac da nb : Addr), Xk.But x H H' → Xk.Fr rl H → Xk.Fr ac H → rl ≠ ac → H' x = some (.ins C.r dx [("row", .ref rl), ("acceptor", .ref ac)]) → H' rl = some (.lst []) → H' ac = some (.ins C.a da [("promised", .ref nb), ("accepted", .non)]) → (∀ G : Hp, SqT K G nb [.int 0, .int 0]) → Q .non H'
theorem ok_Record___init__ (T : Txt K mg) : FnOk P w K mg base CX0 3 T.f_Record___init__ T.d_Record___init__ ["self"] (sp_Record___init__ K (csOf T)) := by
  refine T.F_Record___init__.ok sc_Record___init__ (fun vs H Q E h => ?_) (fun cdv A outer s H vs Q E hr h => ?_)
  · obtain ⟨x, dx, rfl, _⟩ := h
    rfl
  obtain ⟨x, dx, rfl, j1, q⟩ := h
  have cl_Record := T.Cls_Record
  have at_Record_row := T.A_Record_row
  have at_Record_acceptor := T.A_Record_acceptor
  refine ⟨_, (pss_cons (ps_fld (pv 0) (pe_lst pa_nil) rfl)
      (pss_one (ps_fld (pv 0) (pe_make0 T.Mk_Acceptor (ok_Acceptor___init__ T) (hr.mono (by decide)) (by rfl) T.g_Acceptor T.b0_Acceptor___init__ T.V0_Acceptor___init__ pass0) rfl))), ?_⟩
  wtm_at "x0"
  wtm_at "xs"
  intro rl H2 hm s2 h2
  have n1 : x ≠ rl := Xk.ne_new hm j1
  wtm_at "xs"
  refine Xk.x_rMake fun ac da H3 hac hda nda s3 ho hi => ?_
  have n2 : x ≠ ac := Xk.ne_new hac upd_same
  have h2' : (upd H2 x (.ins T.C_Record dx (putF "row" (.ref rl) []))) rl = some (.lst []) := (upd_ne n1.symm).trans h2
  have n3 : rl ≠ ac := Xk.ne_new hac h2'
  refine ⟨ac, da, _, _, rfl, hi, fun H4 b4 h4 => ⟨rfl, ?_⟩⟩
  have j3 := b4 _ _ n2 (s3 _ _ upd_same)
  have j4 := b4 _ _ n3 (s3 _ _ h2')
  wtm_at "xs"
  refine q _ rl ac da T.a_NO_BALLOT (fun c o n e => ?_) hm (Xk.free_back (Xk.fr_upd hac) s2) n3 upd_same ((upd_ne n1.symm).trans j4) ((upd_ne n2.symm).trans h4) T.l_NO_BALLOT
  have e2 := s3 _ _ ((upd_ne n).trans (s2 _ _ e))
  have nc : c ≠ ac := by
    intro z
    subst z
    have := hac.is
    rw [(upd_ne n).trans (s2 _ _ e)] at this
    cases this
  exact (upd_ne n).trans (b4 _ _ nc e2)
/-- what Record.do does to the three places -/
def RDo (K : PySem.W.Frag) (C : Cs) (H : Hp) (r dr rl ac da : Addr) (rv : List V) (p0 a0 : V) (Q : VK) : Up → Prop
  | .pro _ b => ∀ b', Xk.Pk K H 1 b' (dB b) → Q .non (upd H ac (.ins C.a da [("promised", b'), ("accepted", a0)]))
  | .acc _ b e => ∀ (H' : Hp) (b' : V) (t : Addr), Xk.But ac H H' → H' ac = some (.ins C.a da [("promised", b'), ("accepted", .ref t)]) → Xk.Fr t H → Xk.Pk K H' 1 b' (dB b) → Xk.Pk K H' 39 (.ref t) (dA (some (b, e))) → Q .non H'
  | .cho _ e => ∀ (H' : Hp) (ac' da' nb : Addr) (e' : V), (∀ b o, b ≠ rl → b ≠ r → H b = some o → H' b = some o) → Xk.Fr ac' H → H' ac' = some (.ins C.a da' [("promised", .ref nb), ("accepted", .non)]) → (∀ G : Hp, SqT K G nb [.int 0, .int 0]) → H' rl = some (.lst (rv ++ [e'])) → Xk.Pk K H' 38 e' (dE e) → H' r = some (.ins C.r dr [("row", .ref rl), ("acceptor", .ref ac')]) → Q .non H'
def sp_Record_do (K : PySem.W.Frag) (C : Cs) : Sp := fun vs H Q _ => ∃ (r dr rl ac da : Addr) (rv : List V) (p0 a0 uv : V) (u : Up), vs = [.ref r, uv] ∧ H r = some (.ins C.r dr [("row", .ref rl), ("acceptor", .ref ac)]) ∧ H rl = some (.lst rv) ∧ H ac = some (.ins C.a da [("promised", p0), ("accepted", a0)]) ∧ r ≠ ac ∧ Xk.Pk K H 39 uv (dU u) ∧ rv.length ≤ 9000 ∧ RDo K C H r dr rl ac da rv p0 a0 Q u
theorem ok_Record_do (T : Txt K mg) : FnOk P w K mg base CX0 3 T.f_Record_do T.d_Record_do ["self", "update"] (sp_Record_do K (csOf T)) := by
  refine T.F_Record_do.ok sc_Record_do (fun vs H Q E h => ?_) (fun cdv A outer s H vs Q E hr h => ?_)
  · obtain ⟨r, dr, rl, ac, da, rv, p0, a0, uv, u, rfl, _⟩ := h
    rfl
  obtain ⟨r, dr, rl, ac, da, rv, p0, a0, uv, u, rfl, hR, hW, hA, nra, hu, hl, q⟩ := h
  have cl_Record := T.Cls_Record
  have at_Record_row := T.A_Record_row
  have at_Record_acceptor := T.A_Record_acceptor
  have cl_Acceptor := T.Cls_Acceptor
  have at_Acceptor_promised := T.A_Acceptor_promised
  have at_Acceptor_accepted := T.A_Acceptor_accepted
  refine ⟨_, (pss_cons (ps_set (i := 2) sc_Record_do.nd rfl (Or.inl rfl) (pe_ix (Xk.k_ixT (K := K) (by rfl)) (pv 1) (pe_int) (fun _ _ => rfl)))
      (pss_one (ps_if (pt_cmpR op_eq (pv 2) (pe_glob (by rfl) T.g_PROMISE Xk.rel_str) (nomark _)) (pss_one (ps_expr (pe_meth (Xk.k_fld (K := K) (by rfl) (pv 0) rfl) T.Cls_Acceptor T.M_Acceptor_promise (ok_Acceptor_promise T) (hr.mono (by decide)) T.b_Acceptor_promise .nil pass0 (pa_cons (pe_ix (Xk.k_ixT (K := K) (by rfl)) (pv 1) (pe_int) (fun _ _ => rfl)) pa_nil)))) (pss_one (ps_if (pt_cmpR op_eq (pv 2) (pe_glob (by rfl) T.g_ACCEPT Xk.rel_str) (nomark _)) (pss_one (ps_expr (pe_meth (Xk.k_fld (K := K) (by rfl) (pv 0) rfl) T.Cls_Acceptor T.M_Acceptor_accept (ok_Acceptor_accept T) (hr.mono (by decide)) T.b_Acceptor_accept .nil pass0 (pa_cons (pe_ix (Xk.k_ixT (K := K) (by rfl)) (pv 1) (pe_int) (fun _ _ => rfl)) (pa_cons (pe_ix (Xk.k_ixT (K := K) (by rfl)) (pv 1) (pe_int) (fun _ _ => rfl)) pa_nil))))) (pss_one (ps_if (pt_cmpR op_eq (pv 2) (pe_glob (by rfl) T.g_CHOSEN Xk.rel_str) (nomark _)) (pss_cons (ps_expr (pe_bm PySem.F.plainAttrs_list PySem.F.slot_list_append PySem.F.type_list_append mt_append (Xk.k_fld (K := K) (by rfl) (pv 0) rfl) (pa_cons (pe_ix (Xk.k_ixT (K := K) (by rfl)) (pv 1) (pe_int) (fun _ _ => rfl)) pa_nil)))
      (pss_one (ps_fld (pv 0) (pe_make0 T.Mk_Acceptor (ok_Acceptor___init__ T) (hr.mono (by decide)) (by rfl) T.g_Acceptor T.b0_Acceptor___init__ T.V0_Acceptor___init__ pass0) rfl))) pss_nil))))))), ?_⟩
  have nrw : r ≠ rl := fun e => by rw [e, hW] at hR; cases hR
  have naw : ac ≠ rl := fun e => by rw [e, hW] at hA; cases hA
  wtm_at "x0"
  cases u with
  | pro s b =>
    obtain ⟨a, vs, rfl, hs, hp⟩ := pk_tupD hu
    obtain ⟨v1, w1, rfl, p1, hp⟩ := pk_more hp
    obtain ⟨v2, w2, rfl, p2, hp⟩ := pk_more hp
    obtain ⟨v3, rfl, p3⟩ := pk_one hp
    rw [pk_strD p1] at hs
    wtm_at "xs"
    refine ⟨ac, da, p0, a0, v3, rfl, hA, ?_⟩
    exact q v3 (pk_low p3 (dep_B b))
  | acc s b e =>
    obtain ⟨a, vs, rfl, hs, hp⟩ := pk_tupD hu
    obtain ⟨v1, w1, rfl, p1, hp⟩ := pk_more hp
    obtain ⟨v2, w2, rfl, p2, hp⟩ := pk_more hp
    obtain ⟨v3, w3, rfl, p3, hp⟩ := pk_more hp
    obtain ⟨v4, rfl, p4⟩ := pk_one hp
    rw [pk_strD p1] at hs
    wtm_at "xs"
    refine ⟨ac, da, p0, a0, v3, v4, rfl, hA, fun H' t b' ht h1 h2 => ?_⟩
    have st : Xk.St K H H' := Xk.tt_butO hA b'
    have p3' := (pk_low p3 (dep_B b)).st st
    exact q H' v3 t b' h2 ht p3' (Xk.pk_tup2 (Xk.st_of h1) (p3'.mono (by decide)) (p4.st st))
  | cho s e =>
    obtain ⟨a, vs, rfl, hs, hp⟩ := pk_tupD hu
    obtain ⟨v1, w1, rfl, p1, hp⟩ := pk_more hp
    obtain ⟨v2, w2, rfl, p2, hp⟩ := pk_more hp
    obtain ⟨v3, rfl, p3⟩ := pk_one hp
    rw [pk_strD p1] at hs
    wtm_at "xs"
    refine Xk.x_rMake fun x dx H3 hx hdx ndx s3 ho hi => ?_
    have n1 : r ≠ x := Xk.ne_new hx ((upd_ne nrw).trans hR)
    have n2 : rl ≠ x := Xk.ne_new hx upd_same
    refine ⟨x, dx, _, _, rfl, hi, fun H4 b4 h4 => ⟨rfl, ?_⟩⟩
    have hR4 := b4 _ _ n1 (s3 _ _ ((upd_ne nrw).trans hR))
    have hW4 := b4 _ _ n2 (s3 _ _ upd_same)
    wtm_at "xs"
    have st : Xk.St K H (upd H4 r (.ins T.C_Record dr [("row", .ref rl), ("acceptor", .ref x)])) := ((((Xk.st_updL hW).trans (Xk.tt_same s3)).trans (Xk.tt_butO hi b4))).trans (Xk.st_updI hR4)
    refine q _ x dx T.a_NO_BALLOT v3 (fun c o m1 m2 g => ?_) (Xk.fr_upd hx) ((upd_ne n1.symm).trans h4) T.l_NO_BALLOT ((upd_ne nrw.symm).trans hW4) (p3.st st) upd_same
    have g2 := s3 _ _ ((upd_ne m1).trans g)
    have nc : c ≠ x := by
      intro z
      subst z
      have := hx.is
      rw [(upd_ne m1).trans g] at this
      cases this
    exact (upd_ne m2).trans (b4 _ _ nc g2)
def sp_Attempt___init__ (K : PySem.W.Frag) (C : Cs) : Sp := fun vs H Q _ => ∃ x dx b e ms, vs = [.ref x, b, e, ms] ∧ H x = some (.ins C.t dx []) ∧ ∀ (H' : Hp) (tp tq : Addr), Xk.But x H H' → Xk.Fr tp H → Xk.Fr tq H → tp ≠ tq → H' x = some (.ins C.t dx [("ballot", b), ("entry", e), ("members", ms), ("stage", .str "asking"), ("promised_by", .ref tp), ("voted_by", .ref tq), ("bound", .non)]) → H' tp = some (.lst []) → H' tq = some (.lst []) → Q .non H'
theorem ok_Attempt___init__ (T : Txt K mg) : FnOk P w K mg base CX0 1 T.f_Attempt___init__ T.d_Attempt___init__ ["self", "ballot", "entry", "members"] (sp_Attempt___init__ K (csOf T)) := by
  refine T.F_Attempt___init__.ok sc_Attempt___init__ (fun vs H Q E h => ?_) (fun cdv A outer s H vs Q E hr h => ?_)
  · obtain ⟨x, dx, b, e, ms, rfl, _⟩ := h
    rfl
  obtain ⟨x, dx, b, e, ms, rfl, j1, q⟩ := h
  have cl_Attempt := T.Cls_Attempt
  have at_Attempt_ballot := T.A_Attempt_ballot
  have at_Attempt_entry := T.A_Attempt_entry
  have at_Attempt_members := T.A_Attempt_members
  have at_Attempt_stage := T.A_Attempt_stage
  have at_Attempt_promised_by := T.A_Attempt_promised_by
  have at_Attempt_voted_by := T.A_Attempt_voted_by
  have at_Attempt_bound := T.A_Attempt_bound
  refine ⟨_, (pss_cons (ps_fld (pv 0) (pv 1) rfl)
      (pss_cons (ps_fld (pv 0) (pv 2) rfl)
      (pss_cons (ps_fld (pv 0) (pv 3) rfl)
      (pss_cons (ps_fld (pv 0) (pe_glob (by rfl) T.g_ASKING Xk.rel_str) rfl)
      (pss_cons (ps_fld (pv 0) (pe_lst pa_nil) rfl)
      (pss_cons (ps_fld (pv 0) (pe_lst pa_nil) rfl)
      (pss_one (ps_fld (pv 0) (pe_non) rfl)))))))), ?_⟩
  wtm_at "x0"
  wtm_at "xs"
  intro tp H2 hm s2 h2
  have j2 := s2 _ _ upd_same
  have n1 : x ≠ tp := Xk.ne_new hm upd_same
  wtm_at "xs"
  intro tq H3 hl s3 h3
  have n2 : x ≠ tq := Xk.ne_new hl upd_same
  have h2' := s3 _ _ ((upd_ne (o := .ins T.C_Attempt dx (putF "promised_by" (.ref tp) (putF "stage" (.str "asking") (putF "members" ms (putF "entry" e (putF "ballot" b [])))))) n1.symm).trans h2)
  have n3 : tp ≠ tq := Xk.ne_new hl ((upd_ne n1.symm).trans h2)
  have j3 := s3 _ _ upd_same
  wtm_at "xs"
  refine q _ tp tq (fun c o n g => ?_) ⟨?_⟩ ⟨?_⟩ n3 upd_same ((upd_ne n1.symm).trans ((upd_ne n1.symm).trans h2')) ((upd_ne n2.symm).trans ((upd_ne n2.symm).trans h3))
  · refine (upd_ne n).trans ((upd_ne n).trans (s3 _ _ ((upd_ne n).trans (s2 _ _ ?_))))
    exact (upd_ne n).trans ((upd_ne n).trans ((upd_ne n).trans ((upd_ne n).trans g)))
  · exact (Xk.fr_upd (Xk.fr_upd (Xk.fr_upd (Xk.fr_upd hm)))).is
  · exact (Xk.fr_upd (Xk.fr_upd (Xk.fr_upd (Xk.fr_upd (Xk.free_back (Xk.fr_upd hl) s2))))).is
def sp_Diary___init__ (K : PySem.W.Frag) (C : Cs) : Sp := fun vs H Q _ => ∃ x dx, vs = [.ref x] ∧ H x = some (.ins C.d dx []) ∧ ∀ (H' : Hp) (ln : Addr), Xk.But x H H' → Xk.Fr ln H → H' x = some (.ins C.d dx [("lines", .ref ln)]) → H' ln = some (.lst []) → Q .non H'
theorem ok_Diary___init__ (T : Txt K mg) : FnOk P w K mg base CX0 1 T.f_Diary___init__ T.d_Diary___init__ ["self"] (sp_Diary___init__ K (csOf T)) := by
  refine T.F_Diary___init__.ok sc_Diary___init__ (fun vs H Q E h => ?_) (fun cdv A outer s H vs Q E hr h => ?_)
  · obtain ⟨x, dx, rfl, _⟩ := h
    rfl
  obtain ⟨x, dx, rfl, j1, q⟩ := h
  have cl_Diary := T.Cls_Diary
  have at_Diary_lines := T.A_Diary_lines
  refine ⟨_, (pss_one (ps_fld (pv 0) (pe_lst pa_nil) rfl)), ?_⟩
  wtm_at "x0"
  wtm_at "xs"
  intro ln H2 hm s2 h2
  have j2 := s2 _ _ j1
  have n1 : x ≠ ln := Xk.ne_new hm j1
  wtm_at "xs"
  exact q _ ln (fun c o n g => (upd_ne n).trans (s2 _ _ g)) hm upd_same ((upd_ne n1.symm).trans h2)
def sp__law_make (K : PySem.W.Frag) (C : Cs) : Sp := fun vs H Q _ => vs = [] ∧ ∀ (H' : Hp) (m dm ln : Addr), Same H H' → Xk.Fr m H → Xk.Fr ln H → m ≠ ln → H' m = some (.ins C.d dm [("lines", .ref ln)]) → H' ln = some (.lst []) → Q (.ref m) H'
theorem ok__law_make (T : Txt K mg) : FnOk P w K mg base CX0 3 T.f__law_make T.d__law_make [] (sp__law_make K (csOf T)) := by
  refine T.F__law_make.ok sc__law_make (fun vs H Q E h => ?_) (fun cdv A outer s H vs Q E hr h => ?_)
  · obtain ⟨rfl, _⟩ := h
    rfl
  obtain ⟨rfl, q⟩ := h
  refine ⟨_, (pss_one (ps_ret (pe_make0 T.Mk_Diary (ok_Diary___init__ T) (hr.mono (by decide)) (by rfl) T.g_Diary T.b_Diary___init__ .nil pass0))), ?_⟩
  wtm_at "x0"
  wtm_at "xs"
  refine Xk.x_rMake fun x dx H3 hx hdx ndx s3 ho hi => ?_
  refine ⟨x, dx, rfl, hi, fun H4 ln b4 hl h4 h5 => ⟨rfl, ?_⟩⟩
  exact q H4 x dx ln (fun c o g => b4 _ _ (Xk.ne_new hx g) (s3 _ _ g)) hx (Xk.free_back hl s3) (Xk.ne_new hl hi) h4 h5
def sp_Diary_settled (K : PySem.W.Frag) (C : Cs) : Sp := fun vs H Q _ => ∃ (m dm ln : Addr) (lv : List V) (ls : List PyData) (v : V) (d : PyData), vs = [.ref m, v] ∧ H m = some (.ins C.d dm [("lines", .ref ln)]) ∧ H ln = some (.lst lv) ∧ Xk.PkAll K H 36 lv ls ∧ Xk.Pk K H 36 v d ∧ Q (.bl (Xk.inD d ls)) H
theorem ok_Diary_settled (T : Txt K mg) : FnOk P w K mg base CX0 1 T.f_Diary_settled T.d_Diary_settled ["self", "command"] (sp_Diary_settled K (csOf T)) := by
  refine T.F_Diary_settled.ok sc_Diary_settled (fun vs H Q E h => ?_) (fun cdv A outer s H vs Q E hr h => ?_)
  · obtain ⟨m, dm, ln, lv, ls, v, d, rfl, _⟩ := h
    rfl
  obtain ⟨m, dm, ln, lv, ls, v, d, rfl, j1, j2, p1, p2, q⟩ := h
  have cl_Diary := T.Cls_Diary
  have at_Diary_lines := T.A_Diary_lines
  refine ⟨_, (pss_one (ps_ret (pe_cmpR (Xk.k_inD (K := K) (Xk.u65 hr) (by rfl)) (pv 1) (Xk.k_fld (K := K) (by rfl) (pv 0) rfl) (by rfl)))), ?_⟩
  wtm_at "x0"
  wtm_at "xs"
  refine Xk.x_inPk p2 (Xk.sq_of j2) p1 ?_
  exact q
def sp_batch_of (K : PySem.W.Frag) : Sp := fun vs H Q _ => ∃ (a : Addr) (wv : List V) (cs : List PyData), vs = [.ref a] ∧ H a = some (.lst wv) ∧ Xk.PkAll K H 36 wv cs ∧ wv.length ≤ 9000 ∧ ∀ H' p, Same H H' → Xk.Pk K H' 38 (.ref p) (dE (.bat (cs.take 8))) → Q (.ref p) H'
theorem ok_batch_of (T : Txt K mg) : FnOk P w K mg base CX0 1 T.f_batch_of T.d_batch_of ["commands"] (sp_batch_of K) := by
  refine T.F_batch_of.ok sc_batch_of (fun vs H Q E h => ?_) (fun cdv A outer s H vs Q E hr h => ?_)
  · obtain ⟨a, wv, cs, rfl, _⟩ := h
    rfl
  obtain ⟨a, wv, cs, rfl, j1, p1, hl, q⟩ := h
  refine ⟨_, (pss_one (ps_ret (pe_tup (pa_cons (pe_glob (by rfl) T.g_BATCH Xk.rel_str) (pa_cons (pe_callTy (Xk.k_tuple (K := K) (by rfl)) (by rfl) T.m_tuple (by decide +kernel) (pa_cons (pe_slice (Xk.k_slL (K := K) (by rfl)) (pv 0) po_none (po_some (pe_glob (by rfl) T.g_MOST_BATCH Xk.rel_int))) pa_nil)) pa_nil))))), ?_⟩
  wtm_at "x0"
  wtm_at "xs"
  intro p2 H2 hp2 s2 h2
  rw [Xk.cut_take (xs := wv) (k := 8) (n := 8) rfl] at h2
  wtm_at "xs"
  intro p3 H3 hp3 s3 h3
  wtm_at "xs"
  intro p4 H4 hp4 s4 h4
  refine q H4 p4 ((s2.trans s3).trans s4) (Xk.pk_tup2 (Xk.st_of h4) Xk.pk_str ?_)
  exact Xk.pk_tup (Xk.st_of (s4 _ _ h3)) ((p1.same ((s2.trans s3).trans s4)).take 8)
def sp_next_ballot (K : PySem.W.Frag) : Sp := fun vs H Q _ => ∃ i x : Int, vs = [.int i, .int x] ∧ (i ≥ 9999 → Q .non H) ∧ (i < 9999 → ∀ H' p, Same H H' → H' p = some (.tup [.int (i + 1), .int x]) → Q (.ref p) H')
theorem ok_next_ballot (T : Txt K mg) : FnOk P w K mg base CX0 1 T.f_next_ballot T.d_next_ballot ["after", "index"] (sp_next_ballot K) := by
  refine T.F_next_ballot.ok sc_next_ballot (fun vs H Q E h => ?_) (fun cdv A outer s H vs Q E hr h => ?_)
  · obtain ⟨i, x, rfl, _⟩ := h
    rfl
  obtain ⟨i, x, rfl, q1, q2⟩ := h
  refine ⟨_, (Evl.pss_cut (ps_if (pt_cmpR op_ge (pv 0) (pe_glob (by rfl) T.g_MOST_ROUND Xk.rel_int) (nomark _)) (pss_one (ps_ret (pe_non))) pss_nil)
      (pss_one (ps_ret (pe_tup (pa_cons (pe_op op_add (pv 0) (pe_int)) (pa_cons (pv 1) pa_nil)))))), ?_⟩
  wtm_at "x0"
  by_cases k : 9999 ≤ i
  · refine Xk.x_nocut ?_
    wtm_at "xs"
    exact q1 k
  refine fall ?_ ?_
  · wtm_at "xs"
    exact ⟨rfl, rfl⟩
  wtm_at "xs"
  intro p H2 hp s2 h2
  exact q2 (by omega) H2 p s2 h2
def sp_members_of_slot (K : PySem.W.Frag) : Sp := fun vs H Q _ => ∃ (fm : V) (rl : Addr) (k : Int) (rv : List V) (f : List Int) (row : List En), vs = [fm, .ref rl, .int k] ∧ Xk.Pk K H 1 fm (dI f) ∧ H rl = some (.lst rv) ∧ Xk.PkAll K H 38 rv (row.map dE) ∧ k = (row.length : Int) + 1 ∧ row.length ≤ 9000 ∧ ∀ v, Xk.Pk K H 1 v (dI (memOf f row)) → Q v H
theorem ok_members_of_slot (T : Txt K mg) : FnOk P w K mg base CX0 1 T.f_members_of_slot T.d_members_of_slot ["first_members", "row", "slot"] (sp_members_of_slot K) := by
  refine T.F_members_of_slot.ok sc_members_of_slot (fun vs H Q E h => ?_) (fun cdv A outer s H vs Q E hr h => ?_)
  · obtain ⟨fm, rl, k, rv, f, row, rfl, _⟩ := h
    rfl
  obtain ⟨fm, rl, k, rv, f, row, rfl, hf, j1, p1, rfl, hl, q⟩ := h
  refine ⟨_, (pss_cons (ps_for PassesOwn.never rfl (pi_revR (by rfl) T.m_reversed (prg_1 (by rfl) T.m_range (pe_op op_sub (pv 2) (pe_int)))) (pg_name (i := 3) sc_members_of_slot.nd rfl (Or.inl rfl)) (pss_cons (ps_asg (pe_ix (Xk.k_ixL (K := K) (by rfl)) (pv 1) (pv 3) (fun _ _ => rfl)) (pg_tup rfl (pgs_cons (pg_name (i := 4) sc_members_of_slot.nd rfl (Or.inl rfl)) (pgs_cons (pg_name (i := 5) sc_members_of_slot.nd rfl (Or.inl rfl)) pgs_nil))))
      (pss_one (ps_if (pt_cmpR op_eq (pv 4) (pe_glob (by rfl) T.g_MEMBERS Xk.rel_str) (nomark _)) (pss_one (ps_ret (pv 5))) pss_nil))))
      (pss_one (ps_ret (pv 0)))), ?_⟩
  wtm_at "x0"
  wtm_at "xs"
  refine Xk.x_forRev (m := (row.length : Int) + 1 - 1) (fun j σ' H' => H' = H ∧ memOf f row = memOf f (row.take (row.length - j)) ∧ ∃ y3 y4 y5, σ' = [some fm, some (V.ref rl), some (V.int (row.length + 1)), y3, y4, y5]) (by omega) ⟨rfl, by rw [Nat.sub_zero, List.take_length], _, _, _, rfl⟩ ?_ ?_
  · rintro j σ' H' hj ⟨rfl, hm, y3, y4, y5, rfl⟩
    have hjl : j < row.length := by omega
    obtain ⟨e, he⟩ := Xk.lt_at (xs := row) (j := row.length - j - 1) (by omega)
    have htk : row.take (row.length - j) = row.take (row.length - j - 1) ++ [e] := by
      have e1 : row.length - j = row.length - j - 1 + 1 := by omega
      conv => lhs; rw [e1]
      rw [List.take_add_one, he]
      rfl
    rw [htk, memOf_snoc] at hm
    have lv : rv.length = row.length := by rw [p1.len, List.length_map]
    obtain ⟨x, hx⟩ := Xk.lt_at (xs := rv) (j := row.length - j - 1) (by omega)
    obtain ⟨d, hd, pd⟩ := p1.at hx
    rw [List.getElem?_map, he] at hd
    cases hd
    wtm_at "xs"
    refine Xk.x_ixL (Xk.sq_of j1) (Xk.at_nat (j := row.length - j - 1) (by omega) hx) ?_
    cases e with
    | mem ms =>
      obtain ⟨a, v1, v2, rfl, hs, p3, p4⟩ := pk_pair pd
      rw [pk_strD p3] at hs
      wtm_at "xs"
      exact q v2 (by rw [hm]; exact pk_low p4 (dep_I ms))
    | bat cs =>
      obtain ⟨a, v1, v2, rfl, hs, p3, p4⟩ := pk_pair pd
      rw [pk_strD p3] at hs
      wtm_at "xs"
      refine ⟨rfl, ?_, _, _, _, rfl⟩
      rw [hm, show row.length - (j + 1) = row.length - j - 1 by omega]
  · rintro σ' H' ⟨rfl, hm, y3, y4, y5, rfl⟩
    wtm_at "xs"
    refine q fm ?_
    rw [hm, show row.length - ((row.length : Int) + 1 - 1).toNat = 0 by omega]
    exact hf
--CUT--
def sp_Node__long_patience (K : PySem.W.Frag) (C : Cs) : Sp := fun vs H Q _ => ∃ (a dx : Addr) (fs : List (Str × V)) (i : Int), vs = [.ref a] ∧ H a = some (.ins C.n dx fs) ∧ fs.lookup ("index" : Str) = some (.int i) ∧ Q (.int (6 + 2 * i)) H
theorem ok_Node__long_patience (T : Txt K mg) : FnOk P w K mg base CX0 1 T.f_Node__long_patience T.d_Node__long_patience ["self"] (sp_Node__long_patience K (csOf T)) := by
  refine T.F_Node__long_patience.ok sc_Node__long_patience (fun vs H Q E h => ?_) (fun cdv A outer s H vs Q E hr h => ?_)
  · obtain ⟨a, dx, fs, i, rfl, _⟩ := h
    rfl
  obtain ⟨a, dx, fs, i, rfl, hA, hi, q⟩ := h
  have cl_Node := T.Cls_Node
  have at_Node_index := T.A_Node_index
  have at_Node_size := T.A_Node_size
  have at_Node_first_members := T.A_Node_first_members
  have at_Node_lazy := T.A_Node_lazy
  have at_Node_state := T.A_Node_state
  have at_Node_journal := T.A_Node_journal
  have at_Node_record := T.A_Node_record
  have at_Node__make_machine := T.A_Node__make_machine
  have at_Node__untold := T.A_Node__untold
  have at_Node_waiting := T.A_Node_waiting
  have at_Node_wanted := T.A_Node_wanted
  have at_Node_attempt := T.A_Node_attempt
  have at_Node_patience := T.A_Node_patience
  have at_Node_guest := T.A_Node_guest
  have at_Node_seen := T.A_Node_seen
  have at_Node_machine := T.A_Node_machine
  have at_Node__sends := T.A_Node__sends
  have at_Node__letters := T.A_Node__letters
  refine ⟨_, (pss_one (ps_ret (pe_op op_add (pe_glob (by rfl) T.g_LONG_PATIENCE Xk.rel_int) (pe_op op_mul (pe_int) (Xk.k_fld (K := K) (by rfl) (pv 0) rfl))))), ?_⟩
  wtm_at "x0"
  wtm_at "xs"
  refine Xk.x_rFld hA cl_Node at_Node_index hi ?_
  wtm_at "xs"
  exact q
def sp_Node_upto (K : PySem.W.Frag) (C : Cs) : Sp := fun vs H Q _ => ∃ (a : Addr) (z : Nat) (tg : Xk.TgF) (n : Nd), vs = [.ref a] ∧ NdA K C z tg H a n ∧ Q (.int n.row.length) H
theorem ok_Node_upto (T : Txt K mg) : FnOk P w K mg base CX0 1 T.f_Node_upto T.d_Node_upto ["self"] (sp_Node_upto K (csOf T)) := by
  refine T.F_Node_upto.ok sc_Node_upto (fun vs H Q E h => ?_) (fun cdv A outer s H vs Q E hr h => ?_)
  · obtain ⟨a, z, tg, n, rfl, _⟩ := h
    rfl
  obtain ⟨a, z, tg, n, rfl, ⟨c, hN⟩, q⟩ := h
  have cl_Node := T.Cls_Node
  have at_Node_index := T.A_Node_index
  have at_Node_size := T.A_Node_size
  have at_Node_first_members := T.A_Node_first_members
  have at_Node_lazy := T.A_Node_lazy
  have at_Node_state := T.A_Node_state
  have at_Node_journal := T.A_Node_journal
  have at_Node_record := T.A_Node_record
  have at_Node__make_machine := T.A_Node__make_machine
  have at_Node__untold := T.A_Node__untold
  have at_Node_waiting := T.A_Node_waiting
  have at_Node_wanted := T.A_Node_wanted
  have at_Node_attempt := T.A_Node_attempt
  have at_Node_patience := T.A_Node_patience
  have at_Node_guest := T.A_Node_guest
  have at_Node_seen := T.A_Node_seen
  have at_Node_machine := T.A_Node_machine
  have at_Node__sends := T.A_Node__sends
  have at_Node__letters := T.A_Node__letters
  have cl_Record := T.Cls_Record
  have at_Record_row := T.A_Record_row
  have at_Record_acceptor := T.A_Record_acceptor
  obtain ⟨hA, tA⟩ := hN.lay.get (i := 0) rfl
  obtain ⟨hJ, tJ⟩ := hN.lay.get (i := 1) rfl
  obtain ⟨hP, tP⟩ := hN.lay.get (i := 2) rfl
  obtain ⟨hS, tS⟩ := hN.lay.get (i := 3) rfl
  obtain ⟨hR, tR⟩ := hN.lay.get (i := 4) rfl
  obtain ⟨hW, tW⟩ := hN.lay.get (i := 5) rfl
  obtain ⟨hC, tC⟩ := hN.lay.get (i := 6) rfl
  obtain ⟨hU, tU⟩ := hN.lay.get (i := 7) rfl
  obtain ⟨hT, tT⟩ := hN.lay.get (i := 8) rfl
  obtain ⟨hM, tM⟩ := hN.lay.get (i := 9) rfl
  obtain ⟨hL, tL⟩ := hN.lay.get (i := 10) rfl
  obtain ⟨hO, tO⟩ := hN.lay.get (i := 11) rfl
  obtain ⟨hE, tE⟩ := hN.lay.get (i := 12) rfl
  have vl := hN.vl
  refine ⟨_, (pss_one (ps_ret (pe_callB (Xk.k_len (K := K) (by rfl)) (by rfl) T.m_len PySem.boot_len (pa_cons (Xk.k_fld (K := K) (by rfl) (Xk.k_fld (K := K) (by rfl) (pv 0) rfl) rfl) pa_nil)))), ?_⟩
  wtm_at "x0"
  wtm_at "xs"
  rw [vl.row.len, List.length_map]
  exact q
def sp_Node_members_now (K : PySem.W.Frag) (C : Cs) : Sp := fun vs H Q _ => ∃ (a : Addr) (z : Nat) (tg : Xk.TgF) (n : Nd), vs = [.ref a] ∧ NdA K C z tg H a n ∧ Wf n ∧ ∀ v, Xk.Pk K H 1 v (dI (mbs n)) → Q v H
theorem ok_Node_members_now (T : Txt K mg) : FnOk P w K mg base CX0 3 T.f_Node_members_now T.d_Node_members_now ["self"] (sp_Node_members_now K (csOf T)) := by
  refine T.F_Node_members_now.ok sc_Node_members_now (fun vs H Q E h => ?_) (fun cdv A outer s H vs Q E hr h => ?_)
  · obtain ⟨a, z, tg, n, rfl, _⟩ := h
    rfl
  obtain ⟨a, z, tg, n, rfl, ⟨c, hN⟩, wf, q⟩ := h
  have cl_Node := T.Cls_Node
  have at_Node_index := T.A_Node_index
  have at_Node_size := T.A_Node_size
  have at_Node_first_members := T.A_Node_first_members
  have at_Node_lazy := T.A_Node_lazy
  have at_Node_state := T.A_Node_state
  have at_Node_journal := T.A_Node_journal
  have at_Node_record := T.A_Node_record
  have at_Node__make_machine := T.A_Node__make_machine
  have at_Node__untold := T.A_Node__untold
  have at_Node_waiting := T.A_Node_waiting
  have at_Node_wanted := T.A_Node_wanted
  have at_Node_attempt := T.A_Node_attempt
  have at_Node_patience := T.A_Node_patience
  have at_Node_guest := T.A_Node_guest
  have at_Node_seen := T.A_Node_seen
  have at_Node_machine := T.A_Node_machine
  have at_Node__sends := T.A_Node__sends
  have at_Node__letters := T.A_Node__letters
  have cl_Record := T.Cls_Record
  have at_Record_row := T.A_Record_row
  have at_Record_acceptor := T.A_Record_acceptor
  obtain ⟨hA, tA⟩ := hN.lay.get (i := 0) rfl
  obtain ⟨hJ, tJ⟩ := hN.lay.get (i := 1) rfl
  obtain ⟨hP, tP⟩ := hN.lay.get (i := 2) rfl
  obtain ⟨hS, tS⟩ := hN.lay.get (i := 3) rfl
  obtain ⟨hR, tR⟩ := hN.lay.get (i := 4) rfl
  obtain ⟨hW, tW⟩ := hN.lay.get (i := 5) rfl
  obtain ⟨hC, tC⟩ := hN.lay.get (i := 6) rfl
  obtain ⟨hU, tU⟩ := hN.lay.get (i := 7) rfl
  obtain ⟨hT, tT⟩ := hN.lay.get (i := 8) rfl
  obtain ⟨hM, tM⟩ := hN.lay.get (i := 9) rfl
  obtain ⟨hL, tL⟩ := hN.lay.get (i := 10) rfl
  obtain ⟨hO, tO⟩ := hN.lay.get (i := 11) rfl
  obtain ⟨hE, tE⟩ := hN.lay.get (i := 12) rfl
  have vl := hN.vl
  refine ⟨_, (pss_one (ps_ret (pe_call (ok_members_of_slot T) (hr.mono (by decide)) (by rfl) T.g_members_of_slot T.F_members_of_slot.kp T.b_members_of_slot .nil pass0 (pa_cons (Xk.k_fld (K := K) (by rfl) (pv 0) rfl) (pa_cons (Xk.k_fld (K := K) (by rfl) (Xk.k_fld (K := K) (by rfl) (pv 0) rfl) rfl) (pa_cons (pe_op op_add (pe_prop (pv 0) T.Cls_Node T.P_Node_upto (ok_Node_upto T) (hr.mono (by decide)) T.b_Node_upto .nil pass0 rfl) (pe_int)) pa_nil)))))), ?_⟩
  wtm_at "x0"
  wtm_at "xs"
  refine ⟨a, z, tg, n, rfl, ⟨c, hN⟩, ?_⟩
  wtm_at "xs"
  exact ⟨c.fm, c.rw, _, c.rv, n.fst, n.row, rfl, vl.fst, hW, vl.row, rfl, by have := wf.row; omega, q⟩
def sp_Node__something_waits (K : PySem.W.Frag) (C : Cs) : Sp := fun vs H Q _ => ∃ (a : Addr) (z : Nat) (tg : Xk.TgF) (n : Nd), vs = [.ref a] ∧ NdA K C z tg H a n ∧ Q (.bl (wish n)) H
theorem ok_Node__something_waits (T : Txt K mg) : FnOk P w K mg base CX0 1 T.f_Node__something_waits T.d_Node__something_waits ["self"] (sp_Node__something_waits K (csOf T)) := by
  refine T.F_Node__something_waits.ok sc_Node__something_waits (fun vs H Q E h => ?_) (fun cdv A outer s H vs Q E hr h => ?_)
  · obtain ⟨a, z, tg, n, rfl, _⟩ := h
    rfl
  obtain ⟨a, z, tg, n, rfl, ⟨c, hN⟩, q⟩ := h
  have cl_Node := T.Cls_Node
  have at_Node_index := T.A_Node_index
  have at_Node_size := T.A_Node_size
  have at_Node_first_members := T.A_Node_first_members
  have at_Node_lazy := T.A_Node_lazy
  have at_Node_state := T.A_Node_state
  have at_Node_journal := T.A_Node_journal
  have at_Node_record := T.A_Node_record
  have at_Node__make_machine := T.A_Node__make_machine
  have at_Node__untold := T.A_Node__untold
  have at_Node_waiting := T.A_Node_waiting
  have at_Node_wanted := T.A_Node_wanted
  have at_Node_attempt := T.A_Node_attempt
  have at_Node_patience := T.A_Node_patience
  have at_Node_guest := T.A_Node_guest
  have at_Node_seen := T.A_Node_seen
  have at_Node_machine := T.A_Node_machine
  have at_Node__sends := T.A_Node__sends
  have at_Node__letters := T.A_Node__letters
  obtain ⟨hA, tA⟩ := hN.lay.get (i := 0) rfl
  obtain ⟨hJ, tJ⟩ := hN.lay.get (i := 1) rfl
  obtain ⟨hP, tP⟩ := hN.lay.get (i := 2) rfl
  obtain ⟨hS, tS⟩ := hN.lay.get (i := 3) rfl
  obtain ⟨hR, tR⟩ := hN.lay.get (i := 4) rfl
  obtain ⟨hW, tW⟩ := hN.lay.get (i := 5) rfl
  obtain ⟨hC, tC⟩ := hN.lay.get (i := 6) rfl
  obtain ⟨hU, tU⟩ := hN.lay.get (i := 7) rfl
  obtain ⟨hT, tT⟩ := hN.lay.get (i := 8) rfl
  obtain ⟨hM, tM⟩ := hN.lay.get (i := 9) rfl
  obtain ⟨hL, tL⟩ := hN.lay.get (i := 10) rfl
  obtain ⟨hO, tO⟩ := hN.lay.get (i := 11) rfl
  obtain ⟨hE, tE⟩ := hN.lay.get (i := 12) rfl
  have vl := hN.vl
  refine ⟨_, (pss_one (ps_ret ((pe_or (pe_cmpR op_gt (pe_callB (Xk.k_len (K := K) (by rfl)) (by rfl) T.m_len PySem.boot_len (pa_cons (Xk.k_fld (K := K) (by rfl) (pv 0) rfl) pa_nil)) (pe_int) (nomark _)) (pe_one (pe_cmpR Xk.op_nNotN (Xk.k_fld (K := K) (by rfl) (pv 0) rfl) (pe_non) (nomark _))))))), ?_⟩
  wtm_at "x0"
  wtm_at "xs"
  have hl := vl.wai.len
  refine Xk.x_itd (fun h => ?_) (fun h => ?_)
  · have e : wish n = true := by
      unfold wish
      rw [decide_eq_true (by omega : n.wai.length > 0)]
      rfl
    rw [e] at q
    exact q
  · have e : wish n = n.wan.isSome := by
      unfold wish
      rw [decide_eq_false (by omega : ¬ n.wai.length > 0)]
      rfl
    rw [e] at q
    wtm_at "xs"
    have hw := vl.wan
    cases hn : n.wan with
    | none =>
      rw [hn] at hw q
      rw [pk_nonD hw]
      exact q
    | some ms =>
      rw [hn] at hw q
      obtain ⟨p, hp, _⟩ := pk_I hw
      rw [hp]
      exact q
def sp_Node__may_go_out (K : PySem.W.Frag) (C : Cs) : Sp := fun vs H Q _ => ∃ (a : Addr) (z : Nat) (tg : Xk.TgF) (n : Nd), vs = [.ref a] ∧ NdA K C z tg H a n ∧ Q (.bl (decide (n.saf = n.frm.length))) H
theorem ok_Node__may_go_out (T : Txt K mg) : FnOk P w K mg base CX0 3 T.f_Node__may_go_out T.d_Node__may_go_out ["self"] (sp_Node__may_go_out K (csOf T)) := by
  refine T.F_Node__may_go_out.ok sc_Node__may_go_out (fun vs H Q E h => ?_) (fun cdv A outer s H vs Q E hr h => ?_)
  · obtain ⟨a, z, tg, n, rfl, _⟩ := h
    rfl
  obtain ⟨a, z, tg, n, rfl, ⟨c, hN⟩, q⟩ := h
  have cl_Node := T.Cls_Node
  have at_Node_index := T.A_Node_index
  have at_Node_size := T.A_Node_size
  have at_Node_first_members := T.A_Node_first_members
  have at_Node_lazy := T.A_Node_lazy
  have at_Node_state := T.A_Node_state
  have at_Node_journal := T.A_Node_journal
  have at_Node_record := T.A_Node_record
  have at_Node__make_machine := T.A_Node__make_machine
  have at_Node__untold := T.A_Node__untold
  have at_Node_waiting := T.A_Node_waiting
  have at_Node_wanted := T.A_Node_wanted
  have at_Node_attempt := T.A_Node_attempt
  have at_Node_patience := T.A_Node_patience
  have at_Node_guest := T.A_Node_guest
  have at_Node_seen := T.A_Node_seen
  have at_Node_machine := T.A_Node_machine
  have at_Node__sends := T.A_Node__sends
  have at_Node__letters := T.A_Node__letters
  obtain ⟨hA, tA⟩ := hN.lay.get (i := 0) rfl
  obtain ⟨hJ, tJ⟩ := hN.lay.get (i := 1) rfl
  obtain ⟨hP, tP⟩ := hN.lay.get (i := 2) rfl
  obtain ⟨hS, tS⟩ := hN.lay.get (i := 3) rfl
  obtain ⟨hR, tR⟩ := hN.lay.get (i := 4) rfl
  obtain ⟨hW, tW⟩ := hN.lay.get (i := 5) rfl
  obtain ⟨hC, tC⟩ := hN.lay.get (i := 6) rfl
  obtain ⟨hU, tU⟩ := hN.lay.get (i := 7) rfl
  obtain ⟨hT, tT⟩ := hN.lay.get (i := 8) rfl
  obtain ⟨hM, tM⟩ := hN.lay.get (i := 9) rfl
  obtain ⟨hL, tL⟩ := hN.lay.get (i := 10) rfl
  obtain ⟨hO, tO⟩ := hN.lay.get (i := 11) rfl
  obtain ⟨hE, tE⟩ := hN.lay.get (i := 12) rfl
  have vl := hN.vl
  refine ⟨_, (pss_one (ps_ret (pe_cmpR op_eq (pe_prop (Xk.k_fld (K := K) (by rfl) (pv 0) rfl) T.Cls_Journal T.P_Journal_synced_frames (ok_Journal_synced_frames T) (hr.mono (by decide)) T.b_Journal_synced_frames .nil pass0 rfl) (pe_prop (Xk.k_fld (K := K) (by rfl) (pv 0) rfl) T.Cls_Journal T.P_Journal_frame_count (ok_Journal_frame_count T) (hr.mono (by decide)) T.b_Journal_frame_count .nil pass0 rfl) (nomark _)))), ?_⟩
  wtm_at "x0"
  wtm_at "xs"
  refine ⟨c.j, c.dj, c.jp, c.js, _, rfl, hJ, ?_⟩
  wtm_at "xs"
  refine ⟨c.j, c.dj, c.jp, c.js, _, _, rfl, hJ, hP, ?_⟩
  wtm_at "xs"
  have e : decide (V.int (n.saf : Int) = V.int ((c.ps.map V.ref).length : Int)) = decide (n.saf = n.frm.length) := by
    rw [List.length_map, hN.pay.len]
    refine decide_eq_decide.mpr ⟨fun h => ?_, fun h => by rw [h]⟩
    injection h with h
    omega
  rw [e]
  exact q
def sp_Node__end_step (K : PySem.W.Frag) (C : Cs) : Sp := fun vs H Q _ => ∃ (a : Addr) (z : Nat) (tg : Xk.TgF) (n : Nd), vs = [.ref a] ∧ NdA K C z tg H a n ∧ ∀ H', Xk.Mv z K tg tg H H' → NdA K C z tg H' a (endS n) → Q .non H'
theorem ok_Node__end_step (T : Txt K mg) : FnOk P w K mg base CX0 2 T.f_Node__end_step T.d_Node__end_step ["self"] (sp_Node__end_step K (csOf T)) := by
  refine T.F_Node__end_step.ok sc_Node__end_step (fun vs H Q E h => ?_) (fun cdv A outer s H vs Q E hr h => ?_)
  · obtain ⟨a, z, tg, n, rfl, _⟩ := h
    rfl
  obtain ⟨a, z, tg, n, rfl, ⟨c, hN⟩, q⟩ := h
  have cl_Node := T.Cls_Node
  have at_Node_index := T.A_Node_index
  have at_Node_size := T.A_Node_size
  have at_Node_first_members := T.A_Node_first_members
  have at_Node_lazy := T.A_Node_lazy
  have at_Node_state := T.A_Node_state
  have at_Node_journal := T.A_Node_journal
  have at_Node_record := T.A_Node_record
  have at_Node__make_machine := T.A_Node__make_machine
  have at_Node__untold := T.A_Node__untold
  have at_Node_waiting := T.A_Node_waiting
  have at_Node_wanted := T.A_Node_wanted
  have at_Node_attempt := T.A_Node_attempt
  have at_Node_patience := T.A_Node_patience
  have at_Node_guest := T.A_Node_guest
  have at_Node_seen := T.A_Node_seen
  have at_Node_machine := T.A_Node_machine
  have at_Node__sends := T.A_Node__sends
  have at_Node__letters := T.A_Node__letters
  obtain ⟨hA, tA⟩ := hN.lay.get (i := 0) rfl
  obtain ⟨hJ, tJ⟩ := hN.lay.get (i := 1) rfl
  obtain ⟨hP, tP⟩ := hN.lay.get (i := 2) rfl
  obtain ⟨hS, tS⟩ := hN.lay.get (i := 3) rfl
  obtain ⟨hR, tR⟩ := hN.lay.get (i := 4) rfl
  obtain ⟨hW, tW⟩ := hN.lay.get (i := 5) rfl
  obtain ⟨hC, tC⟩ := hN.lay.get (i := 6) rfl
  obtain ⟨hU, tU⟩ := hN.lay.get (i := 7) rfl
  obtain ⟨hT, tT⟩ := hN.lay.get (i := 8) rfl
  obtain ⟨hM, tM⟩ := hN.lay.get (i := 9) rfl
  obtain ⟨hL, tL⟩ := hN.lay.get (i := 10) rfl
  obtain ⟨hO, tO⟩ := hN.lay.get (i := 11) rfl
  obtain ⟨hE, tE⟩ := hN.lay.get (i := 12) rfl
  have vl := hN.vl
  refine ⟨_, (pss_one (ps_if (pt_not (pt_val (Xk.k_fld (K := K) (by rfl) (pv 0) rfl))) (pss_one (ps_expr (pe_meth0 (Xk.k_fld (K := K) (by rfl) (pv 0) rfl) T.Cls_Journal T.M_Journal_sync (ok_Journal_sync T) (hr.mono (by decide)) T.b_Journal_sync .nil pass0))) pss_nil)), ?_⟩
  wtm_at "x0"
  wtm_at "xs"
  cases e : n.lzy with
  | true =>
    wtm_at "xs"
    have e2 : endS n = n := if_pos e
    have := q H Xk.Mv.refl (by rw [e2]; exact ⟨c, hN⟩)
    exact this
  | false =>
    wtm_at "xs"
    refine ⟨c.j, c.dj, c.jp, c.js, _, _, rfl, hJ, hP, ?_⟩
    have e2 : endS n = { n with saf := n.frm.length } := if_neg (by rw [e]; decide)
    rw [List.length_map, hN.pay.len]
    have hp := hN.put (i := 1) (c' := c) (n' := { n with saf := n.frm.length }) (o' := .ins T.C_Journal c.dj [("_payloads", .ref c.jp), ("_sizes", .ref c.js), ("_synced", .int n.frm.length)]) rfl rfl (by decide) rfl ⟨rfl, rfl⟩ (fun v => { v with })
    exact q _ hp.2 (by rw [e2]; exact ⟨c, hp.1⟩)
--CUT--
def f9 (C : Cs) (ix sz : Int) (fm : V) (lz : Bool) (st : Str) (j r un : Addr) : List (Str × V) := [("index", .int ix), ("size", .int sz), ("first_members", fm), ("lazy", .bl lz), ("state", .str st), ("journal", .ref j), ("record", .ref r), ("_make_machine", .ref C.mf), ("_untold", .ref un)]
def g9 (ix : Int) (wt ma sd lt : Addr) : List (Str × V) := [("waiting", .ref wt), ("wanted", .non), ("attempt", .non), ("patience", .int (6 + 2 * ix)), ("guest", .bl false), ("seen", .int 0), ("machine", .ref ma), ("_sends", .ref sd), ("_letters", .ref lt)]
def sp_Node__begin_anew (K : PySem.W.Frag) (C : Cs) : Sp := fun vs H Q _ => ∃ (a dx : Addr) (ix sz : Int) (fm : V) (lz : Bool) (st : Str) (j r un : Addr) (z : Nat) (tg : Xk.TgF) (M : List Xk.Cell), vs = [.ref a] ∧ Xk.Lay z tg H ((a, .ins C.n dx (f9 C ix sz fm lz st j r un), 1) :: M) ∧ (M.all fun c => decide (c.2.2 < 9)) = true ∧
  ∀ (H' : Hp) (tg' : Xk.TgF) (wt ma dm ln sd lt : Addr), Xk.Mv z K tg tg' H H' → Xk.Lay z tg' H' (((a, .ins C.n dx (f9 C ix sz fm lz st j r un ++ g9 ix wt ma sd lt), 1) :: M) ++ [(wt, .lst [], 9)] ++ [(ma, .ins C.d dm [("lines", .ref ln)], 10)] ++ [(ln, .lst [], 11)] ++ [(sd, .lst [], 12)] ++ [(lt, .lst [], 13)]) → Q .non H'
theorem ok_Node__begin_anew (T : Txt K mg) : FnOk P w K mg base CX0 4 T.f_Node__begin_anew T.d_Node__begin_anew ["self"] (sp_Node__begin_anew K (csOf T)) := by
  refine T.F_Node__begin_anew.ok sc_Node__begin_anew (fun vs H Q E h => ?_) (fun cdv A outer s H vs Q E hr h => ?_)
  · obtain ⟨a, dx, ix, sz, fm, lz, st, j, r, un, z, tg, M, rfl, _⟩ := h
    rfl
  obtain ⟨a, dx, ix, sz, fm, lz, st, j, r, un, z, tg, M, rfl, hL, hM, q⟩ := h
  have cl_Node := T.Cls_Node
  have at_Node_index := T.A_Node_index
  have at_Node_size := T.A_Node_size
  have at_Node_first_members := T.A_Node_first_members
  have at_Node_lazy := T.A_Node_lazy
  have at_Node_state := T.A_Node_state
  have at_Node_journal := T.A_Node_journal
  have at_Node_record := T.A_Node_record
  have at_Node__make_machine := T.A_Node__make_machine
  have at_Node__untold := T.A_Node__untold
  have at_Node_waiting := T.A_Node_waiting
  have at_Node_wanted := T.A_Node_wanted
  have at_Node_attempt := T.A_Node_attempt
  have at_Node_patience := T.A_Node_patience
  have at_Node_guest := T.A_Node_guest
  have at_Node_seen := T.A_Node_seen
  have at_Node_machine := T.A_Node_machine
  have at_Node__sends := T.A_Node__sends
  have at_Node__letters := T.A_Node__letters
  obtain ⟨hA, tA⟩ := hL.get (i := 0) rfl
  have hM : ∀ t ∈ M.map (·.2.2), t < 9 := fun t ht => by
    obtain ⟨c, hc, e⟩ := List.mem_map.mp ht
    rw [← e]
    exact of_decide_eq_true (List.all_eq_true.mp hM c hc)
  have nin : ∀ t, 9 ≤ t → t ∉ (((a, HO.ins (csOf T).n dx (f9 (csOf T) ix sz fm lz st j r un), 1) :: M) : List Xk.Cell).map (·.2.2) := fun t ht hm => by
    rcases List.mem_cons.mp hm with e | e
    · have : t = 1 := e
      omega
    · have := hM t e
      omega
  refine ⟨_, (pss_cons (ps_fld (pv 0) (pe_lst pa_nil) rfl)
      (pss_cons (ps_fld (pv 0) (pe_non) rfl)
      (pss_cons (ps_fld (pv 0) (pe_non) rfl)
      (pss_cons (ps_fld (pv 0) (pe_meth0 (pv 0) T.Cls_Node T.M_Node__long_patience (ok_Node__long_patience T) (hr.mono (by decide)) T.b_Node__long_patience .nil pass0) rfl)
      (pss_cons (ps_fld (pv 0) (pe_bl) rfl)
      (pss_cons (ps_fld (pv 0) (pe_int) rfl)
      (pss_cons (ps_fld (pv 0) (Xk.pe_fnF0 (f := T.f__law_make) (pv 0) (ok__law_make T) (hr.mono (by decide)) T.F__law_make.kp T.b__law_make pass0) rfl)
      (pss_cons (ps_fld (pv 0) (pe_lst pa_nil) rfl)
      (pss_one (ps_fld (pv 0) (pe_lst pa_nil) rfl)))))))))), ?_⟩
  wtm_at "x0"
  wtm_at "xs"
  intro wt H2 fwt s2 h2
  have hA2 := s2 _ _ hA
  have L2 := (hL.same s2).add (t := 9) (hL.fr fwt) h2 (nin 9 (by decide))
  have m2 : Xk.Mv z K tg (Xk.tgU tg wt z 9) H H2 := Xk.Mv.new s2 fwt h2
  have tA2 := (L2.get (i := 0) rfl).2
  wtm_at "xs"
  refine ⟨a, dx, _, ix, rfl, upd_same, rfl, ?_⟩
  wtm_at "xs"
  refine Xk.x_rFnF upd_same cl_Node at_Node__make_machine rfl ?_
  refine ⟨rfl, fun H3 ma dm ln s3 fma fln nml h3 h4 => ?_⟩
  have L2' := L2.butS (i := 0) s3 rfl (by wtm_at "bm") upd_same
  have m3 := m2.trans (Xk.Mv.butS s3 tA2 hA2 (by wtm_at "bm") upd_same)
  have hA3 := s3 _ _ upd_same
  have L3 := ((L2'.same s3).add (t := 10) (L2'.fr fma) h3 (fun hm => nin 10 (by decide) (by simpa using hm))).add (t := 11) (Xk.not_snoc (L2'.fr fln) nml.symm) h4 (fun hm => nin 11 (by decide) (by simpa using hm))
  have m4 := m3.trans ((Xk.Mv.new (z := z) (i := 10) (tg := Xk.tgU tg wt z 9) s3 fma h3).tag (i := 11) fln h4)
  have tA3 := (L3.get (i := 0) rfl).2
  wtm_at "xs"
  intro sd H4 fsd s4 h5
  have L3' := L3.butS (i := 0) s4 rfl (by wtm_at "bm") upd_same
  have m5 := m4.trans (Xk.Mv.butS s4 tA3 hA3 (by wtm_at "bm") upd_same)
  have hA4 := s4 _ _ upd_same
  have L4 := (L3'.same s4).add (t := 12) (L3'.fr fsd) h5 (fun hm => nin 12 (by decide) (by simpa using hm))
  have m6 := m5.trans (Xk.Mv.new (z := z) (i := 12) s4 fsd h5)
  have tA4 := (L4.get (i := 0) rfl).2
  wtm_at "xs"
  intro lt H5 flt s5 h6
  have L4' := L4.butS (i := 0) s5 rfl (by wtm_at "bm") upd_same
  have m7 := m6.trans (Xk.Mv.butS s5 tA4 hA4 (by wtm_at "bm") upd_same)
  have hA5 := s5 _ _ upd_same
  have L5 := (L4'.same s5).add (t := 13) (L4'.fr flt) h6 (fun hm => nin 13 (by decide) (by simpa using hm))
  have m8 := m7.trans (Xk.Mv.new (z := z) (i := 13) s5 flt h6)
  have tA5 := (L5.get (i := 0) rfl).2
  wtm_at "xs"
  exact q _ _ wt ma dm ln sd lt (m8.trans (Xk.Mv.upd tA5 hA5)) ((L5.upd (i := 0) rfl).eq rfl)
--CUT--
def nd0 (ix sz : Int) (fs : List Int) (lz : Bool) : Nd := { ix := ix, sz := sz, fst := fs, lzy := lz, sta := "up", row := [], prm := (0, 0), acc := none, frm := [], saf := 0, tld := 0, los := [], unt := [], wai := [], wan := none, att := none, pat := 6 + 2 * ix, gst := false, see := 0, lin := [], out := [], ltr := [] }
def sp_Node___init__ (K : PySem.W.Frag) (C : Cs) : Sp := fun vs H Q _ => ∃ (x dx : Addr) (ix sz : Int) (fm : V) (lz : Bool) (z : Nat) (tg : Xk.TgF) (fs : List Int), vs = [.ref x, .int ix, .int sz, fm, .ref C.mf, .bl lz] ∧ Xk.Lay z tg H [(x, .ins C.n dx [], 1)] ∧ Xk.Pk K H 1 fm (dI fs) ∧
  ∀ (H' : Hp) (tg' : Xk.TgF), Xk.Mv z K tg tg' H H' → NdA K C z tg' H' x (nd0 ix sz fs lz) → Q .non H'
theorem ok_Node___init__ (T : Txt K mg) : FnOk P w K mg base CX0 5 T.f_Node___init__ T.d_Node___init__ ["self", "index", "size", "first_members", "make_machine", "lazy"] (sp_Node___init__ K (csOf T)) := by
  refine T.F_Node___init__.ok sc_Node___init__ (fun vs H Q E h => ?_) (fun cdv A outer s H vs Q E hr h => ?_)
  · obtain ⟨x, dx, ix, sz, fm, lz, z, tg, fs, rfl, _⟩ := h
    rfl
  obtain ⟨x, dx, ix, sz, fm, lz, z, tg, fs, rfl, hL, hf, q⟩ := h
  have cl_Node := T.Cls_Node
  have at_Node_index := T.A_Node_index
  have at_Node_size := T.A_Node_size
  have at_Node_first_members := T.A_Node_first_members
  have at_Node_lazy := T.A_Node_lazy
  have at_Node_state := T.A_Node_state
  have at_Node_journal := T.A_Node_journal
  have at_Node_record := T.A_Node_record
  have at_Node__make_machine := T.A_Node__make_machine
  have at_Node__untold := T.A_Node__untold
  have at_Node_waiting := T.A_Node_waiting
  have at_Node_wanted := T.A_Node_wanted
  have at_Node_attempt := T.A_Node_attempt
  have at_Node_patience := T.A_Node_patience
  have at_Node_guest := T.A_Node_guest
  have at_Node_seen := T.A_Node_seen
  have at_Node_machine := T.A_Node_machine
  have at_Node__sends := T.A_Node__sends
  have at_Node__letters := T.A_Node__letters
  obtain ⟨hA, tA⟩ := hL.get (i := 0) rfl
  refine ⟨_, (pss_cons (ps_fld (pv 0) (pv 1) rfl)
      (pss_cons (ps_fld (pv 0) (pv 2) rfl)
      (pss_cons (ps_fld (pv 0) (pv 3) rfl)
      (pss_cons (ps_fld (pv 0) (pv 5) rfl)
      (pss_cons (ps_fld (pv 0) (pe_glob (by rfl) T.g_UP Xk.rel_str) rfl)
      (pss_cons (ps_fld (pv 0) (pe_make0 T.Mk_Journal (ok_Journal___init__ T) (hr.mono (by decide)) (by rfl) T.g_Journal T.b_Journal___init__ .nil pass0) rfl)
      (pss_cons (ps_fld (pv 0) (pe_make0 T.Mk_Record (ok_Record___init__ T) (hr.mono (by decide)) (by rfl) T.g_Record T.b_Record___init__ .nil pass0) rfl)
      (pss_cons (ps_fld (pv 0) (pv 4) rfl)
      (pss_cons (ps_fld (pv 0) (pe_lst pa_nil) rfl)
      (pss_one (ps_expr (pe_meth0 (pv 0) T.Cls_Node T.M_Node__begin_anew (ok_Node__begin_anew T) (hr.mono (by decide)) T.b_Node__begin_anew .nil pass0)))))))))))), ?_⟩
  wtm_at "x0"
  wtm_at "xs"
  refine Xk.x_rMake fun j dj H2 fj fdj ndj s2 ho2 hi2 => ?_
  have L1 := hL.butS (i := 0) s2 rfl (by wtm_at "bm") upd_same
  have m1 := Xk.Mv.butS (K := K) s2 tA hA (by wtm_at "bm") upd_same
  have L2 := (L1.same s2).addR (t := 2) (L1.fr fj) hi2 
  have m2 := m1.trans (Xk.Mv.new (z := z) (i := 2) s2 fj hi2)
  refine ⟨j, dj, rfl, hi2, fun H3 jp js b3 fjp fjs njs h3 hp3 hs3 => ⟨rfl, ?_⟩⟩
  have tj := (L2.get (i := 1) rfl).2
  have L3 := (((L2.butAt (i := 1) rfl b3 h3).addR (t := 3) (L2.fr fjp) hp3)).addR (t := 4) (Xk.not_snoc (L2.fr fjs) njs.symm) hs3 
  have m3 := m2.trans (((Xk.Mv.but tj hi2 b3 h3).tag (i := 3) fjp hp3).tag (i := 4) fjs hs3)
  obtain ⟨hA3, tA3⟩ := L3.get (i := 0) rfl
  wtm_at "xs"
  refine Xk.x_rMake fun r dr H4 fr fdr ndr s4 ho4 hi4 => ?_
  have L3' := L3.butS (i := 0) s4 rfl (by wtm_at "bm") upd_same
  have m3' := m3.trans (Xk.Mv.butS s4 tA3 hA3 (by wtm_at "bm") upd_same)
  have L4 := (L3'.same s4).addR (t := 5) (L3'.fr fr) hi4 
  have m4 := m3'.trans (Xk.Mv.new (z := z) (i := 5) s4 fr hi4)
  refine ⟨r, dr, rfl, hi4, fun H5 rl ac da nb b5 frl fac nra h5 hr5 ha5 hn5 => ⟨rfl, ?_⟩⟩
  have tr := (L4.get (i := 4) rfl).2
  have L5 := (((L4.butAt (i := 4) rfl b5 h5).addR (t := 6) (L4.fr frl) hr5)).addR (t := 7) (Xk.not_snoc (L4.fr fac) nra.symm) ha5 
  have m5 := m4.trans (((Xk.Mv.but tr hi4 b5 h5).tag (i := 6) frl hr5).tag (i := 7) fac ha5)
  obtain ⟨hA5, tA5⟩ := L5.get (i := 0) rfl
  wtm_at "xs"
  intro un H6 fun6 s6 h6
  have L5' := L5.butS (i := 0) s6 rfl (by wtm_at "bm") upd_same
  have m5' := m5.trans (Xk.Mv.butS s6 tA5 hA5 (by wtm_at "bm") upd_same)
  have L6 := (L5'.same s6).addR (t := 8) (L5'.fr fun6) h6 
  have m6 := m5'.trans (Xk.Mv.new (z := z) (i := 8) s6 fun6 h6)
  obtain ⟨hA6, tA6⟩ := L6.get (i := 0) rfl
  wtm_at "xs"
  have L7 := L6.upd (i := 0) (o' := .ins T.C_Node dx (f9 (csOf T) ix sz fm lz "up" j r un)) rfl
  have m7 := m6.trans (Xk.Mv.upd (o' := .ins T.C_Node dx (f9 (csOf T) ix sz fm lz "up" j r un)) tA6 hA6)
  refine ⟨x, dx, ix, sz, fm, lz, "up", j, r, un, z, _, _, rfl, L7.eq rfl, rfl, fun H8 tg8 wt ma dm ln sd lt m8 L8 => ?_⟩
  have hm := m7.trans m8
  refine q H8 tg8 hm ⟨{ dx := dx, dj := dj, dr := dr, da := da, dm := dm, j := j, jp := jp, js := js, r := r, rw := rl, ac := ac, un := un, wt := wt, ma := ma, ln := ln, sd := sd, lt := lt, ps := [], rv := [], uv := [], wv := [], lv := [], sv := [], tv := [], pv := .ref nb, av := .non, wn := .non, fm := fm, t := 0, dt := 0, tp := 0, tq := 0, tb := .non, te := .non, tm := .non, tz := .non }, L8.eq rfl, ⟨rfl, fun i p u e => by cases e⟩, ?_⟩
  exact ⟨Xk.pk_nil, pk_ofB (b := (0, 0)) (hn5 _), Xk.pk_non, Xk.pk_nil, Xk.pk_nil, Xk.pk_non, Xk.pk_nil, Xk.pk_nil, Xk.pk_nil, hf.st hm.st, fun A e => by cases e⟩
--CUT--
theorem Pay.but {z t : Nat} {tg : Xk.TgF} {H H' : Hp} {ps : List Addr} {us : List Up} {a : Addr} (h : Pay z tg H ps us) (ha : Xk.Tg tg a z t) (n : t ≠ 14) (b : Xk.But a H H') : Pay z tg H' ps us := ⟨h.len, fun i p u e1 e2 => by
  have q := h.at_ i p u e1 e2
  exact ⟨b _ _ (Xk.tg_ne q.2 ha (Ne.symm n)) q.1, q.2⟩⟩
/-- the cell at i is changed, whatever else came: same places -/
theorem NdAt.putB {C : Cs} {z i t : Nat} {tg : Xk.TgF} {H H' : Hp} {a x : Addr} {c c' : Nc} {n n' : Nd} {o o' : HO} (h : NdAt K C z tg H a c n) (e : (ndC C a c n)[i]? = some (x, o, t)) (k : Xk.mutO o = true) (nt : t ≠ 14) (b : Xk.But x H H') (h' : H' x = some o')
    (l : (ndC C a c n).set i (x, o', t) = ndC C a c' n') (p : c'.ps = c.ps ∧ n'.frm = n.frm) (v : Vl K H' c n → Vl K H' c' n') : NdAt K C z tg H' a c' n' ∧ Xk.Mv z K tg tg H H' := by
  have g := h.lay.get e
  have m : Xk.Mv z K tg tg H H' := Xk.Mv.but g.2 g.1 b h' k
  refine ⟨⟨(h.lay.butAt e b h').eq l, ?_, v (h.vl.st m.st)⟩, m⟩
  rw [p.1, p.2]
  exact h.pay.but g.2 nt b
def sp_Node__note (K : PySem.W.Frag) (C : Cs) : Sp := fun vs H Q _ => ∃ (a : Addr) (z : Nat) (tg : Xk.TgF) (n : Nd) (uv : V) (u : Up), vs = [.ref a, uv] ∧ NdA K C z tg H a n ∧ Wf n ∧ Xk.Pk K H 39 uv (dU u) ∧ Gd (dU u) ∧ (pl u).length ≤ 40000 ∧
  ∀ (H' : Hp) (tg' : Xk.TgF), Xk.Mv z K tg tg' H H' → NdA K C z tg' H' a (note n u) → Q .non H'
theorem ok_Node__note (T : Txt K mg) : FnOk P w K mg base CX0 49 T.f_Node__note T.d_Node__note ["self", "update"] (sp_Node__note K (csOf T)) := by
  refine T.F_Node__note.ok sc_Node__note (fun vs H Q E h => ?_) (fun cdv A outer s H vs Q E hr h => ?_)
  · obtain ⟨a, z, tg, n, uv, u, rfl, _⟩ := h
    rfl
  obtain ⟨a, z, tg, n, uv, u, rfl, ⟨c, hN⟩, wf, hu, hg, hl, q⟩ := h
  have cl_Node := T.Cls_Node
  have at_Node_index := T.A_Node_index
  have at_Node_size := T.A_Node_size
  have at_Node_first_members := T.A_Node_first_members
  have at_Node_lazy := T.A_Node_lazy
  have at_Node_state := T.A_Node_state
  have at_Node_journal := T.A_Node_journal
  have at_Node_record := T.A_Node_record
  have at_Node__make_machine := T.A_Node__make_machine
  have at_Node__untold := T.A_Node__untold
  have at_Node_waiting := T.A_Node_waiting
  have at_Node_wanted := T.A_Node_wanted
  have at_Node_attempt := T.A_Node_attempt
  have at_Node_patience := T.A_Node_patience
  have at_Node_guest := T.A_Node_guest
  have at_Node_seen := T.A_Node_seen
  have at_Node_machine := T.A_Node_machine
  have at_Node__sends := T.A_Node__sends
  have at_Node__letters := T.A_Node__letters
  obtain ⟨hA, tA⟩ := hN.lay.get (i := 0) rfl
  obtain ⟨hJ, tJ⟩ := hN.lay.get (i := 1) rfl
  obtain ⟨hP, tP⟩ := hN.lay.get (i := 2) rfl
  obtain ⟨hS, tS⟩ := hN.lay.get (i := 3) rfl
  obtain ⟨hR, tR⟩ := hN.lay.get (i := 4) rfl
  obtain ⟨hW, tW⟩ := hN.lay.get (i := 5) rfl
  obtain ⟨hC, tC⟩ := hN.lay.get (i := 6) rfl
  obtain ⟨hU, tU⟩ := hN.lay.get (i := 7) rfl
  obtain ⟨hT, tT⟩ := hN.lay.get (i := 8) rfl
  obtain ⟨hM, tM⟩ := hN.lay.get (i := 9) rfl
  obtain ⟨hL, tL⟩ := hN.lay.get (i := 10) rfl
  obtain ⟨hO, tO⟩ := hN.lay.get (i := 11) rfl
  obtain ⟨hE, tE⟩ := hN.lay.get (i := 12) rfl
  have vl := hN.vl
  obtain ⟨ys, hys⟩ := szs_last n.frm
  refine ⟨_, (pss_cons (ps_expr (pe_meth (Xk.k_fld (K := K) (by rfl) (pv 0) rfl) T.Cls_Journal T.M_Journal_append (ok_Journal_append T) (hr.mono (by decide)) T.b_Journal_append .nil pass0 (pa_cons (pe_call (ok_pack T) (hr.mono (by decide)) (by rfl) T.g_pack T.F_pack.kp T.b_pack .nil pass0 (pa_cons (pv 1) pa_nil)) pa_nil)))
      (pss_one (ps_expr (pe_meth (Xk.k_fld (K := K) (by rfl) (pv 0) rfl) T.Cls_Record T.M_Record_do (ok_Record_do T) (hr.mono (by decide)) T.b_Record_do .nil pass0 (pa_cons (pv 1) pa_nil))))), ?_⟩
  wtm_at "x0"
  wtm_at "xs"
  refine ⟨uv, dU u, 39, rfl, by decide, hu, hg, hl, fun H1 p fp s1 h1 => ?_⟩
  wtm_at "xs"
  have njs : c.jp ≠ c.js := Xk.tg_ne tP tS (by decide)
  have npj : p ≠ c.jp := (Xk.ne_new fp hP).symm
  have lps := hN.pay.len
  have w1 := wf.frm
  have lys : ys.length = n.frm.length := by
    have := congrArg List.length hys
    unfold szs at this
    rw [List.length_map, List.length_range, List.length_append, List.length_singleton] at this
    omega
  refine ⟨c.j, c.dj, c.jp, c.js, _, c.ps.map V.ref, ys, sumz n.frm, p, pl u, rfl, s1 _ _ hJ, s1 _ _ hP, by rw [← hys]; exact s1 _ _ hS, njs, npj, h1, by rw [List.length_map]; omega, by omega, fun H2 qq fq s2 h2 => ?_⟩
  have fq0 : Xk.Fr qq H := Xk.free_back fq s1
  have e1 : c.ps.map V.ref ++ [V.ref qq] = (c.ps ++ [qq]).map V.ref := by rw [List.map_append]; rfl
  have e2 : ys ++ [sumz n.frm] ++ [sumz n.frm + 6 + ((pl u).length : Int)] = szs (n.frm ++ [u]) := by rw [szs_snoc, hys]
  rw [e1, e2]
  have N2 := hN.same (s1.trans s2)
  have L2 := (((N2.lay.tag (t := 14) (hN.lay.fr fq0)).upd (i := 2) (o' := .lst ((c.ps ++ [qq]).map V.ref)) rfl).upd (i := 3) (o' := .lst ((szs (n.frm ++ [u])).map V.int)) rfl)
  have tP2 : Xk.Tg (Xk.tgU tg qq z 14) c.jp z 3 := Xk.tgU_ne (Xk.ne_new fq0 hP) tP
  have tS2 : Xk.Tg (Xk.tgU tg qq z 14) c.js z 4 := Xk.tgU_ne (Xk.ne_new fq0 hS) tS
  have hS2 := (s1.trans s2) _ _ hS
  have m2 : Xk.Mv z K tg (Xk.tgU tg qq z 14) H (upd (upd H2 c.jp (.lst ((c.ps ++ [qq]).map V.ref))) c.js (.lst ((szs (n.frm ++ [u])).map V.int))) :=
    ((Xk.Mv.new (z := z) (i := 14) (s1.trans s2) fq0 h2).trans (Xk.Mv.upd tP2 ((s1.trans s2) _ _ hP))).trans (Xk.Mv.upd tS2 ((upd_ne njs.symm).trans hS2))
  have hy : Pay z (Xk.tgU tg qq z 14) (upd (upd H2 c.jp (.lst ((c.ps ++ [qq]).map V.ref))) c.js (.lst ((szs (n.frm ++ [u])).map V.int))) (c.ps ++ [qq]) (n.frm ++ [u]) := by
    have y2 : Pay z (Xk.tgU tg qq z 14) (upd (upd H2 c.jp (.lst ((c.ps ++ [qq]).map V.ref))) c.js (.lst ((szs (n.frm ++ [u])).map V.int))) c.ps n.frm := (((hN.pay.tag fq0).same (s1.trans s2)).upd tP2 (by decide)).upd tS2 (by decide)
    refine ⟨by rw [List.length_append, List.length_append, lps]; rfl, fun i p u' e1 e2 => ?_⟩
    by_cases hi : i < c.ps.length
    · rw [List.getElem?_append_left hi] at e1
      rw [List.getElem?_append_left (by omega)] at e2
      exact y2.at_ i p u' e1 e2
    · rw [List.getElem?_append_right (by omega)] at e1
      rw [List.getElem?_append_right (by omega)] at e2
      have : i - c.ps.length = 0 := by
        have := Xk.at_lt e1
        rw [List.length_singleton] at this
        omega
      rw [this] at e1
      rw [show i - n.frm.length = 0 by omega] at e2
      cases e1
      cases e2
      have nq1 : qq ≠ c.js := (Xk.ne_new fq0 hS).symm
      have nq2 : qq ≠ c.jp := (Xk.ne_new fq0 hP).symm
      exact ⟨(upd_ne nq1).trans ((upd_ne nq2).trans h2), Xk.tgU_same⟩
  have N3 : NdAt K (csOf T) z (Xk.tgU tg qq z 14) (upd (upd H2 c.jp (.lst ((c.ps ++ [qq]).map V.ref))) c.js (.lst ((szs (n.frm ++ [u])).map V.int))) a { c with ps := c.ps ++ [qq] } { n with frm := n.frm ++ [u] } := ⟨L2.eq rfl, hy, { vl.st m2.st with }⟩
  have hu3 := hu.st m2.st
  clear hy L2 N2 tP2 tS2 hS2 h2 h1 e1 e2
  generalize (upd (upd H2 c.jp (.lst ((c.ps ++ [qq]).map V.ref))) c.js (.lst ((szs (n.frm ++ [u])).map V.int))) = H3 at *
  obtain ⟨hA3, tA3⟩ := N3.lay.get (i := 0) rfl
  obtain ⟨hR3, tR3⟩ := N3.lay.get (i := 4) rfl
  obtain ⟨hW3, tW3⟩ := N3.lay.get (i := 5) rfl
  obtain ⟨hC3, tC3⟩ := N3.lay.get (i := 6) rfl
  have nrc : c.r ≠ c.ac := Xk.tg_ne tR tC (by decide)
  wtm_at "xs"
  refine ⟨c.r, c.dr, c.rw, c.ac, c.da, c.rv, c.pv, c.av, uv, u, rfl, hR3, hW3, hC3, nrc, hu3, by rw [vl.row.len, List.length_map]; have := wf.row; omega, ?_⟩
  cases u with
  | pro s b =>
    intro b' hb
    have hp := N3.put (i := 6) (c' := { c with ps := c.ps ++ [qq], pv := b' }) (n' := note n (.pro s b)) (o' := .ins T.C_Acceptor c.da [("promised", b'), ("accepted", c.av)]) rfl rfl (by decide) rfl ⟨rfl, rfl⟩ (fun v => { v with prm := hb.st (Xk.st_updI hC3) })
    exact q _ _ (m2.trans hp.2) ⟨_, hp.1⟩
  | acc s b e =>
    intro H4 b' t b4 h4 ft p1 p2
    have hp := N3.putB (i := 6) (c' := { c with ps := c.ps ++ [qq], pv := b', av := .ref t }) (n' := note n (.acc s b e)) rfl rfl (by decide) b4 h4 rfl ⟨rfl, rfl⟩ (fun v => { v with prm := p1, acc := p2 })
    exact q _ _ (m2.trans hp.2) ⟨_, hp.1⟩
  | cho s e =>
    intro H4 ac' da' nb e' b4 fa4 h4 hn4 hw4 pe4 hr4
    have m4 : Xk.Mv z K (Xk.tgU tg qq z 14) (Xk.tgU (Xk.tgU tg qq z 14) ac' z 7) H3 H4 := (Xk.Mv.but2 tW3 tR3 hW3 hR3 b4 hw4 hr4).tag (i := 7) fa4 h4
    have L4 := (N3.lay.but2 (i := 5) (j := 4) rfl rfl (by decide) b4 hw4 hr4).rep (i := 6) rfl (N3.lay.fr fa4) h4
    have y4 : Pay z (Xk.tgU (Xk.tgU tg qq z 14) ac' z 7) H4 (c.ps ++ [qq]) (n.frm ++ [.cho s e]) := ⟨N3.pay.len, fun i p u e1 e2 => by
      have x := N3.pay.at_ i p u e1 e2
      exact ⟨b4 _ _ (Xk.tg_ne x.2 tW3 (by decide)) (Xk.tg_ne x.2 tR3 (by decide)) x.1, Xk.tgU_ne (Xk.ne_new fa4 x.1) x.2⟩⟩
    have v4 := N3.vl.st m4.st
    refine q _ _ (m2.trans m4) ⟨{ c with ps := c.ps ++ [qq], rv := c.rv ++ [e'], ac := ac', da := da', pv := .ref nb, av := .non }, L4.eq rfl, y4, { v4 with row := ?_, prm := pk_ofB (b := (0, 0)) (hn4 _), acc := Xk.pk_non }⟩
    show Xk.PkAll K H4 38 (c.rv ++ [e']) ((n.row ++ [e]).map dE)
    rw [List.map_append]
    exact Xk.pk_snoc v4.row pe4
--CUT--
def sp_Node__send (K : PySem.W.Frag) (C : Cs) : Sp := fun vs H Q _ => ∃ (a : Addr) (z : Nat) (tg : Xk.TgF) (n : Nd) (i : Int) (bv : V) (d : PyData), vs = [.ref a, .int i, bv] ∧ NdA K C z tg H a n ∧ n.out.length ≤ 90000 ∧ Xk.Pk K H 41 bv d ∧
  ∀ H', Xk.Mv z K tg tg H H' → NdA K C z tg H' a { n with out := n.out ++ [dM i d] } → Q .non H'
theorem ok_Node__send (T : Txt K mg) : FnOk P w K mg base CX0 1 T.f_Node__send T.d_Node__send ["self", "index", "body"] (sp_Node__send K (csOf T)) := by
  refine T.F_Node__send.ok sc_Node__send (fun vs H Q E h => ?_) (fun cdv A outer s H vs Q E hr h => ?_)
  · obtain ⟨a, z, tg, n, i, bv, d, rfl, _⟩ := h
    rfl
  obtain ⟨a, z, tg, n, i, bv, d, rfl, ⟨c, hN⟩, wf, hb, q⟩ := h
  have cl_Node := T.Cls_Node
  have at_Node_index := T.A_Node_index
  have at_Node_size := T.A_Node_size
  have at_Node_first_members := T.A_Node_first_members
  have at_Node_lazy := T.A_Node_lazy
  have at_Node_state := T.A_Node_state
  have at_Node_journal := T.A_Node_journal
  have at_Node_record := T.A_Node_record
  have at_Node__make_machine := T.A_Node__make_machine
  have at_Node__untold := T.A_Node__untold
  have at_Node_waiting := T.A_Node_waiting
  have at_Node_wanted := T.A_Node_wanted
  have at_Node_attempt := T.A_Node_attempt
  have at_Node_patience := T.A_Node_patience
  have at_Node_guest := T.A_Node_guest
  have at_Node_seen := T.A_Node_seen
  have at_Node_machine := T.A_Node_machine
  have at_Node__sends := T.A_Node__sends
  have at_Node__letters := T.A_Node__letters
  obtain ⟨hA, tA⟩ := hN.lay.get (i := 0) rfl
  obtain ⟨hJ, tJ⟩ := hN.lay.get (i := 1) rfl
  obtain ⟨hP, tP⟩ := hN.lay.get (i := 2) rfl
  obtain ⟨hS, tS⟩ := hN.lay.get (i := 3) rfl
  obtain ⟨hR, tR⟩ := hN.lay.get (i := 4) rfl
  obtain ⟨hW, tW⟩ := hN.lay.get (i := 5) rfl
  obtain ⟨hC, tC⟩ := hN.lay.get (i := 6) rfl
  obtain ⟨hU, tU⟩ := hN.lay.get (i := 7) rfl
  obtain ⟨hT, tT⟩ := hN.lay.get (i := 8) rfl
  obtain ⟨hM, tM⟩ := hN.lay.get (i := 9) rfl
  obtain ⟨hL, tL⟩ := hN.lay.get (i := 10) rfl
  obtain ⟨hO, tO⟩ := hN.lay.get (i := 11) rfl
  obtain ⟨hE, tE⟩ := hN.lay.get (i := 12) rfl
  have vl := hN.vl
  refine ⟨_, (pss_one (ps_expr (pe_bm PySem.F.plainAttrs_list PySem.F.slot_list_append PySem.F.type_list_append mt_append (Xk.k_fld (K := K) (by rfl) (pv 0) rfl) (pa_cons (pe_tup (pa_cons (pv 1) (pa_cons (pv 2) pa_nil))) pa_nil)))), ?_⟩
  wtm_at "x0"
  wtm_at "xs"
  intro p H1 fp s1 h1
  have hO1 := s1 _ _ hO
  have lo := vl.out.len
  wtm_at "xs"
  have pp : Xk.Pk K H1 42 (.ref p) (dM i d) := Xk.pk_tup2 (Xk.st_of h1) Xk.pk_int (hb.same s1)
  have hp := (hN.same s1).put (i := 11) (c' := { c with sv := c.sv ++ [.ref p] }) (n' := { n with out := n.out ++ [dM i d] }) (o' := .lst (c.sv ++ [.ref p])) rfl rfl (by decide) rfl ⟨rfl, rfl⟩ (fun v => { v with out := Xk.pk_snoc v.out (pp.st (Xk.st_updL hO1)) })
  exact q _ ((Xk.Mv.same s1).trans hp.2) ⟨_, hp.1⟩
theorem alls_len (n : Nd) : (alls n).length = n.sz.toNat := by
  unfold alls
  rw [List.length_map, List.length_range]
theorem alls_take {n : Nd} {j : Nat} (h : (j : Int) < n.sz) : (alls n).take (j + 1) = (alls n).take j ++ [(j : Int)] := by
  rw [List.take_add_one]
  congr 1
  unfold alls
  rw [List.getElem?_map, List.getElem?_range (by omega)]
  rfl
def sp_Node__send_to_all (K : PySem.W.Frag) (C : Cs) : Sp := fun vs H Q _ => ∃ (a : Addr) (z : Nat) (tg : Xk.TgF) (n : Nd) (bv : V) (d : PyData), vs = [.ref a, bv] ∧ NdA K C z tg H a n ∧ Wf n ∧ Xk.Pk K H 41 bv d ∧
  ∀ H', Xk.Mv z K tg tg H H' → NdA K C z tg H' a (post n (alls n) d) → Q .non H'
theorem ok_Node__send_to_all (T : Txt K mg) : FnOk P w K mg base CX0 2 T.f_Node__send_to_all T.d_Node__send_to_all ["self", "body"] (sp_Node__send_to_all K (csOf T)) := by
  refine T.F_Node__send_to_all.ok sc_Node__send_to_all (fun vs H Q E h => ?_) (fun cdv A outer s H vs Q E hr h => ?_)
  · obtain ⟨a, z, tg, n, bv, d, rfl, _⟩ := h
    rfl
  obtain ⟨a, z, tg, n, bv, d, rfl, hN0, wf, hb, q⟩ := h
  obtain ⟨c, hN⟩ := id hN0
  have cl_Node := T.Cls_Node
  have at_Node_index := T.A_Node_index
  have at_Node_size := T.A_Node_size
  have at_Node_first_members := T.A_Node_first_members
  have at_Node_lazy := T.A_Node_lazy
  have at_Node_state := T.A_Node_state
  have at_Node_journal := T.A_Node_journal
  have at_Node_record := T.A_Node_record
  have at_Node__make_machine := T.A_Node__make_machine
  have at_Node__untold := T.A_Node__untold
  have at_Node_waiting := T.A_Node_waiting
  have at_Node_wanted := T.A_Node_wanted
  have at_Node_attempt := T.A_Node_attempt
  have at_Node_patience := T.A_Node_patience
  have at_Node_guest := T.A_Node_guest
  have at_Node_seen := T.A_Node_seen
  have at_Node_machine := T.A_Node_machine
  have at_Node__sends := T.A_Node__sends
  have at_Node__letters := T.A_Node__letters
  obtain ⟨hA, tA⟩ := hN.lay.get (i := 0) rfl
  obtain ⟨hJ, tJ⟩ := hN.lay.get (i := 1) rfl
  obtain ⟨hP, tP⟩ := hN.lay.get (i := 2) rfl
  obtain ⟨hS, tS⟩ := hN.lay.get (i := 3) rfl
  obtain ⟨hR, tR⟩ := hN.lay.get (i := 4) rfl
  obtain ⟨hW, tW⟩ := hN.lay.get (i := 5) rfl
  obtain ⟨hC, tC⟩ := hN.lay.get (i := 6) rfl
  obtain ⟨hU, tU⟩ := hN.lay.get (i := 7) rfl
  obtain ⟨hT, tT⟩ := hN.lay.get (i := 8) rfl
  obtain ⟨hM, tM⟩ := hN.lay.get (i := 9) rfl
  obtain ⟨hL, tL⟩ := hN.lay.get (i := 10) rfl
  obtain ⟨hO, tO⟩ := hN.lay.get (i := 11) rfl
  obtain ⟨hE, tE⟩ := hN.lay.get (i := 12) rfl
  have vl := hN.vl
  have w1 := wf.out
  have w2 := wf.sz
  refine ⟨_, (pss_one (ps_for PassesOwn.never rfl (pi_range1 (by rfl) T.m_range (pa_cons (Xk.k_fld (K := K) (by rfl) (pv 0) rfl) pa_nil)) (pg_name (i := 2) sc_Node__send_to_all.nd rfl (Or.inl rfl)) (pss_one (ps_expr (pe_meth (pv 0) T.Cls_Node T.M_Node__send (ok_Node__send T) (hr.mono (by decide)) T.b_Node__send .nil pass0 (pa_cons (pv 2) (pa_cons (pv 1) pa_nil))))))), ?_⟩
  wtm_at "x0"
  wtm_at "xs"
  refine Xk.x_range (fun j σ' H' => Xk.Mv z K tg tg H H' ∧ NdA K (csOf T) z tg H' a (post n ((alls n).take j) d) ∧ ∃ y, σ' = [some (.ref a), some bv, y]) (by omega) ⟨Xk.Mv.refl, ?_, _, rfl⟩ ?_ ?_
  · rw [List.take_zero]
    unfold post
    rw [List.map_nil, List.append_nil]
    exact hN0
  · rintro j σ' H' hj ⟨m, hn, y, rfl⟩
    wtm_at "xs"
    obtain ⟨c2, hN2⟩ := id hn
    have hA2 := (hN2.lay.get (i := 0) rfl).1
    wtm_at "xs"
    refine ⟨a, z, tg, _, j, bv, d, rfl, hn, ?_, hb.st m.st, fun H2 m2 hn2 => ?_⟩
    · show (n.out ++ ((alls n).take j).map fun i => dM i d).length ≤ 90000
      rw [List.length_append, List.length_map, List.length_take]
      omega
    refine ⟨m.trans m2, ?_, _, rfl⟩
    have e : post n ((alls n).take (j + 1)) d = { post n ((alls n).take j) d with out := (post n ((alls n).take j) d).out ++ [dM j d] } := by
      rw [alls_take (by omega)]
      unfold post
      rw [List.map_append, ← List.append_assoc]
      rfl
    rw [e]
    exact hn2
  · rintro σ' H' ⟨m, hn, y, rfl⟩
    wtm_at "xs"
    rw [← alls_len, List.take_length] at hn
    exact q H' m hn
def sp_Node__send_to_others (K : PySem.W.Frag) (C : Cs) : Sp := fun vs H Q _ => ∃ (a : Addr) (z : Nat) (tg : Xk.TgF) (n : Nd) (bv : V) (d : PyData), vs = [.ref a, bv] ∧ NdA K C z tg H a n ∧ Wf n ∧ Xk.Pk K H 41 bv d ∧
  ∀ H', Xk.Mv z K tg tg H H' → NdA K C z tg H' a (post n (oths n) d) → Q .non H'
theorem ok_Node__send_to_others (T : Txt K mg) : FnOk P w K mg base CX0 2 T.f_Node__send_to_others T.d_Node__send_to_others ["self", "body"] (sp_Node__send_to_others K (csOf T)) := by
  refine T.F_Node__send_to_others.ok sc_Node__send_to_others (fun vs H Q E h => ?_) (fun cdv A outer s H vs Q E hr h => ?_)
  · obtain ⟨a, z, tg, n, bv, d, rfl, _⟩ := h
    rfl
  obtain ⟨a, z, tg, n, bv, d, rfl, hN0, wf, hb, q⟩ := h
  obtain ⟨c, hN⟩ := id hN0
  have cl_Node := T.Cls_Node
  have at_Node_index := T.A_Node_index
  have at_Node_size := T.A_Node_size
  have at_Node_first_members := T.A_Node_first_members
  have at_Node_lazy := T.A_Node_lazy
  have at_Node_state := T.A_Node_state
  have at_Node_journal := T.A_Node_journal
  have at_Node_record := T.A_Node_record
  have at_Node__make_machine := T.A_Node__make_machine
  have at_Node__untold := T.A_Node__untold
  have at_Node_waiting := T.A_Node_waiting
  have at_Node_wanted := T.A_Node_wanted
  have at_Node_attempt := T.A_Node_attempt
  have at_Node_patience := T.A_Node_patience
  have at_Node_guest := T.A_Node_guest
  have at_Node_seen := T.A_Node_seen
  have at_Node_machine := T.A_Node_machine
  have at_Node__sends := T.A_Node__sends
  have at_Node__letters := T.A_Node__letters
  obtain ⟨hA, tA⟩ := hN.lay.get (i := 0) rfl
  obtain ⟨hJ, tJ⟩ := hN.lay.get (i := 1) rfl
  obtain ⟨hP, tP⟩ := hN.lay.get (i := 2) rfl
  obtain ⟨hS, tS⟩ := hN.lay.get (i := 3) rfl
  obtain ⟨hR, tR⟩ := hN.lay.get (i := 4) rfl
  obtain ⟨hW, tW⟩ := hN.lay.get (i := 5) rfl
  obtain ⟨hC, tC⟩ := hN.lay.get (i := 6) rfl
  obtain ⟨hU, tU⟩ := hN.lay.get (i := 7) rfl
  obtain ⟨hT, tT⟩ := hN.lay.get (i := 8) rfl
  obtain ⟨hM, tM⟩ := hN.lay.get (i := 9) rfl
  obtain ⟨hL, tL⟩ := hN.lay.get (i := 10) rfl
  obtain ⟨hO, tO⟩ := hN.lay.get (i := 11) rfl
  obtain ⟨hE, tE⟩ := hN.lay.get (i := 12) rfl
  have vl := hN.vl
  have w1 := wf.out
  have w2 := wf.sz
  refine ⟨_, (pss_one (ps_for PassesOwn.never rfl (pi_range1 (by rfl) T.m_range (pa_cons (Xk.k_fld (K := K) (by rfl) (pv 0) rfl) pa_nil)) (pg_name (i := 2) sc_Node__send_to_others.nd rfl (Or.inl rfl)) (pss_one (ps_if (pt_cmpR op_ne (pv 2) (Xk.k_fld (K := K) (by rfl) (pv 0) rfl) (nomark _)) (pss_one (ps_expr (pe_meth (pv 0) T.Cls_Node T.M_Node__send (ok_Node__send T) (hr.mono (by decide)) T.b_Node__send .nil pass0 (pa_cons (pv 2) (pa_cons (pv 1) pa_nil))))) pss_nil)))), ?_⟩
  wtm_at "x0"
  wtm_at "xs"
  refine Xk.x_range (fun j σ' H' => Xk.Mv z K tg tg H H' ∧ NdA K (csOf T) z tg H' a (post n (((alls n).take j).filter fun i => decide (i ≠ n.ix)) d) ∧ ∃ y, σ' = [some (.ref a), some bv, y]) (by omega) ⟨Xk.Mv.refl, ?_, _, rfl⟩ ?_ ?_
  · rw [List.take_zero]
    unfold post
    rw [List.filter_nil, List.map_nil, List.append_nil]
    exact hN0
  · rintro j σ' H' hj ⟨m, hn, y, rfl⟩
    obtain ⟨c2, hN2⟩ := id hn
    have hA2 := (hN2.lay.get (i := 0) rfl).1
    wtm_at "xs"
    have e0 : ((alls n).take (j + 1)).filter (fun i => decide (i ≠ n.ix)) = ((alls n).take j).filter (fun i => decide (i ≠ n.ix)) ++ if (j : Int) = n.ix then [] else [(j : Int)] := by
      rw [alls_take (by omega), List.filter_append]
      by_cases hx : (j : Int) = n.ix
      · rw [if_pos hx, List.filter_cons_of_neg (by rw [decide_eq_false (fun z => z hx)]; decide)]
        rfl
      · rw [if_neg hx, List.filter_cons_of_pos (p := fun i => decide (i ≠ n.ix)) (decide_eq_true hx)]
        rfl
    by_cases hx : (j : Int) = n.ix
    · rw [if_pos hx, List.append_nil] at e0
      have hxv : V.int (j : Int) = V.int n.ix := by rw [hx]
      wtm_at "xs"
      exact ⟨m, by rw [e0]; exact hn, _, rfl⟩
    · rw [if_neg hx] at e0
      have hxv : ¬ (V.int (j : Int) = V.int n.ix) := fun e => hx (by injection e)
      wtm_at "xs"
      refine ⟨a, z, tg, _, j, bv, d, rfl, hn, ?_, hb.st m.st, fun H2 m2 hn2 => ?_⟩
      · show (n.out ++ (((alls n).take j).filter fun i => decide (i ≠ n.ix)).map fun i => dM i d).length ≤ 90000
        have := List.length_filter_le (fun i => decide (i ≠ n.ix)) ((alls n).take j)
        rw [List.length_take] at this
        rw [List.length_append, List.length_map]
        omega
      refine ⟨m.trans m2, ?_, _, rfl⟩
      rw [e0]
      have e : post n (((alls n).take j).filter (fun i => decide (i ≠ n.ix)) ++ [(j : Int)]) d = { post n (((alls n).take j).filter (fun i => decide (i ≠ n.ix))) d with out := (post n (((alls n).take j).filter (fun i => decide (i ≠ n.ix))) d).out ++ [dM j d] } := by
        unfold post
        rw [List.map_append, ← List.append_assoc]
        rfl
      rw [e]
      exact hn2
  · rintro σ' H' ⟨m, hn, y, rfl⟩
    wtm_at "xs"
    rw [← alls_len, List.take_length] at hn
    exact q H' m hn
--CUT--
theorem intD_len {i : Int} (h1 : -1000000000000000000 ≤ i) (h2 : i ≤ 1000000000000000000) : (intD i).length ≤ 11 := by
  have big : (1000000000000000001 : Nat) < 128 ^ 10 := by decide
  by_cases c : 0 ≤ i
  · rw [intD_pos c, List.length_cons]
    have := sevens_len (k := 9) (n := i.toNat) (by omega)
    omega
  · rw [intD_neg c, List.length_cons]
    have := sevens_len (k := 9) (n := (-i - 1).toNat) (by omega)
    omega
theorem gdAll_snoc {d : PyData} (h : Gd d) : ∀ {ds : List PyData}, GdAll ds → GdAll (ds ++ [d])
  | [], _ => by
    rw [List.nil_append, GdAll]
    exact ⟨h, by rw [GdAll]; trivial⟩
  | e :: ds, h2 => by
    rw [GdAll] at h2
    rw [List.cons_append, GdAll]
    exact ⟨h2.1, gdAll_snoc h h2.2⟩
theorem str_len {z : Str} (h : z.length ≤ 1000) : (packD (.str z)).length ≤ 3 + z.length := by
  have h2 := sevens_len (k := 1) (n := z.length) (by omega)
  have h3 : z.cps.toList.length = z.length := rfl
  rw [packD, List.length_cons, List.length_append, List.length_map, h3]
  omega
theorem str_len1 {z : Str} (h : z.length < 128) : (packD (.str z)).length = 2 + z.length := by
  have h3 : z.cps.toList.length = z.length := rfl
  rw [packD, List.length_cons, List.length_append, List.length_map, h3, sevens_lt h, List.length_singleton]
  omega
theorem tup_len {ds : List PyData} (h : ds.length < 128) : (packD (.tuple ds)).length = 2 + (packAll ds).length := by
  rw [packD, List.length_cons, List.length_append, sevens_lt h, List.length_singleton]
  omega
theorem gd_B {b : Bl} (h : -1000000000 ≤ b.1 ∧ b.1 ≤ 1000000000 ∧ -1000000000 ≤ b.2 ∧ b.2 ≤ 1000000000) : Gd (dB b) := by
  unfold dB
  rw [Gd, GdAll, GdAll, GdAll, Gd, Gd]
  exact ⟨Nat.le_of_ble_eq_true rfl, ⟨by omega, by omega⟩, ⟨by omega, by omega⟩, trivial⟩
theorem len_B {b : Bl} (h : -1000000000 ≤ b.1 ∧ b.1 ≤ 1000000000 ∧ -1000000000 ≤ b.2 ∧ b.2 ≤ 1000000000) : (packD (dB b)).length ≤ 24 := by
  unfold dB
  rw [tup_len (Nat.le_of_ble_eq_true rfl), packAll, packAll, packAll, packD, packD, List.length_append, List.length_append]
  have h1 := intD_len (i := b.1) (by omega) (by omega)
  have h2 := intD_len (i := b.2) (by omega) (by omega)
  rw [List.length_nil]
  omega
theorem gd_pro {s : Int} {b : Bl} (hs : -1000000000 ≤ s ∧ s ≤ 1000000000) (h : -1000000000 ≤ b.1 ∧ b.1 ≤ 1000000000 ∧ -1000000000 ≤ b.2 ∧ b.2 ≤ 1000000000) : Gd (dU (.pro s b)) ∧ (pl (.pro s b)).length ≤ 60 := by
  refine ⟨?_, ?_⟩
  · unfold dU
    rw [Gd, GdAll, GdAll, GdAll, GdAll, Gd, Gd]
    exact ⟨Nat.le_of_ble_eq_true rfl, by decide +kernel, ⟨by omega, by omega⟩, gd_B h, trivial⟩
  · unfold pl dU
    rw [tup_len (Nat.le_of_ble_eq_true rfl), packAll, packAll, packAll, packAll, List.length_append, List.length_append, List.length_append, str_len1 (by decide +kernel), packD]
    have h1 := intD_len (i := s) (by omega) (by omega)
    have h2 := len_B h
    have h3 : ("promise" : Str).length = 7 := by decide +kernel
    rw [List.length_nil]
    omega
def sp_Node__begin (K : PySem.W.Frag) (C : Cs) : Sp := fun vs H Q _ => ∃ (a : Addr) (z : Nat) (tg : Xk.TgF) (n : Nd), vs = [.ref a] ∧ NdA K C z tg H a n ∧ Wf n ∧ n.frm.length ≤ 7999 ∧ (top n ≥ 9999 → Q (.bl false) H) ∧
  (top n < 9999 → ∀ (H' : Hp) (tg' : Xk.TgF), Xk.Mv z K tg tg' H H' → NdA K C z tg' H' a (begun n) → Q (.bl true) H')
theorem ok_Node__begin (T : Txt K mg) : FnOk P w K mg base CX0 50 T.f_Node__begin T.d_Node__begin ["self"] (sp_Node__begin K (csOf T)) := by
  refine T.F_Node__begin.ok sc_Node__begin (fun vs H Q E h => ?_) (fun cdv A outer s H vs Q E hr h => ?_)
  · obtain ⟨a, z, tg, n, rfl, _⟩ := h
    rfl
  obtain ⟨a, z, tg, n, rfl, ⟨c, hN⟩, wf, hf, q1, q2⟩ := h
  have cl_Node := T.Cls_Node
  have at_Node_index := T.A_Node_index
  have at_Node_size := T.A_Node_size
  have at_Node_first_members := T.A_Node_first_members
  have at_Node_lazy := T.A_Node_lazy
  have at_Node_state := T.A_Node_state
  have at_Node_journal := T.A_Node_journal
  have at_Node_record := T.A_Node_record
  have at_Node__make_machine := T.A_Node__make_machine
  have at_Node__untold := T.A_Node__untold
  have at_Node_waiting := T.A_Node_waiting
  have at_Node_wanted := T.A_Node_wanted
  have at_Node_attempt := T.A_Node_attempt
  have at_Node_patience := T.A_Node_patience
  have at_Node_guest := T.A_Node_guest
  have at_Node_seen := T.A_Node_seen
  have at_Node_machine := T.A_Node_machine
  have at_Node__sends := T.A_Node__sends
  have at_Node__letters := T.A_Node__letters
  have cl_Record := T.Cls_Record
  have at_Record_row := T.A_Record_row
  have at_Record_acceptor := T.A_Record_acceptor
  have cl_Acceptor := T.Cls_Acceptor
  have at_Acceptor_promised := T.A_Acceptor_promised
  have at_Acceptor_accepted := T.A_Acceptor_accepted
  obtain ⟨hA, tA⟩ := hN.lay.get (i := 0) rfl
  obtain ⟨hJ, tJ⟩ := hN.lay.get (i := 1) rfl
  obtain ⟨hP, tP⟩ := hN.lay.get (i := 2) rfl
  obtain ⟨hS, tS⟩ := hN.lay.get (i := 3) rfl
  obtain ⟨hR, tR⟩ := hN.lay.get (i := 4) rfl
  obtain ⟨hW, tW⟩ := hN.lay.get (i := 5) rfl
  obtain ⟨hC, tC⟩ := hN.lay.get (i := 6) rfl
  obtain ⟨hU, tU⟩ := hN.lay.get (i := 7) rfl
  obtain ⟨hT, tT⟩ := hN.lay.get (i := 8) rfl
  obtain ⟨hM, tM⟩ := hN.lay.get (i := 9) rfl
  obtain ⟨hL, tL⟩ := hN.lay.get (i := 10) rfl
  obtain ⟨hO, tO⟩ := hN.lay.get (i := 11) rfl
  obtain ⟨hE, tE⟩ := hN.lay.get (i := 12) rfl
  have vl := hN.vl
  have w1 := wf.row
  have w2 := wf.see
  have w3 := wf.prm
  have w4 := wf.ix
  obtain ⟨pb, epb, hpb⟩ := pk_B vl.prm
  refine ⟨_, (pss_cons (ps_set (i := 1) sc_Node__begin.nd rfl (Or.inl rfl) (pe_call (ok_next_ballot T) (hr.mono (by decide)) (by rfl) T.g_next_ballot T.F_next_ballot.kp T.b_next_ballot .nil pass0 (pa_cons (pe_callB (Xk.call_nMax2 rfl) (by rfl) T.m_max (by decide +kernel) (pa_cons (Xk.k_fld (K := K) (by rfl) (pv 0) rfl) (pa_cons (pe_ix (Xk.k_ixT (K := K) (by rfl)) (Xk.k_fld (K := K) (by rfl) (Xk.k_fld (K := K) (by rfl) (Xk.k_fld (K := K) (by rfl) (pv 0) rfl) rfl) rfl) (pe_int) (fun _ _ => rfl)) pa_nil))) (pa_cons (Xk.k_fld (K := K) (by rfl) (pv 0) rfl) pa_nil))))
      (Evl.pss_cut (ps_if (pt_cmpR Xk.op_nIsN (pv 1) (pe_non) (nomark _)) (pss_one (ps_ret (pe_bl))) pss_nil)
      (pss_cons (ps_set (i := 2) sc_Node__begin.nd rfl (Or.inl rfl) (pe_op op_add (pe_prop (pv 0) T.Cls_Node T.P_Node_upto (ok_Node_upto T) (hr.mono (by decide)) T.b_Node_upto .nil pass0 rfl) (pe_int)))
      (pss_cons (ps_expr (pe_meth (pv 0) T.Cls_Node T.M_Node__note (ok_Node__note T) (hr.mono (by decide)) T.b_Node__note .nil pass0 (pa_cons (pe_tup (pa_cons (pe_glob (by rfl) T.g_PROMISE Xk.rel_str) (pa_cons (pv 2) (pa_cons (pv 1) pa_nil)))) pa_nil)))
      (pss_cons (ps_set (i := 3) sc_Node__begin.nd rfl (Or.inl rfl) (pe_ifExp (pt_cmpR Xk.op_nIsN (Xk.k_fld (K := K) (by rfl) (pv 0) rfl) (pe_non) (nomark _)) (pe_call (ok_batch_of T) (hr.mono (by decide)) (by rfl) T.g_batch_of T.F_batch_of.kp T.b_batch_of .nil pass0 (pa_cons (Xk.k_fld (K := K) (by rfl) (pv 0) rfl) pa_nil)) (pe_tup (pa_cons (pe_glob (by rfl) T.g_MEMBERS Xk.rel_str) (pa_cons (Xk.k_fld (K := K) (by rfl) (pv 0) rfl) pa_nil)))))
      (pss_cons (ps_fld (pv 0) (pe_make T.Mk_Attempt (ok_Attempt___init__ T) (hr.mono (by decide)) (by rfl) T.g_Attempt T.b_Attempt___init__ .nil pass0 (pa_cons (pv 1) (pa_cons (pv 3) (pa_cons (pe_prop (pv 0) T.Cls_Node T.P_Node_members_now (ok_Node_members_now T) (hr.mono (by decide)) T.b_Node_members_now .nil pass0 rfl) pa_nil)))) rfl)
      (pss_cons (ps_fld (pv 0) (pe_bl) rfl)
      (pss_cons (ps_fld (pv 0) (pe_meth0 (pv 0) T.Cls_Node T.M_Node__long_patience (ok_Node__long_patience T) (hr.mono (by decide)) T.b_Node__long_patience .nil pass0) rfl)
      (pss_cons (ps_expr (pe_meth (pv 0) T.Cls_Node T.M_Node__send_to_all (ok_Node__send_to_all T) (hr.mono (by decide)) T.b_Node__send_to_all .nil pass0 (pa_cons (pe_tup (pa_cons (pe_str) (pa_cons (pv 2) (pa_cons (pv 1) pa_nil)))) pa_nil)))
      (pss_one (ps_ret (pe_bl)))))))))))), ?_⟩
  wtm_at "x0"
  wtm_at "xs"
  rw [epb]
  wtm_at "xs"
  refine ⟨top n, n.ix, rfl, fun h => ?_, fun h H1 p s1 h1 => ?_⟩
  · wtm_at "xs"
    refine Xk.x_nocut ?_
    wtm_at "xs"
    exact q1 h
  wtm_at "xs"
  refine fall ?_ ?_
  · wtm_at "xs"
    exact ⟨rfl, rfl⟩
  wtm_at "xs"
  refine ⟨a, z, tg, n, rfl, ⟨c, hN.same s1⟩, ?_⟩
  wtm_at "xs"
  intro p2 H2 fp2 s2 h2
  wtm_at "xs"
  obtain ⟨b, hb⟩ : ∃ b : Bl, b = (top n + 1, n.ix) := ⟨_, rfl⟩
  have ht : 0 ≤ top n := by unfold top; omega
  have hbb : 0 ≤ b.1 ∧ b.1 ≤ 100000 ∧ 0 ≤ b.2 ∧ b.2 ≤ 100 := by rw [hb]; exact ⟨by show (0 : Int) ≤ top n + 1; omega, by show top n + 1 ≤ 100000; omega, w4.1, w4.2⟩
  have pb2 : Xk.Pk K H2 1 (.ref p) (dB b) := pk_ofB (b := b) (Xk.st_of (by rw [hb]; exact s2 _ _ h1))
  have hgd := gd_pro (s := slot n) (b := b) (by unfold slot; omega) (by omega)
  refine ⟨a, z, tg, n, .ref p2, .pro (slot n) b, rfl, ⟨c, hN.same (s1.trans s2)⟩, wf, Xk.pk_tup3 (Xk.st_of h2) Xk.pk_str Xk.pk_int (pb2.mono (by decide)), hgd.1, by have := hgd.2; omega, fun H3 tg3 m3 ⟨c3, hN3⟩ => ?_⟩
  obtain ⟨hA3, tA3⟩ := hN3.lay.get (i := 0) rfl
  obtain ⟨hJ3, tJ3⟩ := hN3.lay.get (i := 1) rfl
  obtain ⟨hP3, tP3⟩ := hN3.lay.get (i := 2) rfl
  obtain ⟨hS3, tS3⟩ := hN3.lay.get (i := 3) rfl
  obtain ⟨hR3, tR3⟩ := hN3.lay.get (i := 4) rfl
  obtain ⟨hW3, tW3⟩ := hN3.lay.get (i := 5) rfl
  obtain ⟨hC3, tC3⟩ := hN3.lay.get (i := 6) rfl
  obtain ⟨hU3, tU3⟩ := hN3.lay.get (i := 7) rfl
  obtain ⟨hT3, tT3⟩ := hN3.lay.get (i := 8) rfl
  obtain ⟨hM3, tM3⟩ := hN3.lay.get (i := 9) rfl
  obtain ⟨hL3, tL3⟩ := hN3.lay.get (i := 10) rfl
  obtain ⟨hO3, tO3⟩ := hN3.lay.get (i := 11) rfl
  obtain ⟨hE3, tE3⟩ := hN3.lay.get (i := 12) rfl
  have vl3 := hN3.vl
  refine Xk.x_sasg ?_
  refine x_mid (fun v H4 => ∃ p4, v = .ref p4 ∧ Same H3 H4 ∧ Xk.Pk K H4 38 (.ref p4) (dE (entry n))) (fun Q' k => ?_) ?_
  · have hw := vl3.wan
    have e0 : (note n (.pro (slot n) b)).wan = n.wan := rfl
    cases ew : n.wan with
    | none =>
      rw [e0, ew] at hw
      have ew2 : c3.wn = .non := pk_nonD hw
      wtm_at "xs"
      refine ⟨c3.wt, c3.wv, n.wai, rfl, hT3, vl3.wai, by rw [vl3.wai.len]; have := wf.wai; show n.wai.length ≤ 9000; omega, fun H4 p4 s4 h4 => k _ _ ⟨p4, rfl, s4, ?_⟩⟩
      unfold entry
      rw [ew]
      exact h4
    | some ms =>
      rw [e0, ew] at hw
      obtain ⟨pm, ew2, hpm⟩ := pk_I hw
      have ew3 : ¬ (c3.wn = .non) := fun e => by rw [ew2] at e; cases e
      wtm_at "xs"
      intro p4 H4 fp4 s4 h4
      refine k _ _ ⟨p4, rfl, s4, ?_⟩
      unfold entry
      rw [ew]
      exact Xk.pk_tup2 (Xk.st_of h4) Xk.pk_str ((hw.same s4).mono (by decide))
  rintro _ H4 ⟨p4, rfl, s4, pe4⟩
  have hA4 := s4 _ _ hA3
  wtm_at "xs"
  refine ⟨a, z, tg3, note n (.pro (slot n) b), rfl, ⟨c3, hN3.same s4⟩, wf.begun1 hf hbb (note n (.pro (slot n) b)).att _ _, fun vm pm => ?_⟩
  wtm_at "xs"
  refine Xk.x_rMake fun t dt H5 ft fdt ndt s5 ho5 hi5 => ?_
  refine ⟨t, dt, .ref p, .ref p4, vm, rfl, hi5, fun H6 tp tq b6 ftp ftq ntq h6 hp6 hq6 => ⟨rfl, ?_⟩⟩
  have L0 := (hN3.same s4).lay.left
  have L1 := (L0.same s5).addR (t := 15) (L0.fr ft) hi5
  have t15 := (L1.get (i := 13) rfl).2
  have L2 := ((L1.butAt (i := 13) rfl b6 h6).addR (t := 16) (L1.fr ftp) hp6).addR (t := 17) (Xk.not_snoc (L1.fr ftq) ntq.symm) hq6
  obtain ⟨hA6, tA6⟩ := L2.get (i := 0) rfl
  wtm_at "xs"
  refine ⟨a, _, _, n.ix, rfl, upd_same, rfl, ?_⟩
  wtm_at "xs"
  intro p7 H7 fp7 s7 h7
  wtm_at "xs"
  obtain ⟨c4, hc4⟩ : ∃ c4 : Nc, c4 = { c3 with t := t, dt := dt, tp := tp, tq := tq, tb := .ref p, te := .ref p4, tm := vm, tz := .non } := ⟨_, rfl⟩
  obtain ⟨n2, hn2⟩ : ∃ n2 : Nd, n2 = { note n (.pro (slot n) b) with att := some ⟨b, entry n, mbs n, "asking", [], [], none⟩, gst := false, pat := lpat n } := ⟨_, rfl⟩
  have m6 : Xk.Mv z K tg3 (Xk.tgU (Xk.tgU (Xk.tgU tg3 t z 15) tp z 16) tq z 17) H3 H6 := ((Xk.Mv.same s4).trans (Xk.Mv.new (z := z) (i := 15) s5 ft hi5)).trans (((Xk.Mv.but t15 hi5 b6 h6).tag (i := 16) ftp hp6).tag (i := 17) ftq hq6)
  have m7 := (m6.trans (Xk.Mv.butS s7 tA6 hA6 (by wtm_at "bm") upd_same)).trans (Xk.Mv.same s7)
  have L3 : Xk.Lay z (Xk.tgU (Xk.tgU (Xk.tgU tg3 t z 15) tp z 16) tq z 17) H7 (ndC (csOf T) a c4 n2) := by
    rw [hc4, hn2]
    exact ((L2.butS (i := 0) s7 rfl (by wtm_at "bm") upd_same).same s7).eq rfl
  have b7 : Xk.But a H6 H7 := by
    refine Xk.but_trans ?_ (Xk.but_same s7)
    wtm_at "bm"
  have y7 : Pay z (Xk.tgU (Xk.tgU (Xk.tgU tg3 t z 15) tp z 16) tq z 17) H7 c4.ps n2.frm := by
    rw [hc4, hn2]
    refine hN3.pay.of fun x o tx hx => ?_
    have x4 := s4 _ _ hx
    have n1 : x ≠ t := Xk.ne_new ft x4
    have x5 := s5 _ _ x4
    have n3 : x ≠ tp := Xk.ne_new ftp x5
    have n4 : x ≠ tq := Xk.ne_new ftq x5
    have x6 := b6 _ _ n1 x5
    exact ⟨b7 _ _ (Xk.tg_ne tx tA3 (by decide)) x6, Xk.tgU_ne n4 (Xk.tgU_ne n3 (Xk.tgU_ne n1 tx))⟩
  have v3 := vl3.st m7.st
  have pb7 := (((pb2.st m3.st).st m7.st))
  have pe7 : Xk.Pk K H7 38 (.ref p4) (dE (entry n)) := pe4.st (((Xk.tt_same s5).trans (Xk.tt_butO hi5 b6)).trans (Xk.tt_butO hA6 b7))
  have pm7 : Xk.Pk K H7 1 vm (dI (mbs n)) := pm.st (((Xk.tt_same s5).trans (Xk.tt_butO hi5 b6)).trans (Xk.tt_butO hA6 b7))
  have v7 : Vl K H7 c4 n2 := by
    rw [hc4, hn2]
    have ha : ∀ A : Att, some (⟨b, entry n, mbs n, "asking", [], [], none⟩ : Att) = some A → Xk.Pk K H7 1 (.ref p) (dB A.bal) ∧ Xk.Pk K H7 38 (.ref p4) (dE A.ent) ∧ Xk.Pk K H7 1 vm (dI A.mbs) ∧ Xk.Pk K H7 39 .non (dA A.bnd) := by
      rintro A e
      cases e
      exact ⟨pb7, pe7, pm7, Xk.pk_non⟩
    exact { v3 with att := ha }
  refine ⟨a, z, _, n2, .ref p7, .tuple [.str "ask", .int (slot n), dB b], rfl, ⟨c4, L3, y7, v7⟩, by rw [hn2]; exact wf.begun1 hf hbb _ _ _, Xk.pk_tup3 (Xk.st_of h7) Xk.pk_str Xk.pk_int (pb7.mono (by decide)), fun H8 m8 hn8 => ?_⟩
  wtm_at "xs"
  have e : begun n = post n2 (alls n2) (.tuple [.str "ask", .int (slot n), dB b]) := by
    rw [hn2, hb]
    rfl
  exact q2 h H8 _ (((((Xk.Mv.same (s1.trans s2)).trans m3).trans m7)).trans m8) (by rw [e]; exact hn8)
--CUT--
def sp_Node__begin_if_free (K : PySem.W.Frag) (C : Cs) : Sp := fun vs H Q _ => ∃ (a : Addr) (z : Nat) (tg : Xk.TgF) (n : Nd), vs = [.ref a] ∧ NdA K C z tg H a n ∧ Wf n ∧ n.frm.length ≤ 7999 ∧
  ∀ (H' : Hp) (tg' : Xk.TgF), Xk.Mv z K tg tg' H H' → NdA K C z tg' H' a (free n) → Q .non H'
theorem ok_Node__begin_if_free (T : Txt K mg) : FnOk P w K mg base CX0 51 T.f_Node__begin_if_free T.d_Node__begin_if_free ["self"] (sp_Node__begin_if_free K (csOf T)) := by
  refine T.F_Node__begin_if_free.ok sc_Node__begin_if_free (fun vs H Q E h => ?_) (fun cdv A outer s H vs Q E hr h => ?_)
  · obtain ⟨a, z, tg, n, rfl, _⟩ := h
    rfl
  obtain ⟨a, z, tg, n, rfl, ⟨c, hN⟩, wf, hf, q⟩ := h
  have cl_Node := T.Cls_Node
  have at_Node_index := T.A_Node_index
  have at_Node_size := T.A_Node_size
  have at_Node_first_members := T.A_Node_first_members
  have at_Node_lazy := T.A_Node_lazy
  have at_Node_state := T.A_Node_state
  have at_Node_journal := T.A_Node_journal
  have at_Node_record := T.A_Node_record
  have at_Node__make_machine := T.A_Node__make_machine
  have at_Node__untold := T.A_Node__untold
  have at_Node_waiting := T.A_Node_waiting
  have at_Node_wanted := T.A_Node_wanted
  have at_Node_attempt := T.A_Node_attempt
  have at_Node_patience := T.A_Node_patience
  have at_Node_guest := T.A_Node_guest
  have at_Node_seen := T.A_Node_seen
  have at_Node_machine := T.A_Node_machine
  have at_Node__sends := T.A_Node__sends
  have at_Node__letters := T.A_Node__letters
  obtain ⟨hA, tA⟩ := hN.lay.get (i := 0) rfl
  obtain ⟨hJ, tJ⟩ := hN.lay.get (i := 1) rfl
  obtain ⟨hP, tP⟩ := hN.lay.get (i := 2) rfl
  obtain ⟨hS, tS⟩ := hN.lay.get (i := 3) rfl
  obtain ⟨hR, tR⟩ := hN.lay.get (i := 4) rfl
  obtain ⟨hW, tW⟩ := hN.lay.get (i := 5) rfl
  obtain ⟨hC, tC⟩ := hN.lay.get (i := 6) rfl
  obtain ⟨hU, tU⟩ := hN.lay.get (i := 7) rfl
  obtain ⟨hT, tT⟩ := hN.lay.get (i := 8) rfl
  obtain ⟨hM, tM⟩ := hN.lay.get (i := 9) rfl
  obtain ⟨hL, tL⟩ := hN.lay.get (i := 10) rfl
  obtain ⟨hO, tO⟩ := hN.lay.get (i := 11) rfl
  obtain ⟨hE, tE⟩ := hN.lay.get (i := 12) rfl
  have vl := hN.vl
  refine ⟨_, (pss_one (ps_if (PW.pt (pw_and (pt_cmpR Xk.op_nIsN (Xk.k_fld (K := K) (by rfl) (pv 0) rfl) (pe_non) (nomark _)) (pw_and1 (pt_not (pt_val (Xk.k_fld (K := K) (by rfl) (pv 0) rfl)))))) (pss_one (ps_expr (pe_meth0 (pv 0) T.Cls_Node T.M_Node__begin (ok_Node__begin T) (hr.mono (by decide)) T.b_Node__begin .nil pass0))) pss_nil)), ?_⟩
  wtm_at "x0"
  cases e : n.att with
  | some A =>
    have ea : ¬ (atV c n.att = .non) := by rw [e]; intro z; cases z
    wtm_at "xs"
    have ef : free n = n := by unfold free; rw [e]; rfl
    exact q H tg Xk.Mv.refl (by rw [ef]; exact ⟨c, hN⟩)
  | none =>
    have ea : atV c n.att = .non := by rw [e]; rfl
    wtm_at "xs"
    cases eg : n.gst with
    | true =>
      wtm_at "xs"
      have ef : free n = n := by unfold free; rw [e, eg]; rfl
      exact q H tg Xk.Mv.refl (by rw [ef]; exact ⟨c, hN⟩)
    | false =>
      wtm_at "xs"
      have ef : free n = begin_ n := by unfold free; rw [e, eg]; rfl
      refine ⟨a, z, tg, n, rfl, ⟨c, hN⟩, wf, hf, fun h => ?_, fun h H' tg' m hn => ?_⟩
      · wtm_at "xs"
        exact q H tg Xk.Mv.refl (by rw [ef]; unfold begin_; rw [if_pos h]; exact ⟨c, hN⟩)
      · wtm_at "xs"
        exact q H' tg' m (by rw [ef]; unfold begin_; rw [if_neg (by omega)]; exact hn)
def sp_Node_offer (K : PySem.W.Frag) (C : Cs) : Sp := fun vs H Q _ => ∃ (a : Addr) (z : Nat) (tg : Xk.TgF) (n : Nd) (v : V) (d : PyData), vs = [.ref a, v] ∧ NdA K C z tg H a n ∧ Wf n ∧ n.frm.length ≤ 7999 ∧ Xk.Pk K H 36 v d ∧ (refu n d = true → Q (.bl false) H) ∧
  (refu n d = false → ∀ (H' : Hp) (tg' : Xk.TgF), Xk.Mv z K tg tg' H H' → NdA K C z tg' H' a (endS (offerL n d)) → Q (.bl true) H')
theorem ok_Node_offer (T : Txt K mg) : FnOk P w K mg base CX0 52 T.f_Node_offer T.d_Node_offer ["self", "command"] (sp_Node_offer K (csOf T)) := by
  refine T.F_Node_offer.ok sc_Node_offer (fun vs H Q E h => ?_) (fun cdv A outer s H vs Q E hr h => ?_)
  · obtain ⟨a, z, tg, n, v, d, rfl, _⟩ := h
    rfl
  obtain ⟨a, z, tg, n, v, d, rfl, ⟨c, hN⟩, wf, hf, hd, q1, q2⟩ := h
  have cl_Node := T.Cls_Node
  have at_Node_index := T.A_Node_index
  have at_Node_size := T.A_Node_size
  have at_Node_first_members := T.A_Node_first_members
  have at_Node_lazy := T.A_Node_lazy
  have at_Node_state := T.A_Node_state
  have at_Node_journal := T.A_Node_journal
  have at_Node_record := T.A_Node_record
  have at_Node__make_machine := T.A_Node__make_machine
  have at_Node__untold := T.A_Node__untold
  have at_Node_waiting := T.A_Node_waiting
  have at_Node_wanted := T.A_Node_wanted
  have at_Node_attempt := T.A_Node_attempt
  have at_Node_patience := T.A_Node_patience
  have at_Node_guest := T.A_Node_guest
  have at_Node_seen := T.A_Node_seen
  have at_Node_machine := T.A_Node_machine
  have at_Node__sends := T.A_Node__sends
  have at_Node__letters := T.A_Node__letters
  obtain ⟨hA, tA⟩ := hN.lay.get (i := 0) rfl
  obtain ⟨hJ, tJ⟩ := hN.lay.get (i := 1) rfl
  obtain ⟨hP, tP⟩ := hN.lay.get (i := 2) rfl
  obtain ⟨hS, tS⟩ := hN.lay.get (i := 3) rfl
  obtain ⟨hR, tR⟩ := hN.lay.get (i := 4) rfl
  obtain ⟨hW, tW⟩ := hN.lay.get (i := 5) rfl
  obtain ⟨hC, tC⟩ := hN.lay.get (i := 6) rfl
  obtain ⟨hU, tU⟩ := hN.lay.get (i := 7) rfl
  obtain ⟨hT, tT⟩ := hN.lay.get (i := 8) rfl
  obtain ⟨hM, tM⟩ := hN.lay.get (i := 9) rfl
  obtain ⟨hL, tL⟩ := hN.lay.get (i := 10) rfl
  obtain ⟨hO, tO⟩ := hN.lay.get (i := 11) rfl
  obtain ⟨hE, tE⟩ := hN.lay.get (i := 12) rfl
  have vl := hN.vl
  have lw := vl.wai.len
  refine ⟨_, (Evl.pss_cut (ps_if (PW.pt (pw_or (pt_val (pe_meth (Xk.k_fld (K := K) (by rfl) (pv 0) rfl) T.Cls_Diary T.M_Diary_settled (ok_Diary_settled T) (hr.mono (by decide)) T.b_Diary_settled .nil pass0 (pa_cons (pv 1) pa_nil))) (pw_or (pt_cmpR (Xk.k_inD (K := K) (Xk.u65 hr) (by rfl)) (pv 1) (Xk.k_fld (K := K) (by rfl) (pv 0) rfl) (by rfl)) (pw_or1 (pt_cmpR op_ge (pe_callB (Xk.k_len (K := K) (by rfl)) (by rfl) T.m_len PySem.boot_len (pa_cons (Xk.k_fld (K := K) (by rfl) (pv 0) rfl) pa_nil)) (pe_glob (by rfl) T.g_MOST_WAITING Xk.rel_int) (nomark _)))))) (pss_one (ps_ret (pe_bl))) pss_nil)
      (pss_cons (ps_expr (pe_bm PySem.F.plainAttrs_list PySem.F.slot_list_append PySem.F.type_list_append mt_append (Xk.k_fld (K := K) (by rfl) (pv 0) rfl) (pa_cons (pv 1) pa_nil)))
      (pss_cons (ps_expr (pe_meth0 (pv 0) T.Cls_Node T.M_Node__begin_if_free (ok_Node__begin_if_free T) (hr.mono (by decide)) T.b_Node__begin_if_free .nil pass0))
      (pss_cons (ps_expr (pe_meth0 (pv 0) T.Cls_Node T.M_Node__end_step (ok_Node__end_step T) (hr.mono (by decide)) T.b_Node__end_step .nil pass0))
      (pss_one (ps_ret (pe_bl))))))), ?_⟩
  wtm_at "x0"
  by_cases hr : refu n d = true
  · refine Xk.x_nocut ?_
    wtm_at "xs"
    refine ⟨c.ma, c.dm, c.ln, c.lv, n.lin, v, d, rfl, hM, hL, vl.lin, hd, ?_⟩
    cases e1 : Xk.inD d n.lin with
    | true =>
      wtm_at "xs"
      exact q1 hr
    | false =>
      wtm_at "xs"
      refine Xk.x_inPk hd (Xk.sq_of hT) vl.wai ?_
      cases e2 : Xk.inD d n.wai with
      | true =>
        wtm_at "xs"
        exact q1 hr
      | false =>
        have h16 : (16 : Int) ≤ c.wv.length := by
          unfold refu at hr
          rw [e1, e2] at hr
          have := of_decide_eq_true (by simpa using hr : decide (n.wai.length ≥ 16) = true)
          omega
        wtm_at "xs"
        exact q1 hr
  have hr' : refu n d = false := by cases e : refu n d with | true => exact absurd e hr | false => rfl
  have e1 : Xk.inD d n.lin = false := by
    unfold refu at hr'
    cases e : Xk.inD d n.lin with
    | true => rw [e] at hr'; cases hr'
    | false => rfl
  have e2 : Xk.inD d n.wai = false := by
    unfold refu at hr'
    cases e : Xk.inD d n.wai with
    | true => rw [e, Bool.or_true] at hr'; cases hr'
    | false => rfl
  have e3 : n.wai.length < 16 := by
    unfold refu at hr'
    rw [e1, e2] at hr'
    have := of_decide_eq_false (by simpa using hr' : decide (n.wai.length ≥ 16) = false)
    omega
  have h16 : ¬ (16 : Int) ≤ c.wv.length := by omega
  refine fall ?_ ?_
  · wtm_at "xs"
    refine ⟨c.ma, c.dm, c.ln, c.lv, n.lin, v, d, rfl, hM, hL, vl.lin, hd, ?_⟩
    rw [e1]
    wtm_at "xs"
    refine Xk.x_inPk hd (Xk.sq_of hT) vl.wai ?_
    rw [e2]
    wtm_at "xs"
    exact ⟨rfl, rfl⟩
  wtm_at "xs"
  have hp := hN.put (i := 8) (c' := { c with wv := c.wv ++ [v] }) (n' := { n with wai := n.wai ++ [d] }) (o' := .lst (c.wv ++ [v])) rfl rfl (by decide) rfl ⟨rfl, rfl⟩ (fun y => { y with wai := Xk.pk_snoc y.wai (hd.st (Xk.st_updL hT)) })
  refine ⟨a, z, tg, { n with wai := n.wai ++ [d] }, rfl, ⟨_, hp.1⟩, { wf with wai := ?_ }, hf, fun H2 tg2 m2 hn2 => ?_⟩
  · show (n.wai ++ [d]).length ≤ 16
    rw [List.length_append]
    show n.wai.length + 1 ≤ 16
    omega
  obtain ⟨c2, hN2⟩ := id hn2
  obtain ⟨hA2, tA2⟩ := hN2.lay.get (i := 0) rfl
  obtain ⟨hJ2, tJ2⟩ := hN2.lay.get (i := 1) rfl
  obtain ⟨hP2, tP2⟩ := hN2.lay.get (i := 2) rfl
  obtain ⟨hS2, tS2⟩ := hN2.lay.get (i := 3) rfl
  obtain ⟨hR2, tR2⟩ := hN2.lay.get (i := 4) rfl
  obtain ⟨hW2, tW2⟩ := hN2.lay.get (i := 5) rfl
  obtain ⟨hC2, tC2⟩ := hN2.lay.get (i := 6) rfl
  obtain ⟨hU2, tU2⟩ := hN2.lay.get (i := 7) rfl
  obtain ⟨hT2, tT2⟩ := hN2.lay.get (i := 8) rfl
  obtain ⟨hM2, tM2⟩ := hN2.lay.get (i := 9) rfl
  obtain ⟨hL2, tL2⟩ := hN2.lay.get (i := 10) rfl
  obtain ⟨hO2, tO2⟩ := hN2.lay.get (i := 11) rfl
  obtain ⟨hE2, tE2⟩ := hN2.lay.get (i := 12) rfl
  have vl2 := hN2.vl
  wtm_at "xs"
  refine ⟨a, z, tg2, _, rfl, hn2, fun H3 m3 hn3 => ?_⟩
  wtm_at "xs"
  have e : offerL n d = free { n with wai := n.wai ++ [d] } := by unfold offerL; rw [hr']; rfl
  exact q2 hr' H3 tg2 ((hp.2.trans m2).trans m3) (by rw [e]; exact hn3)
--CUT--
def sp_Node_offer_members (K : PySem.W.Frag) (C : Cs) : Sp := fun vs H Q _ => ∃ (a : Addr) (z : Nat) (tg : Xk.TgF) (n : Nd) (v : V) (ms : List Int), vs = [.ref a, v] ∧ NdA K C z tg H a n ∧ Wf n ∧ n.frm.length ≤ 7999 ∧ Xk.Pk K H 1 v (dI ms) ∧ (refuM n ms = true → Q (.bl false) H) ∧
  (refuM n ms = false → ∀ (H' : Hp) (tg' : Xk.TgF), Xk.Mv z K tg tg' H H' → NdA K C z tg' H' a (endS (offerM n ms)) → Q (.bl true) H')
theorem ok_Node_offer_members (T : Txt K mg) : FnOk P w K mg base CX0 52 T.f_Node_offer_members T.d_Node_offer_members ["self", "members"] (sp_Node_offer_members K (csOf T)) := by
  refine T.F_Node_offer_members.ok sc_Node_offer_members (fun vs H Q E h => ?_) (fun cdv A outer s H vs Q E hr h => ?_)
  · obtain ⟨a, z, tg, n, v, ms, rfl, _⟩ := h
    rfl
  obtain ⟨a, z, tg, n, v, ms, rfl, ⟨c, hN⟩, wf, hf, hd, q1, q2⟩ := h
  have cl_Node := T.Cls_Node
  have at_Node_index := T.A_Node_index
  have at_Node_size := T.A_Node_size
  have at_Node_first_members := T.A_Node_first_members
  have at_Node_lazy := T.A_Node_lazy
  have at_Node_state := T.A_Node_state
  have at_Node_journal := T.A_Node_journal
  have at_Node_record := T.A_Node_record
  have at_Node__make_machine := T.A_Node__make_machine
  have at_Node__untold := T.A_Node__untold
  have at_Node_waiting := T.A_Node_waiting
  have at_Node_wanted := T.A_Node_wanted
  have at_Node_attempt := T.A_Node_attempt
  have at_Node_patience := T.A_Node_patience
  have at_Node_guest := T.A_Node_guest
  have at_Node_seen := T.A_Node_seen
  have at_Node_machine := T.A_Node_machine
  have at_Node__sends := T.A_Node__sends
  have at_Node__letters := T.A_Node__letters
  obtain ⟨hA, tA⟩ := hN.lay.get (i := 0) rfl
  obtain ⟨hJ, tJ⟩ := hN.lay.get (i := 1) rfl
  obtain ⟨hP, tP⟩ := hN.lay.get (i := 2) rfl
  obtain ⟨hS, tS⟩ := hN.lay.get (i := 3) rfl
  obtain ⟨hR, tR⟩ := hN.lay.get (i := 4) rfl
  obtain ⟨hW, tW⟩ := hN.lay.get (i := 5) rfl
  obtain ⟨hC, tC⟩ := hN.lay.get (i := 6) rfl
  obtain ⟨hU, tU⟩ := hN.lay.get (i := 7) rfl
  obtain ⟨hT, tT⟩ := hN.lay.get (i := 8) rfl
  obtain ⟨hM, tM⟩ := hN.lay.get (i := 9) rfl
  obtain ⟨hL, tL⟩ := hN.lay.get (i := 10) rfl
  obtain ⟨hO, tO⟩ := hN.lay.get (i := 11) rfl
  obtain ⟨hE, tE⟩ := hN.lay.get (i := 12) rfl
  have vl := hN.vl
  obtain ⟨p, rfl, hp⟩ := pk_I hd
  refine ⟨_, (Evl.pss_cut (ps_if (PW.pt (pw_or (pt_cmpR Xk.op_nNotN (Xk.k_fld (K := K) (by rfl) (pv 0) rfl) (pe_non) (nomark _)) (pw_or1 (pt_cmpR (Xk.k_eqD (K := K) hr.units (by rfl)) (pv 1) (pe_prop (pv 0) T.Cls_Node T.P_Node_members_now (ok_Node_members_now T) (hr.mono (by decide)) T.b_Node_members_now .nil pass0 rfl) (nomark _))))) (pss_one (ps_ret (pe_bl))) pss_nil)
      (pss_cons (ps_fld (pv 0) (pv 1) rfl)
      (pss_cons (ps_expr (pe_meth0 (pv 0) T.Cls_Node T.M_Node__begin_if_free (ok_Node__begin_if_free T) (hr.mono (by decide)) T.b_Node__begin_if_free .nil pass0))
      (pss_cons (ps_expr (pe_meth0 (pv 0) T.Cls_Node T.M_Node__end_step (ok_Node__end_step T) (hr.mono (by decide)) T.b_Node__end_step .nil pass0))
      (pss_one (ps_ret (pe_bl))))))), ?_⟩
  wtm_at "x0"
  have hw := vl.wan
  have fin : n.wan.isSome = false → c.wn = .non → refuM n ms = decide (ms = mbs n) := fun e _ => by unfold refuM; rw [e]; rfl
  cases ew : n.wan with
  | some ws =>
    rw [ew] at hw
    obtain ⟨pw, epw, _⟩ := pk_I hw
    have ew3 : ¬ (c.wn = .non) := fun e => by rw [epw] at e; cases e
    refine Xk.x_nocut ?_
    wtm_at "xs"
    exact q1 (by unfold refuM; rw [ew]; rfl)
  | none =>
    rw [ew] at hw
    have ew3 : c.wn = .non := pk_nonD hw
    have er := fin (by rw [ew]; rfl) ew3
    by_cases hm : ms = mbs n
    · refine Xk.x_nocut ?_
      wtm_at "xs"
      refine ⟨a, z, tg, n, rfl, ⟨c, hN⟩, wf, fun v2 hv2 => ?_⟩
      obtain ⟨p2, rfl, hp2⟩ := pk_I hv2
      refine Xk.x_eqTInts hp hp2 ?_
      wtm_at "xs"
      exact q1 (by rw [er]; exact decide_eq_true hm)
    · refine fall ?_ ?_
      · wtm_at "xs"
        refine ⟨a, z, tg, n, rfl, ⟨c, hN⟩, wf, fun v2 hv2 => ?_⟩
        obtain ⟨p2, rfl, hp2⟩ := pk_I hv2
        refine Xk.x_eqTInts hp hp2 ?_
        wtm_at "xs"
        exact ⟨rfl, rfl⟩
      wtm_at "xs"
      have hq := hN.put (i := 0) (c' := { c with wn := .ref p }) (n' := { n with wan := some ms }) (o' := .ins T.C_Node c.dx (putF "wanted" (.ref p) (ndF (csOf T) c n))) rfl rfl (by decide) rfl ⟨rfl, rfl⟩ (fun y => { y with wan := hd.st (Xk.st_updI hA) })
      have er2 : refuM n ms = false := by rw [er]; exact decide_eq_false hm
      refine ⟨a, z, tg, { n with wan := some ms }, rfl, ⟨_, hq.1⟩, { wf with }, hf, fun H2 tg2 m2 hn2 => ?_⟩
      obtain ⟨c2, hN2⟩ := id hn2
      have hA2 := (hN2.lay.get (i := 0) rfl).1
      wtm_at "xs"
      refine ⟨a, z, tg2, _, rfl, hn2, fun H3 m3 hn3 => ?_⟩
      wtm_at "xs"
      have e : offerM n ms = free { n with wan := some ms } := by unfold offerM; rw [er2]; rfl
      exact q2 er2 H3 tg2 ((hq.2.trans m2).trans m3) (by rw [e]; exact hn3)
def sp_Node_tick (K : PySem.W.Frag) (C : Cs) : Sp := fun vs H Q _ => ∃ (a : Addr) (z : Nat) (tg : Xk.TgF) (n : Nd), vs = [.ref a] ∧ NdA K C z tg H a n ∧ Wf n ∧ n.frm.length ≤ 7999 ∧
  ∀ (H' : Hp) (tg' : Xk.TgF), Xk.Mv z K tg tg' H H' → NdA K C z tg' H' a (endS (tickL n)) → Q .non H'
theorem ok_Node_tick (T : Txt K mg) : FnOk P w K mg base CX0 51 T.f_Node_tick T.d_Node_tick ["self"] (sp_Node_tick K (csOf T)) := by
  refine T.F_Node_tick.ok sc_Node_tick (fun vs H Q E h => ?_) (fun cdv A outer s H vs Q E hr h => ?_)
  · obtain ⟨a, z, tg, n, rfl, _⟩ := h
    rfl
  obtain ⟨a, z, tg, n, rfl, ⟨c, hN⟩, wf, hf, q⟩ := h
  have cl_Node := T.Cls_Node
  have at_Node_index := T.A_Node_index
  have at_Node_size := T.A_Node_size
  have at_Node_first_members := T.A_Node_first_members
  have at_Node_lazy := T.A_Node_lazy
  have at_Node_state := T.A_Node_state
  have at_Node_journal := T.A_Node_journal
  have at_Node_record := T.A_Node_record
  have at_Node__make_machine := T.A_Node__make_machine
  have at_Node__untold := T.A_Node__untold
  have at_Node_waiting := T.A_Node_waiting
  have at_Node_wanted := T.A_Node_wanted
  have at_Node_attempt := T.A_Node_attempt
  have at_Node_patience := T.A_Node_patience
  have at_Node_guest := T.A_Node_guest
  have at_Node_seen := T.A_Node_seen
  have at_Node_machine := T.A_Node_machine
  have at_Node__sends := T.A_Node__sends
  have at_Node__letters := T.A_Node__letters
  obtain ⟨hA, tA⟩ := hN.lay.get (i := 0) rfl
  obtain ⟨hJ, tJ⟩ := hN.lay.get (i := 1) rfl
  obtain ⟨hP, tP⟩ := hN.lay.get (i := 2) rfl
  obtain ⟨hS, tS⟩ := hN.lay.get (i := 3) rfl
  obtain ⟨hR, tR⟩ := hN.lay.get (i := 4) rfl
  obtain ⟨hW, tW⟩ := hN.lay.get (i := 5) rfl
  obtain ⟨hC, tC⟩ := hN.lay.get (i := 6) rfl
  obtain ⟨hU, tU⟩ := hN.lay.get (i := 7) rfl
  obtain ⟨hT, tT⟩ := hN.lay.get (i := 8) rfl
  obtain ⟨hM, tM⟩ := hN.lay.get (i := 9) rfl
  obtain ⟨hL, tL⟩ := hN.lay.get (i := 10) rfl
  obtain ⟨hO, tO⟩ := hN.lay.get (i := 11) rfl
  obtain ⟨hE, tE⟩ := hN.lay.get (i := 12) rfl
  have vl := hN.vl
  refine ⟨_, (pss_cons (ps_fldaug (pv 0) (pe_int) in_sub)
      (Evl.pss_cut (ps_if (pt_cmpR op_eq (Xk.k_fld (K := K) (by rfl) (pv 0) rfl) (pe_int) (nomark _)) (pss_cons (ps_fld (pv 0) (pe_bl) rfl)
      (pss_one (ps_if (PW.pt (pw_or (pt_not (pt_val (pe_meth0 (pv 0) T.Cls_Node T.M_Node__something_waits (ok_Node__something_waits T) (hr.mono (by decide)) T.b_Node__something_waits .nil pass0))) (pw_or1 (pt_not (pt_val (pe_meth0 (pv 0) T.Cls_Node T.M_Node__begin (ok_Node__begin T) (hr.mono (by decide)) T.b_Node__begin .nil pass0)))))) (pss_cons (ps_fld (pv 0) (pe_meth0 (pv 0) T.Cls_Node T.M_Node__long_patience (ok_Node__long_patience T) (hr.mono (by decide)) T.b_Node__long_patience .nil pass0) rfl)
      (pss_one (ps_expr (pe_meth (pv 0) T.Cls_Node T.M_Node__send_to_others (ok_Node__send_to_others T) (hr.mono (by decide)) T.b_Node__send_to_others .nil pass0 (pa_cons (pe_tup (pa_cons (pe_str) (pa_cons (pe_prop (pv 0) T.Cls_Node T.P_Node_upto (ok_Node_upto T) (hr.mono (by decide)) T.b_Node_upto .nil pass0 rfl) pa_nil))) pa_nil))))) pss_nil))) pss_nil)
      (pss_one (ps_expr (pe_meth0 (pv 0) T.Cls_Node T.M_Node__end_step (ok_Node__end_step T) (hr.mono (by decide)) T.b_Node__end_step .nil pass0))))), ?_⟩
  wtm_at "x0"
  refine Xk.x_ssfldaug ?_
  wtm_at "xs"
  refine ⟨a, _, c.dx, _, _, rfl, hA, cl_Node, at_Node_patience, rfl, ?_⟩
  wtm_at "xs"
  refine ⟨n.pat, 1, rfl, rfl, c.dx, _, hA, Nat.le_of_ble_eq_true rfl, ?_⟩
  obtain ⟨n1, hn1⟩ : ∃ n1 : Nd, n1 = { n with pat := n.pat - 1 } := ⟨_, rfl⟩
  have hp1 := hN.put (i := 0) (c' := c) (n' := { n with pat := n.pat - 1 }) (o' := .ins T.C_Node c.dx (putF "patience" (.int (n.pat - 1)) (ndF (csOf T) c n))) rfl rfl (by decide) rfl ⟨rfl, rfl⟩ (fun y => { y with })
  have wf1 : Wf n1 := by rw [hn1]; exact { wf with }
  refine Xk.x_cut (fun σ' H' => σ' = [some (.ref a)] ∧ ∃ tg', Xk.Mv z K tg tg' H H' ∧ NdA K (csOf T) z tg' H' a (tickL n)) ?_ ?_
  · by_cases hz : n.pat - 1 = 0
    · have hzv : V.int (n.pat - 1) = V.int 0 := by rw [hz]
      wtm_at "xs"
      have hp2 := hp1.1.put (i := 0) (c' := c) (n' := { n with pat := n.pat - 1, gst := false }) (o' := .ins T.C_Node c.dx (putF "guest" (.bl false) (putF "patience" (.int (n.pat - 1)) (ndF (csOf T) c n)))) rfl rfl (by decide) rfl ⟨rfl, rfl⟩ (fun y => { y with })
      obtain ⟨n2, hn2⟩ : ∃ n2 : Nd, n2 = { n with pat := n.pat - 1, gst := false } := ⟨_, rfl⟩
      have m2 := hp1.2.trans hp2.2
      have N2 : NdAt K (csOf T) z tg (upd (upd H a (.ins T.C_Node c.dx (putF "patience" (.int (n.pat - 1)) (ndF (csOf T) c n)))) a (.ins T.C_Node c.dx (putF "guest" (.bl false) (putF "patience" (.int (n.pat - 1)) (ndF (csOf T) c n))))) a c n2 := by rw [hn2]; exact hp2.1
      have wf2 : Wf n2 := by rw [hn2]; exact { wf with }
      have hf2 : n2.frm.length ≤ 7999 := by rw [hn2]; exact hf
      have ix2 : n2.ix = n.ix := by rw [hn2]
      have et : tickL n = if wish n2 && decide (top n2 < 9999) then begun n2 else post { n2 with pat := lpat n } (oths n) (.tuple [.str "fetch", .int n.row.length]) := by
        unfold tickL
        rw [hn2]
        exact if_pos hz
      have hl2 : ∀ x, ndF (csOf T) c n2 = x → putF "guest" (.bl false) (putF "patience" (.int (n.pat - 1)) (ndF (csOf T) c n)) = x := fun x e => by rw [← e, hn2]; rfl
      rw [hl2 _ rfl] at N2 m2 ⊢
      clear hp1 hp2
      generalize (upd (upd H a (.ins T.C_Node c.dx (putF "patience" (.int (n.pat - 1)) (ndF (csOf T) c n)))) a (.ins T.C_Node c.dx (ndF (csOf T) c n2))) = H2 at N2 m2 ⊢
      have els : (wish n2 && decide (top n2 < 9999)) = false → Xk.rMeth T.C_Node "_long_patience" tNil (sp_Node__long_patience K (csOf T)) [] E0 [some (.ref a)] (fun y H1 => tVar 0 [some (.ref a)] H1 (Xk.rSetF K "patience" y (tDrop (tMeth T.C_Node "_send_to_others" (sp_Node__send_to_others K (csOf T)) [] E0 (tVar 0) (tCons (tTup (tCons (_root_.L2.tC (V.str "fetch")) (tCons (tProp T.C_Node (sp_Node_upto K (csOf T)) [] E0 (tVar 0)) tNil))) tNil)) { nx := fun σ' H' => σ' = [some (.ref a)] ∧ ∃ tg', Xk.Mv z K tg tg' H H' ∧ NdA K (csOf T) z tg' H' a (tickL n), rt := Q } [some (.ref a)]))) (.ref a) H2 := by
        intro hb
        obtain ⟨hA2, tA2⟩ := N2.lay.get (i := 0) rfl
        wtm_at "xs"
        refine ⟨a, _, _, n2.ix, rfl, hA2, rfl, ?_⟩
        wtm_at "xs"
        have hp3 := N2.put (i := 0) (c' := c) (n' := { n2 with pat := lpat n }) (o' := .ins T.C_Node c.dx (putF "patience" (.int (6 + 2 * n2.ix)) (ndF (csOf T) c n2))) rfl rfl (by decide) (by unfold lpat; rw [← ix2]; rfl) ⟨rfl, rfl⟩ (fun y => { y with })
        refine ⟨a, z, tg, _, rfl, ⟨c, hp3.1⟩, ?_⟩
        wtm_at "xs"
        intro p H3 fp s3 h3
        wtm_at "xs"
        refine ⟨a, z, tg, _, .ref p, .tuple [.str "fetch", .int n.row.length], rfl, ⟨c, hp3.1.same s3⟩, { wf2 with }, ?_, fun H4 m4 hn4 => ?_⟩
        · refine (Xk.pk_tup2 (Xk.st_of h3) Xk.pk_str ?_ : Xk.Pk K H3 41 _ _)
          have : n2.row = n.row := by rw [hn2]
          rw [show ({ n2 with pat := lpat n } : Nd).row = n.row from this]
          exact Xk.pk_int
        wtm_at "xs"
        refine ⟨rfl, tg, ((m2.trans hp3.2).trans (Xk.Mv.same s3)).trans m4, ?_⟩
        rw [et, hb]
        have eo : oths { n2 with pat := lpat n } = oths n := by rw [hn2]; rfl
        rw [eo] at hn4
        exact hn4
      refine ⟨a, z, tg, n2, rfl, ⟨c, N2⟩, ?_⟩
      cases ew : wish n2 with
      | false =>
        wtm_at "xs"
        exact els (by rw [ew]; rfl)
      | true =>
        wtm_at "xs"
        have hA2 := (N2.lay.get (i := 0) rfl).1
        wtm_at "xs"
        refine ⟨a, z, tg, n2, rfl, ⟨c, N2⟩, wf2, hf2, fun h => ?_, fun h H3 tg3 m3 hn3 => ?_⟩
        · clear hA2
          wtm_at "xs"
          exact els (by rw [ew, decide_eq_false (by omega)]; rfl)
        · wtm_at "xs"
          refine ⟨rfl, tg3, m2.trans m3, ?_⟩
          rw [et, ew, decide_eq_true h]
          exact hn3
    · have hzv : ¬ (V.int (n.pat - 1) = V.int 0) := fun e => hz (by injection e)
      wtm_at "xs"
      have et : tickL n = { n with pat := n.pat - 1 } := by unfold tickL; exact if_neg hz
      exact ⟨rfl, tg, hp1.2, by rw [et]; exact ⟨c, hp1.1⟩⟩
  rintro σ' H' ⟨rfl, tg', m, hn⟩
  obtain ⟨c2, hN2⟩ := id hn
  have hA2 := (hN2.lay.get (i := 0) rfl).1
  wtm_at "xs"
  refine ⟨a, z, tg', _, rfl, hn, fun H3 m3 hn3 => ?_⟩
  wtm_at "xs"
  exact q H3 tg' (m.trans m3) hn3
def said (n : Nd) : Bool := decide (n.saf = n.frm.length)
def sp_Node_sends (K : PySem.W.Frag) (C : Cs) : Sp := fun vs H Q _ => ∃ (a : Addr) (z : Nat) (tg : Xk.TgF) (n : Nd), vs = [.ref a] ∧ NdA K C z tg H a n ∧
  ∀ (H' : Hp) (tg' : Xk.TgF) (p : Addr) (sv : List V), Xk.Mv z K tg tg' H H' → NdA K C z tg' H' a { n with out := if said n then [] else n.out } → H' p = some (.lst sv) → Xk.PkAll K H' 42 sv (if said n then n.out else []) → Q (.ref p) H'
theorem ok_Node_sends (T : Txt K mg) : FnOk P w K mg base CX0 4 T.f_Node_sends T.d_Node_sends ["self"] (sp_Node_sends K (csOf T)) := by
  refine T.F_Node_sends.ok sc_Node_sends (fun vs H Q E h => ?_) (fun cdv A outer s H vs Q E hr h => ?_)
  · obtain ⟨a, z, tg, n, rfl, _⟩ := h
    rfl
  obtain ⟨a, z, tg, n, rfl, ⟨c, hN⟩, q⟩ := h
  have cl_Node := T.Cls_Node
  have at_Node_index := T.A_Node_index
  have at_Node_size := T.A_Node_size
  have at_Node_first_members := T.A_Node_first_members
  have at_Node_lazy := T.A_Node_lazy
  have at_Node_state := T.A_Node_state
  have at_Node_journal := T.A_Node_journal
  have at_Node_record := T.A_Node_record
  have at_Node__make_machine := T.A_Node__make_machine
  have at_Node__untold := T.A_Node__untold
  have at_Node_waiting := T.A_Node_waiting
  have at_Node_wanted := T.A_Node_wanted
  have at_Node_attempt := T.A_Node_attempt
  have at_Node_patience := T.A_Node_patience
  have at_Node_guest := T.A_Node_guest
  have at_Node_seen := T.A_Node_seen
  have at_Node_machine := T.A_Node_machine
  have at_Node__sends := T.A_Node__sends
  have at_Node__letters := T.A_Node__letters
  obtain ⟨hA, tA⟩ := hN.lay.get (i := 0) rfl
  obtain ⟨hJ, tJ⟩ := hN.lay.get (i := 1) rfl
  obtain ⟨hP, tP⟩ := hN.lay.get (i := 2) rfl
  obtain ⟨hS, tS⟩ := hN.lay.get (i := 3) rfl
  obtain ⟨hR, tR⟩ := hN.lay.get (i := 4) rfl
  obtain ⟨hW, tW⟩ := hN.lay.get (i := 5) rfl
  obtain ⟨hC, tC⟩ := hN.lay.get (i := 6) rfl
  obtain ⟨hU, tU⟩ := hN.lay.get (i := 7) rfl
  obtain ⟨hT, tT⟩ := hN.lay.get (i := 8) rfl
  obtain ⟨hM, tM⟩ := hN.lay.get (i := 9) rfl
  obtain ⟨hL, tL⟩ := hN.lay.get (i := 10) rfl
  obtain ⟨hO, tO⟩ := hN.lay.get (i := 11) rfl
  obtain ⟨hE, tE⟩ := hN.lay.get (i := 12) rfl
  have vl := hN.vl
  refine ⟨_, (Evl.pss_cut (ps_if (pt_not (pt_val (pe_meth0 (pv 0) T.Cls_Node T.M_Node__may_go_out (ok_Node__may_go_out T) (hr.mono (by decide)) T.b_Node__may_go_out .nil pass0))) (pss_one (ps_ret (pe_lst pa_nil))) pss_nil)
      (pss_cons (ps_set (i := 1) sc_Node_sends.nd rfl (Or.inl rfl) (Xk.k_fld (K := K) (by rfl) (pv 0) rfl))
      (pss_cons (ps_fld (pv 0) (pe_lst pa_nil) rfl)
      (pss_one (ps_ret (pv 1)))))), ?_⟩
  wtm_at "x0"
  cases es : said n with
  | false =>
    rw [es] at q
    refine Xk.x_nocut ?_
    wtm_at "xs"
    refine ⟨a, z, tg, n, rfl, ⟨c, hN⟩, ?_⟩
    rw [show decide (n.saf = n.frm.length) = false from es]
    wtm_at "xs"
    intro p H1 fp s1 h1
    exact q H1 tg p [] (Xk.Mv.same s1) ⟨c, hN.same s1⟩ h1 Xk.pk_nil
  | true =>
    rw [es] at q
    refine fall ?_ ?_
    · wtm_at "xs"
      refine ⟨a, z, tg, n, rfl, ⟨c, hN⟩, ?_⟩
      rw [show decide (n.saf = n.frm.length) = true from es]
      wtm_at "xs"
      exact ⟨rfl, rfl⟩
    wtm_at "xs"
    intro p H1 fp s1 h1
    have hA1 := s1 _ _ hA
    have tA1 : Xk.Tg (Xk.tgU tg p z 12) a z 1 := Xk.tgU_ne (Xk.ne_new fp hA) tA
    wtm_at "xs"
    have m1 : Xk.Mv z K tg (Xk.tgU tg p z 12) H (upd H1 a (.ins T.C_Node c.dx (putF "_sends" (.ref p) (ndF (csOf T) c n)))) := (Xk.Mv.new s1 fp h1).trans (Xk.Mv.upd tA1 hA1)
    have L1 := ((hN.same s1).lay.rep (i := 11) rfl (hN.lay.fr fp) h1).upd (i := 0) (o' := .ins T.C_Node c.dx (putF "_sends" (.ref p) (ndF (csOf T) c n))) rfl
    have v1 := vl.st m1.st
    have hO1 : upd H1 a (.ins T.C_Node c.dx (putF "_sends" (.ref p) (ndF (csOf T) c n))) c.sd = some (.lst c.sv) := (upd_ne (Xk.tg_ne tO tA (by decide))).trans (s1 _ _ hO)
    exact q _ _ c.sd c.sv m1 ⟨{ c with sd := p, sv := [] }, L1.eq rfl, ((hN.pay.tag fp).same s1).upd tA1 (by decide), { v1 with out := Xk.pk_nil }⟩ hO1 v1.out
def sp_Node_letters (K : PySem.W.Frag) (C : Cs) : Sp := fun vs H Q _ => ∃ (a : Addr) (z : Nat) (tg : Xk.TgF) (n : Nd), vs = [.ref a] ∧ NdA K C z tg H a n ∧
  ∀ (H' : Hp) (tg' : Xk.TgF) (p : Addr) (sv : List V), Xk.Mv z K tg tg' H H' → NdA K C z tg' H' a { n with ltr := if said n then [] else n.ltr } → H' p = some (.lst sv) → Xk.PkAll K H' 42 sv (if said n then n.ltr else []) → Q (.ref p) H'
theorem ok_Node_letters (T : Txt K mg) : FnOk P w K mg base CX0 4 T.f_Node_letters T.d_Node_letters ["self"] (sp_Node_letters K (csOf T)) := by
  refine T.F_Node_letters.ok sc_Node_letters (fun vs H Q E h => ?_) (fun cdv A outer s H vs Q E hr h => ?_)
  · obtain ⟨a, z, tg, n, rfl, _⟩ := h
    rfl
  obtain ⟨a, z, tg, n, rfl, ⟨c, hN⟩, q⟩ := h
  have cl_Node := T.Cls_Node
  have at_Node_index := T.A_Node_index
  have at_Node_size := T.A_Node_size
  have at_Node_first_members := T.A_Node_first_members
  have at_Node_lazy := T.A_Node_lazy
  have at_Node_state := T.A_Node_state
  have at_Node_journal := T.A_Node_journal
  have at_Node_record := T.A_Node_record
  have at_Node__make_machine := T.A_Node__make_machine
  have at_Node__untold := T.A_Node__untold
  have at_Node_waiting := T.A_Node_waiting
  have at_Node_wanted := T.A_Node_wanted
  have at_Node_attempt := T.A_Node_attempt
  have at_Node_patience := T.A_Node_patience
  have at_Node_guest := T.A_Node_guest
  have at_Node_seen := T.A_Node_seen
  have at_Node_machine := T.A_Node_machine
  have at_Node__sends := T.A_Node__sends
  have at_Node__letters := T.A_Node__letters
  obtain ⟨hA, tA⟩ := hN.lay.get (i := 0) rfl
  obtain ⟨hJ, tJ⟩ := hN.lay.get (i := 1) rfl
  obtain ⟨hP, tP⟩ := hN.lay.get (i := 2) rfl
  obtain ⟨hS, tS⟩ := hN.lay.get (i := 3) rfl
  obtain ⟨hR, tR⟩ := hN.lay.get (i := 4) rfl
  obtain ⟨hW, tW⟩ := hN.lay.get (i := 5) rfl
  obtain ⟨hC, tC⟩ := hN.lay.get (i := 6) rfl
  obtain ⟨hU, tU⟩ := hN.lay.get (i := 7) rfl
  obtain ⟨hT, tT⟩ := hN.lay.get (i := 8) rfl
  obtain ⟨hM, tM⟩ := hN.lay.get (i := 9) rfl
  obtain ⟨hL, tL⟩ := hN.lay.get (i := 10) rfl
  obtain ⟨hO, tO⟩ := hN.lay.get (i := 11) rfl
  obtain ⟨hE, tE⟩ := hN.lay.get (i := 12) rfl
  have vl := hN.vl
  refine ⟨_, (Evl.pss_cut (ps_if (pt_not (pt_val (pe_meth0 (pv 0) T.Cls_Node T.M_Node__may_go_out (ok_Node__may_go_out T) (hr.mono (by decide)) T.b_Node__may_go_out .nil pass0))) (pss_one (ps_ret (pe_lst pa_nil))) pss_nil)
      (pss_cons (ps_set (i := 1) sc_Node_letters.nd rfl (Or.inl rfl) (Xk.k_fld (K := K) (by rfl) (pv 0) rfl))
      (pss_cons (ps_fld (pv 0) (pe_lst pa_nil) rfl)
      (pss_one (ps_ret (pv 1)))))), ?_⟩
  wtm_at "x0"
  cases es : said n with
  | false =>
    rw [es] at q
    refine Xk.x_nocut ?_
    wtm_at "xs"
    refine ⟨a, z, tg, n, rfl, ⟨c, hN⟩, ?_⟩
    rw [show decide (n.saf = n.frm.length) = false from es]
    wtm_at "xs"
    intro p H1 fp s1 h1
    exact q H1 tg p [] (Xk.Mv.same s1) ⟨c, hN.same s1⟩ h1 Xk.pk_nil
  | true =>
    rw [es] at q
    refine fall ?_ ?_
    · wtm_at "xs"
      refine ⟨a, z, tg, n, rfl, ⟨c, hN⟩, ?_⟩
      rw [show decide (n.saf = n.frm.length) = true from es]
      wtm_at "xs"
      exact ⟨rfl, rfl⟩
    wtm_at "xs"
    intro p H1 fp s1 h1
    have hA1 := s1 _ _ hA
    have tA1 : Xk.Tg (Xk.tgU tg p z 13) a z 1 := Xk.tgU_ne (Xk.ne_new fp hA) tA
    wtm_at "xs"
    have m1 : Xk.Mv z K tg (Xk.tgU tg p z 13) H (upd H1 a (.ins T.C_Node c.dx (putF "_letters" (.ref p) (ndF (csOf T) c n)))) := (Xk.Mv.new s1 fp h1).trans (Xk.Mv.upd tA1 hA1)
    have L1 := ((hN.same s1).lay.rep (i := 12) rfl (hN.lay.fr fp) h1).upd (i := 0) (o' := .ins T.C_Node c.dx (putF "_letters" (.ref p) (ndF (csOf T) c n))) rfl
    have v1 := vl.st m1.st
    have hO1 : upd H1 a (.ins T.C_Node c.dx (putF "_letters" (.ref p) (ndF (csOf T) c n))) c.lt = some (.lst c.tv) := (upd_ne (Xk.tg_ne tE tA (by decide))).trans (s1 _ _ hE)
    exact q _ _ c.lt c.tv m1 ⟨{ c with lt := p, tv := [] }, L1.eq rfl, ((hN.pay.tag fp).same s1).upd tA1 (by decide), { v1 with ltr := Xk.pk_nil }⟩ hO1 v1.ltr
def newV (n : Nd) : List PyData := (n.unt.filter fun p => decide (p.1 ≤ (n.saf : Int))).map (·.2)
def oldV (n : Nd) : List (Int × PyData) := n.unt.filter fun p => decide (p.1 > (n.saf : Int))
def sp_Node_new_votes (K : PySem.W.Frag) (C : Cs) : Sp := fun vs H Q _ => ∃ (a : Addr) (z : Nat) (tg : Xk.TgF) (n : Nd), vs = [.ref a] ∧ NdA K C z tg H a n ∧ Wf n ∧
  ∀ (H' : Hp) (tg' : Xk.TgF) (p : Addr) (sv : List V), Xk.Mv z K tg tg' H H' → NdA K C z tg' H' a { n with unt := oldV n } → H' p = some (.lst sv) → Xk.PkAll K H' 40 sv (newV n) → Q (.ref p) H'
theorem ok_Node_new_votes (T : Txt K mg) : FnOk P w K mg base CX0 3 T.f_Node_new_votes T.d_Node_new_votes ["self"] (sp_Node_new_votes K (csOf T)) := by
  refine T.F_Node_new_votes.ok sc_Node_new_votes (fun vs H Q E h => ?_) (fun cdv A outer s H vs Q E hr h => ?_)
  · obtain ⟨a, z, tg, n, rfl, _⟩ := h
    rfl
  obtain ⟨a, z, tg, n, rfl, ⟨c, hN⟩, wf, q⟩ := h
  have cl_Node := T.Cls_Node
  have at_Node_index := T.A_Node_index
  have at_Node_size := T.A_Node_size
  have at_Node_first_members := T.A_Node_first_members
  have at_Node_lazy := T.A_Node_lazy
  have at_Node_state := T.A_Node_state
  have at_Node_journal := T.A_Node_journal
  have at_Node_record := T.A_Node_record
  have at_Node__make_machine := T.A_Node__make_machine
  have at_Node__untold := T.A_Node__untold
  have at_Node_waiting := T.A_Node_waiting
  have at_Node_wanted := T.A_Node_wanted
  have at_Node_attempt := T.A_Node_attempt
  have at_Node_patience := T.A_Node_patience
  have at_Node_guest := T.A_Node_guest
  have at_Node_seen := T.A_Node_seen
  have at_Node_machine := T.A_Node_machine
  have at_Node__sends := T.A_Node__sends
  have at_Node__letters := T.A_Node__letters
  obtain ⟨hA, tA⟩ := hN.lay.get (i := 0) rfl
  obtain ⟨hJ, tJ⟩ := hN.lay.get (i := 1) rfl
  obtain ⟨hP, tP⟩ := hN.lay.get (i := 2) rfl
  obtain ⟨hS, tS⟩ := hN.lay.get (i := 3) rfl
  obtain ⟨hR, tR⟩ := hN.lay.get (i := 4) rfl
  obtain ⟨hW, tW⟩ := hN.lay.get (i := 5) rfl
  obtain ⟨hC, tC⟩ := hN.lay.get (i := 6) rfl
  obtain ⟨hU, tU⟩ := hN.lay.get (i := 7) rfl
  obtain ⟨hT, tT⟩ := hN.lay.get (i := 8) rfl
  obtain ⟨hM, tM⟩ := hN.lay.get (i := 9) rfl
  obtain ⟨hL, tL⟩ := hN.lay.get (i := 10) rfl
  obtain ⟨hO, tO⟩ := hN.lay.get (i := 11) rfl
  obtain ⟨hE, tE⟩ := hN.lay.get (i := 12) rfl
  have vl := hN.vl
  have lu : c.uv.length = n.unt.length := by rw [vl.unt.len, List.length_map]
  have w1 := wf.unt
  refine ⟨_, (pss_cons (ps_set (i := 1) sc_Node_new_votes.nd rfl (Or.inr rfl) (pe_prop (Xk.k_fld (K := K) (by rfl) (pv 0) rfl) T.Cls_Journal T.P_Journal_synced_frames (ok_Journal_synced_frames T) (hr.mono (by decide)) T.b_Journal_synced_frames .nil pass0 rfl))
      (pss_cons (ps_setLc (i := 2) (own := [("frame", 3), ("told", 4)]) (g := gTup K 2 (gCons (gName 3) (gCons (gName 4) gNil))) rfl sc_Node_new_votes.nd rfl rfl (sw_true rfl rfl rfl (by decide +kernel)) (pi_list (Xk.k_fld (K := K) (by rfl) (pv 0) rfl)) (blkOk_by (N := N_Node_new_votes) (sc := defScope s_Node_new_votes) (own := [("frame", 3), ("told", 4)]) (by decide +kernel)) (fun _ _ _ _ _ => Xk.k_gtup (K := K) (by rfl) rfl (pgs_cons (pg_name (i := 3) sc_Node_new_votes.nd rfl (Or.inl rfl)) (pgs_cons (pg_name (i := 4) sc_Node_new_votes.nd rfl (Or.inl rfl)) pgs_nil))) (fun _ _ _ _ _ => pts_one (pt_cmpR op_le (pv 3) (pv 1) (nomark _))) (fun _ _ _ _ _ => (pv 4)))
      (pss_cons (ps_fld (pv 0) (pe_lc (own := [("vote", 5)]) (g := gName 5) rfl sc_Node_new_votes.nd  (pi_list (Xk.k_fld (K := K) (by rfl) (pv 0) rfl)) (blkOk_by (N := N_Node_new_votes) (sc := defScope s_Node_new_votes) (own := [("vote", 5)]) (by decide +kernel)) (fun _ _ _ _ _ => pg_name (i := 5) sc_Node_new_votes.nd rfl (Or.inl rfl)) (fun _ _ _ _ _ => pts_one (pt_cmpR op_gt (pe_ix (Xk.k_ixT (K := K) (by rfl)) (pv 5) (pe_int) (fun _ _ => rfl)) (pv 1) (nomark _))) (fun _ _ _ _ _ => (pv 5))) rfl)
      (pss_one (ps_ret (pv 2)))))), ?_⟩
  wtm_at "x0"
  wtm_at "xs"
  refine ⟨c.j, c.dj, c.jp, c.js, _, rfl, hJ, ?_⟩
  wtm_at "xs"
  refine Xk.x_lcL (fun Dl i H' => Same H H' ∧ Xk.Fr Dl H ∧ ∃ sv, H' Dl = some (.lst sv) ∧ sv.length ≤ i ∧ Xk.PkAll K H' 40 sv (((n.unt.take i).filter fun p => decide (p.1 ≤ (n.saf : Int))).map (·.2))) (Xk.sq_of hU) (fun Dl hD => ⟨Xk.same_fr hD, hD, [], upd_same, Nat.le_refl _, Xk.pk_nil⟩) (fun Dl i H' hD hh => Xk.sq_of (hh.1 _ _ hU)) ?_ ?_
  · rintro Dl hD i x H1 hi ⟨s1, hD2, sv, h1, l1, p1⟩
    have hil := Xk.at_lt hi
    obtain ⟨d, hd, pd⟩ := vl.unt.at hi
    obtain ⟨e, he, rfl⟩ := Xk.of_map_at hd
    obtain ⟨pa, v1, v2, rfl, hs, p3, p4⟩ := pk_pair pd
    rw [pk_intD p3] at hs
    have hs1 := Xk.st_same hs s1
    have etk : n.unt.take (i + 1) = n.unt.take i ++ [e] := by rw [List.take_add_one, he]; rfl
    wtm_at "xs"
    refine Xk.x_wiped rfl ?_
    refine Xk.x_test ?_
    wtm_at "xs"
    refine Xk.x_itd (fun hk => ?_) (fun hk => ?_)
    · wtm_at "xs"
      have p4' := (p4.same s1).mono (show 41 - 1 ≤ 40 by decide)
      refine ⟨sv, h1, Xk.size_lt (by omega), Xk.same_mut s1 hD, hD2, sv ++ [v2], upd_same, by rw [List.length_append]; show sv.length + 1 ≤ i + 1; omega, ?_⟩
      rw [etk, List.filter_append, List.filter_cons_of_pos (p := fun p : Int × PyData => decide (p.1 ≤ (n.saf : Int))) (decide_eq_true hk), List.map_append]
      exact Xk.pk_snoc (p1.st (Xk.st_updL h1)) (p4'.st (Xk.st_updL h1))
    · refine ⟨s1, hD2, sv, h1, by omega, ?_⟩
      rw [etk, List.filter_append, List.filter_cons_of_neg (p := fun p : Int × PyData => decide (p.1 ≤ (n.saf : Int))) (by rw [decide_eq_false hk]; decide), List.filter_nil, List.append_nil]
      exact p1
  · rintro Dl H2 hD ⟨s1, _, sv, h1, l1, p1⟩
    rw [lu, List.take_length] at p1
    have hA2 := s1 _ _ hA
    have hU2 := s1 _ _ hU
    wtm_at "xs"
    refine Xk.x_lcL (fun Dl i H' => Same H2 H' ∧ Xk.Fr Dl H2 ∧ ∃ sv, H' Dl = some (.lst sv) ∧ sv.length ≤ i ∧ Xk.PkAll K H' 41 sv (((n.unt.take i).filter fun p => decide (p.1 > (n.saf : Int))).map dV)) (Xk.sq_of hU2) (fun Dl hD => ⟨Xk.same_fr hD, hD, [], upd_same, Nat.le_refl _, Xk.pk_nil⟩) (fun Dl i H' hD hh => Xk.sq_of (hh.1 _ _ hU2)) ?_ ?_
    · rintro Dl hD i x H3 hi ⟨s3, hD2, sv3, h3, l3, p3⟩
      have hil := Xk.at_lt hi
      obtain ⟨d, hd, pd⟩ := vl.unt.at hi
      obtain ⟨e, he, rfl⟩ := Xk.of_map_at hd
      obtain ⟨pa, v1, v2, rfl, hs, p5, p4⟩ := pk_pair pd
      rw [pk_intD p5] at hs
      have hs3 := Xk.st_same hs (s1.trans s3)
      have etk : n.unt.take (i + 1) = n.unt.take i ++ [e] := by rw [List.take_add_one, he]; rfl
      wtm_at "xs"
      refine Xk.x_wiped rfl ?_
      refine Xk.x_test ?_
      wtm_at "xs"
      refine Xk.x_itd (fun hk => ?_) (fun hk => ?_)
      · wtm_at "xs"
        refine ⟨sv3, h3, Xk.size_lt (by omega), Xk.same_mut s3 hD, hD2, sv3 ++ [.ref pa], upd_same, by rw [List.length_append]; show sv3.length + 1 ≤ i + 1; omega, ?_⟩
        rw [etk, List.filter_append, List.filter_cons_of_pos (p := fun p : Int × PyData => decide (p.1 > (n.saf : Int))) (decide_eq_true hk), List.map_append]
        exact Xk.pk_snoc (p3.st (Xk.st_updL h3)) ((pd.same (s1.trans s3)).st (Xk.st_updL h3))
      · refine ⟨s3, hD2, sv3, h3, by omega, ?_⟩
        rw [etk, List.filter_append, List.filter_cons_of_neg (p := fun p : Int × PyData => decide (p.1 > (n.saf : Int))) (by rw [decide_eq_false hk]; decide), List.filter_nil, List.append_nil]
        exact p3
    · rintro Dl2 H3 hD2 ⟨s3, _, sv3, h3, l3, p3⟩
      rw [lu, List.take_length] at p3
      have sT := s1.trans s3
      have fp : Xk.Fr Dl2 H := Xk.free_back hD2 s1
      have hA3 := sT _ _ hA
      have tA3 : Xk.Tg (Xk.tgU tg Dl2 z 8) a z 1 := Xk.tgU_ne (Xk.ne_new fp hA) tA
      wtm_at "xs"
      have m1 : Xk.Mv z K tg (Xk.tgU tg Dl2 z 8) H (upd H3 a (.ins T.C_Node c.dx (putF "_untold" (.ref Dl2) (ndF (csOf T) c n)))) := (Xk.Mv.new sT fp h3).trans (Xk.Mv.upd tA3 hA3)
      have L1 := ((hN.same sT).lay.rep (i := 7) rfl (hN.lay.fr fp) h3).upd (i := 0) (o' := .ins T.C_Node c.dx (putF "_untold" (.ref Dl2) (ndF (csOf T) c n))) rfl
      have v1 := vl.st m1.st
      have nDa : Dl ≠ a := (Xk.ne_new hD hA).symm
      exact q _ _ Dl sv m1 ⟨{ c with un := Dl2, uv := sv3 }, L1.eq rfl, ((hN.pay.tag fp).same sT).upd tA3 (by decide), { v1 with unt := p3.st (Xk.st_updI hA3) }⟩ ((upd_ne nDa).trans (s3 _ _ h1)) ((p1.same s3).st (Xk.st_updI hA3))
--CUT--
/-! the law's own node -/
structure Mc where
  rw : Addr
  fr : Addr
  ls : Addr
  wt : Addr
  o : Addr
  lt : Addr
  ln : Addr
  rv : List V
  fv : List V
  lsv : List V
  wv : List V
  ov : List V
  tv : List V
  lv : List V
  fm : V
  pv : V
  av : V
  wn : V
  t : Addr
  tp : Addr
  tq : Addr
  tb : V
  te : V
  tz : V
def ky (s : Str) : Key := Sum.inr s
def atM (c : Mc) : Option Att → V
  | none => .non
  | some _ => .ref c.t
def mK1 (ix sz : Int) (fm : V) (lz : Bool) (st : Str) (rw : Addr) (pv : V) : List (Key × V) := [(ky "index", .int ix), (ky "size", .int sz), (ky "first", fm), (ky "lazy", .bl lz), (ky "state", .str st), (ky "row", .ref rw), (ky "promised", pv)]
def mK2 (av : V) (fr : Addr) (sa to : Int) (ls : Addr) : List (Key × V) := [(ky "accepted", av), (ky "frames", .ref fr), (ky "safe", .int sa), (ky "told", .int to), (ky "lost", .ref ls)]
def mK3 (wt : Addr) (wn at_ : V) (pa : Int) (gu : Bool) (se : Int) (o lt ln : Addr) : List (Key × V) := [(ky "waiting", .ref wt), (ky "wanted", wn), (ky "attempt", at_), (ky "patience", .int pa), (ky "guest", .bl gu), (ky "seen", .int se), (ky "out", .ref o), (ky "letters", .ref lt), (ky "lines", .ref ln)]
def mK (c : Mc) (n : Nd) : List (Key × V) := mK1 n.ix n.sz c.fm n.lzy n.sta c.rw c.pv ++ (mK2 c.av c.fr n.saf n.tld c.ls ++ mK3 c.wt c.wn (atM c n.att) n.pat n.gst n.see c.o c.lt c.ln)
def tK (c : Mc) (A : Att) : List (Key × V) := [(ky "ballot", c.tb), (ky "entry", c.te), (ky "stage", .str A.stg), (ky "promised", .ref c.tp), (ky "voted", .ref c.tq), (ky "bound", c.tz)]
def atMC (c : Mc) : Option Att → List Xk.Cell
  | none => []
  | some A => [(c.t, .dK (tK c A), 9), (c.tp, .lst (A.pby.map V.int), 10), (c.tq, .lst (A.vby.map V.int), 11)]
def mdC (m : Addr) (c : Mc) (n : Nd) : List Xk.Cell := [(m, .dK (mK c n), 1), (c.rw, .lst c.rv, 2), (c.fr, .lst c.fv, 3), (c.ls, .lst c.lsv, 4), (c.wt, .lst c.wv, 5), (c.o, .lst c.ov, 6), (c.lt, .lst c.tv, 7), (c.ln, .lst c.lv, 8)] ++ atMC c n.att
structure Vm (K : PySem.W.Frag) (H : Hp) (c : Mc) (n : Nd) : Prop where
  row : Xk.PkAll K H 38 c.rv (n.row.map dE)
  prm : Xk.Pk K H 1 c.pv (dB n.prm)
  acc : Xk.Pk K H 39 c.av (dA n.acc)
  frm : Xk.PkAll K H 39 c.fv (n.frm.map dU)
  los : Xk.PkAll K H 40 c.lsv n.los
  wai : Xk.PkAll K H 36 c.wv n.wai
  wan : Xk.Pk K H 1 c.wn (dW n.wan)
  lin : Xk.PkAll K H 36 c.lv n.lin
  out : Xk.PkAll K H 42 c.ov n.out
  ltr : Xk.PkAll K H 42 c.tv n.ltr
  fst : Xk.Pk K H 1 c.fm (dI n.fst)
  att : ∀ A, n.att = some A → Xk.Pk K H 1 c.tb (dB A.bal) ∧ Xk.Pk K H 38 c.te (dE A.ent) ∧ Xk.Pk K H 39 c.tz (dA A.bnd)
theorem Vm.st {H H' : Hp} {c : Mc} {n : Nd} (h : Vm K H c n) (e : Xk.St K H H') : Vm K H' c n :=
  ⟨h.row.st e, h.prm.st e, h.acc.st e, h.frm.st e, h.los.st e, h.wai.st e, h.wan.st e, h.lin.st e, h.out.st e, h.ltr.st e, h.fst.st e, fun A q => ⟨(h.att A q).1.st e, (h.att A q).2.1.st e, (h.att A q).2.2.st e⟩⟩
structure MdAt (K : PySem.W.Frag) (z : Nat) (tg : Xk.TgF) (H : Hp) (m : Addr) (c : Mc) (n : Nd) : Prop where
  lay : Xk.Lay z tg H (mdC m c n)
  vl : Vm K H c n
def MdA (K : PySem.W.Frag) (z : Nat) (tg : Xk.TgF) (H : Hp) (m : Addr) (n : Nd) : Prop := ∃ c, MdAt K z tg H m c n
theorem MdAt.mv {z y : Nat} {tg tg' : Xk.TgF} {H H' : Hp} {m : Addr} {c : Mc} {n : Nd} (h : MdAt K z tg H m c n) (v : Xk.Mv y K tg tg' H H') (ne : z ≠ y) : MdAt K z tg' H' m c n := ⟨h.lay.mv v ne, h.vl.st v.st⟩
theorem MdAt.same {z : Nat} {tg : Xk.TgF} {H H' : Hp} {m : Addr} {c : Mc} {n : Nd} (h : MdAt K z tg H m c n) (s : Same H H') : MdAt K z tg H' m c n := ⟨h.lay.same s, h.vl.st (Xk.tt_same s)⟩
theorem MdAt.put {z i t : Nat} {tg : Xk.TgF} {H : Hp} {m x : Addr} {c c' : Mc} {n n' : Nd} {o o' : HO} (h : MdAt K z tg H m c n) (e : (mdC m c n)[i]? = some (x, o, t)) (k : Xk.mutO o = true)
    (l : (mdC m c n).set i (x, o', t) = mdC m c' n') (v : Vm K (upd H x o') c n → Vm K (upd H x o') c' n') : MdAt K z tg (upd H x o') m c' n' ∧ Xk.Mv z K tg tg H (upd H x o') := by
  have g := h.lay.get e
  have mv : Xk.Mv z K tg tg H (upd H x o') := Xk.Mv.upd g.2 g.1 k
  exact ⟨⟨(h.lay.upd e).eq l, v (h.vl.st mv.st)⟩, mv⟩
theorem MdAt.rep {z i t : Nat} {tg : Xk.TgF} {H0 H : Hp} {m x p : Addr} {c c' : Mc} {n n' : Nd} {o o' : HO} (h : MdAt K z tg H0 m c n) (s : Same H0 H) (f : Xk.Fr p H0) (hp : H p = some o') (e : (mdC m c n)[i]? = some (x, o, t))
    {kv : List (Key × V)} (ni : i ≠ 0) (l : ((mdC m c n).set i (p, o', t)).set 0 (m, .dK kv, 1) = mdC m c' n') (v : Vm K (upd H m (.dK kv)) c n → Vm K (upd H m (.dK kv)) c' n') : MdAt K z (Xk.tgU tg p z t) (upd H m (.dK kv)) m c' n' ∧ Xk.Mv z K tg (Xk.tgU tg p z t) H0 (upd H m (.dK kv)) := by
  have g0 := h.lay.get (i := 0) rfl
  have tm : Xk.Tg (Xk.tgU tg p z t) m z 1 := Xk.tgU_ne (Xk.ne_new f g0.1) g0.2
  have mv : Xk.Mv z K tg (Xk.tgU tg p z t) H0 (upd H m (.dK kv)) := (Xk.Mv.new s f hp).trans (Xk.Mv.upd tm (s _ _ g0.1))
  have L := (h.lay.same s).rep e (h.lay.fr f) hp
  have e0 : ((mdC m c n).set i (p, o', t))[0]? = some (m, .dK (mK c n), 1) := by
    rw [List.getElem?_set_ne ni]
    rfl
  exact ⟨⟨(L.upd e0).eq l, v (h.vl.st mv.st)⟩, mv⟩
theorem get_index (c : Mc) (n : Nd) : valV (mK c n) (Sum.inr ("index" : Str)) = some (.int n.ix) := by rfl
theorem get_size (c : Mc) (n : Nd) : valV (mK c n) (Sum.inr ("size" : Str)) = some (.int n.sz) := by rfl
theorem get_first (c : Mc) (n : Nd) : valV (mK c n) (Sum.inr ("first" : Str)) = some (c.fm) := by rfl
theorem get_lazy (c : Mc) (n : Nd) : valV (mK c n) (Sum.inr ("lazy" : Str)) = some (.bl n.lzy) := by rfl
theorem get_state (c : Mc) (n : Nd) : valV (mK c n) (Sum.inr ("state" : Str)) = some (.str n.sta) := by rfl
theorem put_state (c : Mc) (n : Nd) (x : Str) : putK (mK c n) (Sum.inr ("state" : Str)) (.str x) = mK c { n with sta := x } := by rfl
theorem get_row (c : Mc) (n : Nd) : valV (mK c n) (Sum.inr ("row" : Str)) = some (.ref c.rw) := by rfl
theorem put_row (c : Mc) (n : Nd) (x : Addr) : putK (mK c n) (Sum.inr ("row" : Str)) (.ref x) = mK { c with rw := x } n := by rfl
theorem get_promised (c : Mc) (n : Nd) : valV (mK c n) (Sum.inr ("promised" : Str)) = some (c.pv) := by rfl
theorem put_promised (c : Mc) (n : Nd) (x : V) : putK (mK c n) (Sum.inr ("promised" : Str)) (x) = mK { c with pv := x } n := by rfl
theorem get_accepted (c : Mc) (n : Nd) : valV (mK c n) (Sum.inr ("accepted" : Str)) = some (c.av) := by rfl
theorem put_accepted (c : Mc) (n : Nd) (x : V) : putK (mK c n) (Sum.inr ("accepted" : Str)) (x) = mK { c with av := x } n := by rfl
theorem get_frames (c : Mc) (n : Nd) : valV (mK c n) (Sum.inr ("frames" : Str)) = some (.ref c.fr) := by rfl
theorem put_frames (c : Mc) (n : Nd) (x : Addr) : putK (mK c n) (Sum.inr ("frames" : Str)) (.ref x) = mK { c with fr := x } n := by rfl
theorem get_safe (c : Mc) (n : Nd) : valV (mK c n) (Sum.inr ("safe" : Str)) = some (.int n.saf) := by rfl
theorem put_safe (c : Mc) (n : Nd) (x : Nat) : putK (mK c n) (Sum.inr ("safe" : Str)) (.int (x : Int)) = mK c { n with saf := x } := by rfl
theorem get_told (c : Mc) (n : Nd) : valV (mK c n) (Sum.inr ("told" : Str)) = some (.int n.tld) := by rfl
theorem put_told (c : Mc) (n : Nd) (x : Nat) : putK (mK c n) (Sum.inr ("told" : Str)) (.int (x : Int)) = mK c { n with tld := x } := by rfl
theorem get_lost (c : Mc) (n : Nd) : valV (mK c n) (Sum.inr ("lost" : Str)) = some (.ref c.ls) := by rfl
theorem put_lost (c : Mc) (n : Nd) (x : Addr) : putK (mK c n) (Sum.inr ("lost" : Str)) (.ref x) = mK { c with ls := x } n := by rfl
theorem get_waiting (c : Mc) (n : Nd) : valV (mK c n) (Sum.inr ("waiting" : Str)) = some (.ref c.wt) := by rfl
theorem put_waiting (c : Mc) (n : Nd) (x : Addr) : putK (mK c n) (Sum.inr ("waiting" : Str)) (.ref x) = mK { c with wt := x } n := by rfl
theorem get_wanted (c : Mc) (n : Nd) : valV (mK c n) (Sum.inr ("wanted" : Str)) = some (c.wn) := by rfl
theorem put_wanted (c : Mc) (n : Nd) (x : V) : putK (mK c n) (Sum.inr ("wanted" : Str)) (x) = mK { c with wn := x } n := by rfl
theorem get_attempt (c : Mc) (n : Nd) : valV (mK c n) (Sum.inr ("attempt" : Str)) = some (atM c n.att) := by rfl
theorem put_attempt (c : Mc) (n : Nd)  : putK (mK c n) (Sum.inr ("attempt" : Str)) (.non) = mK c { n with att := none } := by rfl
theorem get_patience (c : Mc) (n : Nd) : valV (mK c n) (Sum.inr ("patience" : Str)) = some (.int n.pat) := by rfl
theorem put_patience (c : Mc) (n : Nd) (x : Int) : putK (mK c n) (Sum.inr ("patience" : Str)) (.int x) = mK c { n with pat := x } := by rfl
theorem get_guest (c : Mc) (n : Nd) : valV (mK c n) (Sum.inr ("guest" : Str)) = some (.bl n.gst) := by rfl
theorem put_guest (c : Mc) (n : Nd) (x : Bool) : putK (mK c n) (Sum.inr ("guest" : Str)) (.bl x) = mK c { n with gst := x } := by rfl
theorem get_seen (c : Mc) (n : Nd) : valV (mK c n) (Sum.inr ("seen" : Str)) = some (.int n.see) := by rfl
theorem put_seen (c : Mc) (n : Nd) (x : Int) : putK (mK c n) (Sum.inr ("seen" : Str)) (.int x) = mK c { n with see := x } := by rfl
theorem get_out (c : Mc) (n : Nd) : valV (mK c n) (Sum.inr ("out" : Str)) = some (.ref c.o) := by rfl
theorem put_out (c : Mc) (n : Nd) (x : Addr) : putK (mK c n) (Sum.inr ("out" : Str)) (.ref x) = mK { c with o := x } n := by rfl
theorem get_letters (c : Mc) (n : Nd) : valV (mK c n) (Sum.inr ("letters" : Str)) = some (.ref c.lt) := by rfl
theorem put_letters (c : Mc) (n : Nd) (x : Addr) : putK (mK c n) (Sum.inr ("letters" : Str)) (.ref x) = mK { c with lt := x } n := by rfl
theorem get_lines (c : Mc) (n : Nd) : valV (mK c n) (Sum.inr ("lines" : Str)) = some (.ref c.ln) := by rfl
theorem put_lines (c : Mc) (n : Nd) (x : Addr) : putK (mK c n) (Sum.inr ("lines" : Str)) (.ref x) = mK { c with ln := x } n := by rfl

--CUT--
local macro_rules | `(tactic| wtm_at "key") => `(tactic| (first | exact putK_new _ rfl | fail "key"))
def sp__law_forget (K : PySem.W.Frag) : Sp := fun vs H Q _ => ∃ (m : Addr) (ix sz : Int) (fm : V) (lz : Bool) (st : Str) (rl : Addr) (p0 a0 : V) (fr : Addr) (sa to : Int) (ls : Addr) (z : Nat) (tg : Xk.TgF) (M : List Xk.Cell), vs = [.ref m] ∧ Xk.Lay z tg H ((m, .dK (mK1 ix sz fm lz st rl p0 ++ mK2 a0 fr sa to ls), 1) :: M) ∧ (M.all fun c => decide (c.2.2 < 5)) = true ∧
  ∀ (H' : Hp) (tg' : Xk.TgF) (wt o lt ln : Addr), Xk.Mv z K tg tg' H H' → Xk.Lay z tg' H' (((m, .dK (mK1 ix sz fm lz st rl p0 ++ (mK2 a0 fr sa to ls ++ mK3 wt .non .non (6 + 2 * ix) false 0 o lt ln)), 1) :: M) ++ [(wt, .lst [], 5)] ++ [(o, .lst [], 6)] ++ [(lt, .lst [], 7)] ++ [(ln, .lst [], 8)]) → Q .non H'
theorem ok__law_forget (T : Txt K mg) : FnOk P w K mg base CX0 1 T.f__law_forget T.d__law_forget ["m"] (sp__law_forget K) := by
  refine T.F__law_forget.ok sc__law_forget (fun vs H Q E h => ?_) (fun cdv A outer s H vs Q E hr h => ?_)
  · obtain ⟨m, ix, sz, fm, lz, st, rl, p0, a0, fr, sa, to, ls, z, tg, M, rfl, _⟩ := h
    rfl
  obtain ⟨m, ix, sz, fm, lz, st, rl, p0, a0, fr, sa, to, ls, z, tg, M, rfl, hL, hM, q⟩ := h
  obtain ⟨hA, tA⟩ := hL.get (i := 0) rfl
  have hM : ∀ t ∈ M.map (·.2.2), t < 5 := fun t ht => by
    obtain ⟨c, hc, e⟩ := List.mem_map.mp ht
    rw [← e]
    exact of_decide_eq_true (List.all_eq_true.mp hM c hc)
  have nin : ∀ t, 5 ≤ t → t ∉ (((m, HO.dK (mK1 ix sz fm lz st rl p0 ++ mK2 a0 fr sa to ls), 1) :: M) : List Xk.Cell).map (·.2.2) := fun t ht hm => by
    rcases List.mem_cons.mp hm with e | e
    · have : t = 1 := e
      omega
    · have := hM t e
      omega
  refine ⟨_, (pss_cons (ps_dput (hu_of hr) (pv 0) (pe_str) (pe_lst pa_nil) rfl)
      (pss_cons (ps_dput (hu_of hr) (pv 0) (pe_str) (pe_non) rfl)
      (pss_cons (ps_dput (hu_of hr) (pv 0) (pe_str) (pe_non) rfl)
      (pss_cons (ps_dput (hu_of hr) (pv 0) (pe_str) (pe_op op_add (pe_int) (pe_op op_mul (pe_int) (pe_dget (hu_of hr) (pv 0) (pe_str) (fun _ _ => rfl)))) rfl)
      (pss_cons (ps_dput (hu_of hr) (pv 0) (pe_str) (pe_bl) rfl)
      (pss_cons (ps_dput (hu_of hr) (pv 0) (pe_str) (pe_int) rfl)
      (pss_cons (ps_dput (hu_of hr) (pv 0) (pe_str) (pe_lst pa_nil) rfl)
      (pss_cons (ps_dput (hu_of hr) (pv 0) (pe_str) (pe_lst pa_nil) rfl)
      (pss_one (ps_dput (hu_of hr) (pv 0) (pe_str) (pe_lst pa_nil) rfl)))))))))), ?_⟩
  wtm_at "x0"
  wtm_at "xs"
  intro wt H2 fwt s2 h2
  have hA2 := s2 _ _ hA
  have L2 := (hL.same s2).add (t := 5) (hL.fr fwt) h2 (nin 5 (by decide))
  have m2 : Xk.Mv z K tg (Xk.tgU tg wt z 5) H H2 := Xk.Mv.new s2 fwt h2
  have tA2 := (L2.get (i := 0) rfl).2
  wtm_at "xs"
  intro o H3 fo s3 h3
  have L2' := L2.butS (i := 0) s3 rfl (by wtm_at "bm") upd_same
  have m3 := m2.trans (Xk.Mv.butS s3 tA2 hA2 (by wtm_at "bm") upd_same)
  have hA3 := s3 _ _ upd_same
  have L3 := (L2'.same s3).add (t := 6) (L2'.fr fo) h3 (fun hm => nin 6 (by decide) (by simpa using hm))
  have m4 := m3.trans (Xk.Mv.new (z := z) (i := 6) s3 fo h3)
  have tA3 := (L3.get (i := 0) rfl).2
  wtm_at "xs"
  intro lt H4 flt s4 h4
  have L3' := L3.butS (i := 0) s4 rfl (by wtm_at "bm") upd_same
  have m5 := m4.trans (Xk.Mv.butS s4 tA3 hA3 (by wtm_at "bm") upd_same)
  have hA4 := s4 _ _ upd_same
  have L4 := (L3'.same s4).add (t := 7) (L3'.fr flt) h4 (fun hm => nin 7 (by decide) (by simpa using hm))
  have m6 := m5.trans (Xk.Mv.new (z := z) (i := 7) s4 flt h4)
  have tA4 := (L4.get (i := 0) rfl).2
  wtm_at "xs"
  intro ln H5 fln s5 h5
  have L4' := L4.butS (i := 0) s5 rfl (by wtm_at "bm") upd_same
  have m7 := m6.trans (Xk.Mv.butS s5 tA4 hA4 (by wtm_at "bm") upd_same)
  have hA5 := s5 _ _ upd_same
  have L5 := (L4'.same s5).add (t := 8) (L4'.fr fln) h5 (fun hm => nin 8 (by decide) (by simpa using hm))
  have m8 := m7.trans (Xk.Mv.new (z := z) (i := 8) s5 fln h5)
  have tA5 := (L5.get (i := 0) rfl).2
  wtm_at "xs"
  exact q _ _ wt o lt ln (m8.trans (Xk.Mv.upd tA5 hA5)) ((L5.upd (i := 0) rfl).eq rfl)
--CUT--
local macro_rules | `(tactic| wtm_at "key") => `(tactic| (first | exact putK_new _ rfl | fail "key"))
def sp__law_new (K : PySem.W.Frag) : Sp := fun vs H Q _ => ∃ (ix sz : Int) (fm : V) (lz : Bool) (z : Nat) (tg : Xk.TgF) (fs : List Int), vs = [.int ix, .int sz, fm, .bl lz] ∧ Xk.Pk K H 1 fm (dI fs) ∧
  ∀ (H' : Hp) (tg' : Xk.TgF) (m : Addr), Xk.Mv z K tg tg' H H' → MdA K z tg' H' m (nd0 ix sz fs lz) → Q (.ref m) H'
theorem ok__law_new (T : Txt K mg) : FnOk P w K mg base CX0 2 T.f__law_new T.d__law_new ["index", "size", "first", "lazy"] (sp__law_new K) := by
  refine T.F__law_new.ok sc__law_new (fun vs H Q E h => ?_) (fun cdv A outer s H vs Q E hr h => ?_)
  · obtain ⟨ix, sz, fm, lz, z, tg, fs, rfl, _⟩ := h
    rfl
  obtain ⟨ix, sz, fm, lz, z, tg, fs, rfl, hf, q⟩ := h
  refine ⟨_, (pss_cons (ps_set (i := 4) sc__law_new.nd rfl (Or.inl rfl) (pe_disp (pps_cons (pe_str) (pv 0) (pps_cons (pe_str) (pv 1) (pps_cons (pe_str) (pv 2) (pps_cons (pe_str) (pv 3) (pps_cons (pe_str) (pe_str) (pps_cons (pe_str) (pe_lst pa_nil) (pps_cons (pe_str) (pe_tup (pa_cons (pe_int) (pa_cons (pe_int) pa_nil))) pps_nil))))))) (by rfl) (by rfl) (fun z => by cases z) (by decide)))
      (pss_cons (ps_dput (hu_of hr) (pv 4) (pe_str) (pe_non) rfl)
      (pss_cons (ps_dput (hu_of hr) (pv 4) (pe_str) (pe_lst pa_nil) rfl)
      (pss_cons (ps_dput (hu_of hr) (pv 4) (pe_str) (pe_int) rfl)
      (pss_cons (ps_dput (hu_of hr) (pv 4) (pe_str) (pe_int) rfl)
      (pss_cons (ps_dput (hu_of hr) (pv 4) (pe_str) (pe_lst pa_nil) rfl)
      (pss_cons (ps_expr (pe_call (ok__law_forget T) (hr.mono (by decide)) (by rfl) T.g__law_forget T.F__law_forget.kp T.b__law_forget .nil pass0 (pa_cons (pv 4) pa_nil)))
      (pss_one (ps_ret (pv 4)))))))))), ?_⟩
  wtm_at "x0"
  wtm_at "xs"
  refine Xk.x_disp fun m f0 => ?_
  have m0 : Xk.Mv z K tg (Xk.tgU tg m z 1) H (upd H m (.dK [])) := Xk.Mv.new (Xk.same_fr f0) f0 upd_same
  have L0 : Xk.Lay z (Xk.tgU tg m z 1) (upd H m (.dK [])) [(m, .dK [], 1)] := (Xk.Lay.nil (z := z) (tg := tg)).addR (t := 1) (fun h => by cases h) upd_same
  obtain ⟨hA0, tA0⟩ := L0.get (i := 0) rfl
  wtm_at "xs"
  intro rl H1 frl s1 h1
  have L1 := (L0.same s1).addR (t := 2) (L0.fr frl) h1
  have m1 := m0.trans (Xk.Mv.new (z := z) (i := 2) s1 frl h1)
  obtain ⟨hA1, tA1⟩ := L1.get (i := 0) rfl
  wtm_at "xs"
  intro pp H2 fpp s2 h2
  have L2 := L1.same s2
  have m2 := m1.trans (Xk.Mv.same s2)
  obtain ⟨hA2, tA2⟩ := L2.get (i := 0) rfl
  wtm_at "xs"
  refine ⟨hA2, mK1 ix sz fm lz "up" rl (.ref pp), rfl, Nat.le_of_ble_eq_true rfl, ?_⟩
  rw [show mergeK [] (mK1 ix sz fm lz "up" rl (.ref pp)) = mK1 ix sz fm lz "up" rl (.ref pp) from rfl]
  have L3 := L2.upd (i := 0) (o' := .dK (mK1 ix sz fm lz "up" rl (.ref pp))) rfl
  have m3 : Xk.Mv z K _ _ H2 _ := Xk.Mv.upd (o' := .dK (mK1 ix sz fm lz "up" rl (.ref pp))) tA2 hA2
  wtm_at "xs"
  intro fr H3 ffr s3 h3
  have L3' := L3.butS (i := 0) s3 rfl (by wtm_at "bm") upd_same
  have m4 := m3.trans (Xk.Mv.butS s3 tA2 upd_same (by wtm_at "bm") upd_same)
  have L4 := (L3'.same s3).addR (t := 3) (L3'.fr ffr) h3
  have m5 := m4.trans (Xk.Mv.new (z := z) (i := 3) s3 ffr h3)
  obtain ⟨hA3, tA3⟩ := L4.get (i := 0) rfl
  wtm_at "xs"
  intro ls H4 fls s4 h4
  have L4' := L4.butS (i := 0) s4 rfl (by wtm_at "bm") upd_same
  have m6 := m5.trans (Xk.Mv.butS s4 tA3 hA3 (by wtm_at "bm") upd_same)
  have L5 := (L4'.same s4).addR (t := 4) (L4'.fr fls) h4
  have m7 := m6.trans (Xk.Mv.new (z := z) (i := 4) s4 fls h4)
  obtain ⟨hA4, tA4⟩ := L5.get (i := 0) rfl
  wtm_at "xs"
  have L6 := L5.upd (i := 0) (o' := .dK (mK1 ix sz fm lz "up" rl (.ref pp) ++ mK2 .non fr 0 0 ls)) rfl
  have m8 := m7.trans (Xk.Mv.upd (o' := .dK (mK1 ix sz fm lz "up" rl (.ref pp) ++ mK2 .non fr 0 0 ls)) tA4 hA4)
  refine ⟨m, ix, sz, fm, lz, "up", rl, .ref pp, .non, fr, 0, 0, ls, z, _, _, rfl, L6.eq rfl, rfl, fun H' tg' wt o lt ln mv L => ?_⟩
  wtm_at "xs"
  have pk0 : Xk.Pk K H2 1 (.ref pp) (dB (0, 0)) := pk_ofB (b := (0, 0)) (Xk.st_of h2)
  have st1 : Xk.St K H2 H' := (m8.trans mv).st
  have mm := m2.trans (m8.trans mv)
  exact q H' tg' m mm ⟨{ rw := rl, fr := fr, ls := ls, wt := wt, o := o, lt := lt, ln := ln, rv := [], fv := [], lsv := [], wv := [], ov := [], tv := [], lv := [], fm := fm, pv := .ref pp, av := .non, wn := .non, t := 0, tp := 0, tq := 0, tb := .non, te := .non, tz := .non }, L.eq rfl,
    ⟨Xk.pk_nil, pk0.st st1, Xk.pk_non, Xk.pk_nil, Xk.pk_nil, Xk.pk_nil, Xk.pk_non, Xk.pk_nil, Xk.pk_nil, Xk.pk_nil, hf.st mm.st, fun A e => by cases e⟩⟩
--CUT--
local macro_rules | `(tactic| wtm_at "key") => `(tactic| (first | assumption | (with_reducible exact get_index _ _) | (with_reducible exact get_size _ _) | (with_reducible exact get_first _ _) | (with_reducible exact get_lazy _ _) | (with_reducible exact get_state _ _) | (with_reducible exact put_state _ _ _) | (with_reducible exact get_row _ _) | (with_reducible exact put_row _ _ _) | (with_reducible exact get_promised _ _) | (with_reducible exact put_promised _ _ _) | (with_reducible exact get_accepted _ _) | (with_reducible exact put_accepted _ _ _) | (with_reducible exact get_frames _ _) | (with_reducible exact put_frames _ _ _) | (with_reducible exact get_safe _ _) | (with_reducible exact put_safe _ _ _) | (with_reducible exact get_told _ _) | (with_reducible exact put_told _ _ _) | (with_reducible exact get_lost _ _) | (with_reducible exact put_lost _ _ _) | (with_reducible exact get_waiting _ _) | (with_reducible exact put_waiting _ _ _) | (with_reducible exact get_wanted _ _) | (with_reducible exact put_wanted _ _ _) | (with_reducible exact get_attempt _ _) | (with_reducible exact put_attempt _ _) | (with_reducible exact get_patience _ _) | (with_reducible exact put_patience _ _ _) | (with_reducible exact get_guest _ _) | (with_reducible exact put_guest _ _ _) | (with_reducible exact get_seen _ _) | (with_reducible exact put_seen _ _ _) | (with_reducible exact get_out _ _) | (with_reducible exact put_out _ _ _) | (with_reducible exact get_letters _ _) | (with_reducible exact put_letters _ _ _) | (with_reducible exact get_lines _ _) | (with_reducible exact put_lines _ _ _) | fail "key"))
def sp__law_members_of (K : PySem.W.Frag) : Sp := fun vs H Q _ => ∃ (m : Addr) (z : Nat) (tg : Xk.TgF) (n : Nd), vs = [.ref m] ∧ MdA K z tg H m n ∧ ∀ v, Xk.Pk K H 1 v (dI (mbs n)) → Q v H
theorem ok__law_members_of (T : Txt K mg) : FnOk P w K mg base CX0 1 T.f__law_members_of T.d__law_members_of ["m"] (sp__law_members_of K) := by
  refine T.F__law_members_of.ok sc__law_members_of (fun vs H Q E h => ?_) (fun cdv A outer s H vs Q E hr h => ?_)
  · obtain ⟨m, z, tg, n, rfl, _⟩ := h
    rfl
  obtain ⟨m, z, tg, n, rfl, ⟨c, hN⟩, q⟩ := h
  obtain ⟨hA, tA⟩ := hN.lay.get (i := 0) rfl
  obtain ⟨hW, tW⟩ := hN.lay.get (i := 1) rfl
  obtain ⟨hF, tF⟩ := hN.lay.get (i := 2) rfl
  obtain ⟨hB, tB⟩ := hN.lay.get (i := 3) rfl
  obtain ⟨hT, tT⟩ := hN.lay.get (i := 4) rfl
  obtain ⟨hO, tO⟩ := hN.lay.get (i := 5) rfl
  obtain ⟨hE, tE⟩ := hN.lay.get (i := 6) rfl
  obtain ⟨hL, tL⟩ := hN.lay.get (i := 7) rfl
  have vl := hN.vl
  refine ⟨_, (pss_cons (ps_set (i := 1) sc__law_members_of.nd rfl (Or.inl rfl) (pe_dget (hu_of hr) (pv 0) (pe_str) (fun _ _ => rfl)))
      (pss_cons (ps_for PassesOwn.never rfl (pi_list (pe_dget (hu_of hr) (pv 0) (pe_str) (fun _ _ => rfl))) (pg_name (i := 2) sc__law_members_of.nd rfl (Or.inl rfl)) (pss_one (ps_if (pt_cmpR op_eq (pe_ix (Xk.k_ixT (K := K) (by rfl)) (pv 2) (pe_int) (fun _ _ => rfl)) (pe_str) (nomark _)) (pss_one (ps_set (i := 1) sc__law_members_of.nd rfl (Or.inl rfl) (pe_ix (Xk.k_ixT (K := K) (by rfl)) (pv 2) (pe_int) (fun _ _ => rfl)))) pss_nil)))
      (pss_one (ps_ret (pv 1))))), ?_⟩
  wtm_at "x0"
  wtm_at "xs"
  refine Xk.x_forL (fun i σ' H' => H' = H ∧ ∃ v y, σ' = [some (.ref m), some v, y] ∧ Xk.Pk K H 1 v (dI (memOf n.fst (n.row.take i)))) (Xk.sq_of hW) ⟨rfl, _, _, rfl, vl.fst⟩ (fun i σ' H' _ hh => by rw [hh.1]; exact Xk.sq_of hW) ?_ ?_
  · rintro i x σ' H' hi ⟨rfl, v, y, rfl, pv'⟩
    obtain ⟨d, hd, pd⟩ := vl.row.at hi
    obtain ⟨e, he, rfl⟩ := Xk.of_map_at hd
    have htk : n.row.take (i + 1) = n.row.take i ++ [e] := by rw [List.take_add_one, he]; rfl
    cases e with
    | mem ms =>
      obtain ⟨a, v1, v2, rfl, hs, p3, p4⟩ := pk_pair pd
      rw [pk_strD p3] at hs
      wtm_at "xs"
      exact ⟨rfl, _, _, rfl, by rw [htk, memOf_snoc]; exact pk_low p4 (dep_I ms)⟩
    | bat cs =>
      obtain ⟨a, v1, v2, rfl, hs, p3, p4⟩ := pk_pair pd
      rw [pk_strD p3] at hs
      wtm_at "xs"
      exact ⟨rfl, _, _, rfl, by rw [htk, memOf_snoc]; exact pv'⟩
  · rintro σ' H' ⟨rfl, v, y, rfl, pv'⟩
    wtm_at "xs"
    rw [vl.row.len, List.length_map, List.take_length] at pv'
    exact q v pv'
def sp__law_do (K : PySem.W.Frag) : Sp := fun vs H Q _ => ∃ (m : Addr) (z : Nat) (tg : Xk.TgF) (n : Nd) (uv : V) (u : Up), vs = [.ref m, uv] ∧ MdA K z tg H m n ∧ Xk.Pk K H 39 uv (dU u) ∧ n.row.length ≤ 9000 ∧
  ∀ (H' : Hp) (tg' : Xk.TgF), Xk.Mv z K tg tg' H H' → MdA K z tg' H' m (doU n u) → Q .non H'
theorem ok__law_do (T : Txt K mg) : FnOk P w K mg base CX0 1 T.f__law_do T.d__law_do ["m", "update"] (sp__law_do K) := by
  refine T.F__law_do.ok sc__law_do (fun vs H Q E h => ?_) (fun cdv A outer s H vs Q E hr h => ?_)
  · obtain ⟨m, z, tg, n, uv, u, rfl, _⟩ := h
    rfl
  obtain ⟨m, z, tg, n, uv, u, rfl, ⟨c, hN⟩, hu, hl, q⟩ := h
  obtain ⟨hA, tA⟩ := hN.lay.get (i := 0) rfl
  obtain ⟨hW, tW⟩ := hN.lay.get (i := 1) rfl
  obtain ⟨hF, tF⟩ := hN.lay.get (i := 2) rfl
  obtain ⟨hB, tB⟩ := hN.lay.get (i := 3) rfl
  obtain ⟨hT, tT⟩ := hN.lay.get (i := 4) rfl
  obtain ⟨hO, tO⟩ := hN.lay.get (i := 5) rfl
  obtain ⟨hE, tE⟩ := hN.lay.get (i := 6) rfl
  obtain ⟨hL, tL⟩ := hN.lay.get (i := 7) rfl
  have vl := hN.vl
  refine ⟨_, (pss_one (ps_if (pt_cmpR op_eq (pe_ix (Xk.k_ixT (K := K) (by rfl)) (pv 1) (pe_int) (fun _ _ => rfl)) (pe_str) (nomark _)) (pss_one (ps_dput (hu_of hr) (pv 0) (pe_str) (pe_ix (Xk.k_ixT (K := K) (by rfl)) (pv 1) (pe_int) (fun _ _ => rfl)) rfl)) (pss_one (ps_if (pt_cmpR op_eq (pe_ix (Xk.k_ixT (K := K) (by rfl)) (pv 1) (pe_int) (fun _ _ => rfl)) (pe_str) (nomark _)) (pss_cons (ps_dput (hu_of hr) (pv 0) (pe_str) (pe_ix (Xk.k_ixT (K := K) (by rfl)) (pv 1) (pe_int) (fun _ _ => rfl)) rfl)
      (pss_one (ps_dput (hu_of hr) (pv 0) (pe_str) (pe_tup (pa_cons (pe_ix (Xk.k_ixT (K := K) (by rfl)) (pv 1) (pe_int) (fun _ _ => rfl)) (pa_cons (pe_ix (Xk.k_ixT (K := K) (by rfl)) (pv 1) (pe_int) (fun _ _ => rfl)) pa_nil))) rfl))) (pss_cons (ps_dput (hu_of hr) (pv 0) (pe_str) (pe_op op_cat (pe_dget (hu_of hr) (pv 0) (pe_str) (fun _ _ => rfl)) (pe_lst (pa_cons (pe_ix (Xk.k_ixT (K := K) (by rfl)) (pv 1) (pe_int) (fun _ _ => rfl)) pa_nil))) rfl)
      (pss_cons (ps_dput (hu_of hr) (pv 0) (pe_str) (pe_tup (pa_cons (pe_int) (pa_cons (pe_int) pa_nil))) rfl)
      (pss_one (ps_dput (hu_of hr) (pv 0) (pe_str) (pe_non) rfl)))))))), ?_⟩
  wtm_at "x0"
  cases u with
  | pro s b =>
    obtain ⟨a, vs, rfl, hs, hp⟩ := pk_tupD hu
    obtain ⟨v1, w1, rfl, p1, hp⟩ := pk_more hp
    obtain ⟨v2, w2, rfl, p2, hp⟩ := pk_more hp
    obtain ⟨v3, rfl, p3⟩ := pk_one hp
    rw [pk_strD p1] at hs
    wtm_at "xs"
    have hp := hN.put (i := 0) (c' := { c with pv := v3 }) (n' := doU n (.pro s b)) (o' := .dK (mK { c with pv := v3 } n)) rfl rfl rfl (fun y => { y with prm := (pk_low p3 (dep_B b)).st (Xk.st_updD hA) })
    exact q _ _ hp.2 ⟨_, hp.1⟩
  | acc s b e =>
    obtain ⟨a, vs, rfl, hs, hp⟩ := pk_tupD hu
    obtain ⟨v1, w1, rfl, p1, hp⟩ := pk_more hp
    obtain ⟨v2, w2, rfl, p2, hp⟩ := pk_more hp
    obtain ⟨v3, w3, rfl, p3, hp⟩ := pk_more hp
    obtain ⟨v4, rfl, p4⟩ := pk_one hp
    rw [pk_strD p1] at hs
    have hp1 := hN.put (i := 0) (c' := { c with pv := v3 }) (n' := { n with prm := b }) (o' := .dK (mK { c with pv := v3 } n)) rfl rfl rfl (fun y => { y with prm := (pk_low p3 (dep_B b)).st (Xk.st_updD hA) })
    have hs2 : SqT K (upd H m (.dK (mK { c with pv := v3 } n))) a [.str "accept", v2, v3, v4] := (Xk.st_updD hA).t _ _ hs
    have hp3 := (pk_low p3 (dep_B b)).st (Xk.st_updD (o' := .dK (mK { c with pv := v3 } n)) hA)
    have hp4 := p4.st (Xk.st_updD (o' := .dK (mK { c with pv := v3 } n)) hA)
    wtm_at "xs"
    intro p H2 fp s2 h2
    have hA2 := s2 _ _ upd_same
    wtm_at "xs"
    have pa : Xk.Pk K H2 39 (.ref p) (dA (some (b, e))) := Xk.pk_tup2 (Xk.st_of h2) ((hp3.same s2).mono (by decide)) (hp4.same s2)
    have hp2 := (hp1.1.same s2).put (i := 0) (c' := { c with pv := v3, av := .ref p }) (n' := doU n (.acc s b e)) (o' := .dK (mK { c with pv := v3, av := .ref p } n)) rfl rfl rfl (fun y => { y with acc := pa.st (Xk.st_updD hA2) })
    exact q _ _ ((hp1.2.trans (Xk.Mv.same s2)).trans hp2.2) ⟨_, hp2.1⟩
  | cho s e =>
    obtain ⟨a, vs, rfl, hs, hp⟩ := pk_tupD hu
    obtain ⟨v1, w1, rfl, p1, hp⟩ := pk_more hp
    obtain ⟨v2, w2, rfl, p2, hp⟩ := pk_more hp
    obtain ⟨v3, rfl, p3⟩ := pk_one hp
    rw [pk_strD p1] at hs
    wtm_at "xs"
    intro p1' H1 fp1 s1 h1
    have hW1 := s1 _ _ hW
    have lr : c.rv.length = n.row.length := by rw [vl.row.len, List.length_map]
    refine Xk.x_cat hW1 h1 (by rw [lr, List.length_singleton]; omega) fun rl H2 frl s2 h2 => ?_
    have hA2 := (s1.trans s2) _ _ hA
    wtm_at "xs"
    intro pp H3 fpp s3 h3
    have hA3 := s3 _ _ upd_same
    wtm_at "xs"
    have hr1 := hN.rep (i := 1) (p := rl) (c' := { c with rw := rl, rv := c.rv ++ [v3] }) (n' := { n with row := n.row ++ [e] }) (kv := mK { c with rw := rl } n) (s1.trans s2) (Xk.free_back frl s1) h2 rfl (by decide) rfl (fun y => { y with row := ?_ })
    · have hp2 := (hr1.1.same s3).put (i := 0) (c' := { c with rw := rl, rv := c.rv ++ [v3], pv := .ref pp }) (n' := { n with row := n.row ++ [e], prm := (0, 0) }) (o' := .dK (mK { c with rw := rl, pv := .ref pp } n)) rfl rfl rfl (fun y => { y with prm := (pk_ofB (b := (0, 0)) (Xk.st_of h3)).st (Xk.st_updD hA3) })
      have hp3 := hp2.1.put (i := 0) (c' := { c with rw := rl, rv := c.rv ++ [v3], pv := .ref pp, av := .non }) (n' := doU n (.cho s e)) (o' := .dK (mK { c with rw := rl, pv := .ref pp, av := .non } n)) rfl rfl rfl (fun y => { y with acc := Xk.pk_non })
      exact q _ _ (((hr1.2.trans (Xk.Mv.same s3)).trans hp2.2).trans hp3.2) ⟨_, hp3.1⟩
    · show Xk.PkAll K _ 38 (c.rv ++ [v3]) ((n.row ++ [e]).map dE)
      rw [List.map_append]
      exact Xk.pk_snoc y.row (p3.st ((Xk.tt_same (s1.trans s2)).trans (Xk.st_updD hA2)))
--CUT--
local macro_rules | `(tactic| wtm_at "key") => `(tactic| (first | assumption | (with_reducible exact get_index _ _) | (with_reducible exact get_size _ _) | (with_reducible exact get_first _ _) | (with_reducible exact get_lazy _ _) | (with_reducible exact get_state _ _) | (with_reducible exact put_state _ _ _) | (with_reducible exact get_row _ _) | (with_reducible exact put_row _ _ _) | (with_reducible exact get_promised _ _) | (with_reducible exact put_promised _ _ _) | (with_reducible exact get_accepted _ _) | (with_reducible exact put_accepted _ _ _) | (with_reducible exact get_frames _ _) | (with_reducible exact put_frames _ _ _) | (with_reducible exact get_safe _ _) | (with_reducible exact put_safe _ _ _) | (with_reducible exact get_told _ _) | (with_reducible exact put_told _ _ _) | (with_reducible exact get_lost _ _) | (with_reducible exact put_lost _ _ _) | (with_reducible exact get_waiting _ _) | (with_reducible exact put_waiting _ _ _) | (with_reducible exact get_wanted _ _) | (with_reducible exact put_wanted _ _ _) | (with_reducible exact get_attempt _ _) | (with_reducible exact put_attempt _ _) | (with_reducible exact get_patience _ _) | (with_reducible exact put_patience _ _ _) | (with_reducible exact get_guest _ _) | (with_reducible exact put_guest _ _ _) | (with_reducible exact get_seen _ _) | (with_reducible exact put_seen _ _ _) | (with_reducible exact get_out _ _) | (with_reducible exact put_out _ _ _) | (with_reducible exact get_letters _ _) | (with_reducible exact put_letters _ _ _) | (with_reducible exact get_lines _ _) | (with_reducible exact put_lines _ _ _) | fail "key"))
def sp__law_note (K : PySem.W.Frag) : Sp := fun vs H Q _ => ∃ (m : Addr) (z : Nat) (tg : Xk.TgF) (n : Nd) (uv : V) (u : Up), vs = [.ref m, uv] ∧ MdA K z tg H m n ∧ Wf n ∧ Xk.Pk K H 39 uv (dU u) ∧
  ∀ (H' : Hp) (tg' : Xk.TgF), Xk.Mv z K tg tg' H H' → MdA K z tg' H' m (note n u) → Q .non H'
theorem ok__law_note (T : Txt K mg) : FnOk P w K mg base CX0 2 T.f__law_note T.d__law_note ["m", "update"] (sp__law_note K) := by
  refine T.F__law_note.ok sc__law_note (fun vs H Q E h => ?_) (fun cdv A outer s H vs Q E hr h => ?_)
  · obtain ⟨m, z, tg, n, uv, u, rfl, _⟩ := h
    rfl
  obtain ⟨m, z, tg, n, uv, u, rfl, ⟨c, hN⟩, wf, hu, q⟩ := h
  obtain ⟨hA, tA⟩ := hN.lay.get (i := 0) rfl
  obtain ⟨hW, tW⟩ := hN.lay.get (i := 1) rfl
  obtain ⟨hF, tF⟩ := hN.lay.get (i := 2) rfl
  obtain ⟨hB, tB⟩ := hN.lay.get (i := 3) rfl
  obtain ⟨hT, tT⟩ := hN.lay.get (i := 4) rfl
  obtain ⟨hO, tO⟩ := hN.lay.get (i := 5) rfl
  obtain ⟨hE, tE⟩ := hN.lay.get (i := 6) rfl
  obtain ⟨hL, tL⟩ := hN.lay.get (i := 7) rfl
  have vl := hN.vl
  have lf : c.fv.length = n.frm.length := by rw [vl.frm.len, List.length_map]
  have w1 := wf.frm
  refine ⟨_, (pss_cons (ps_expr (pe_bm PySem.F.plainAttrs_list PySem.F.slot_list_append PySem.F.type_list_append mt_append (pe_dget (hu_of hr) (pv 0) (pe_str) (fun _ _ => rfl)) (pa_cons (pv 1) pa_nil)))
      (pss_one (ps_expr (pe_call (ok__law_do T) (hr.mono (by decide)) (by rfl) T.g__law_do T.F__law_do.kp T.b__law_do .nil pass0 (pa_cons (pv 0) (pa_cons (pv 1) pa_nil)))))), ?_⟩
  wtm_at "x0"
  wtm_at "xs"
  have hp := hN.put (i := 2) (c' := { c with fv := c.fv ++ [uv] }) (n' := { n with frm := n.frm ++ [u] }) (o' := .lst (c.fv ++ [uv])) rfl rfl rfl (fun y => { y with frm := (by rw [List.map_append]; exact Xk.pk_snoc y.frm (hu.st (Xk.st_updL hF))) })
  refine ⟨m, z, tg, _, uv, u, rfl, ⟨_, hp.1⟩, hu.st hp.2.st, by have := wf.row; show n.row.length ≤ 9000; omega, fun H' tg' mv hm => ?_⟩
  have e : doU { n with frm := n.frm ++ [u] } u = note n u := by
    cases u <;> rfl
  rw [e] at hm
  exact q H' tg' (hp.2.trans mv) hm
def sp__law_post (K : PySem.W.Frag) : Sp := fun vs H Q _ => ∃ (m r : Addr) (bv : V) (z : Nat) (tg : Xk.TgF) (n : Nd) (rs : List Int) (d : PyData), vs = [.ref m, .ref r, bv] ∧ MdA K z tg H m n ∧ Wf n ∧ H r = some (.lst (rs.map V.int)) ∧ (tg r).1 ≠ z ∧ rs.length ≤ 1000 ∧ Xk.Pk K H 41 bv d ∧
  ∀ (H' : Hp), Xk.Mv z K tg tg H H' → MdA K z tg H' m (post n rs d) → Q .non H'
theorem ok__law_post (T : Txt K mg) : FnOk P w K mg base CX0 1 T.f__law_post T.d__law_post ["m", "receivers", "body"] (sp__law_post K) := by
  refine T.F__law_post.ok sc__law_post (fun vs H Q E h => ?_) (fun cdv A outer s H vs Q E hr h => ?_)
  · obtain ⟨m, r, bv, z, tg, n, rs, d, rfl, _⟩ := h
    rfl
  obtain ⟨m, r, bv, z, tg, n, rs, d, rfl, ⟨c, hN⟩, wf, hr0, tr, hl, hb, q⟩ := h
  have w1 := wf.out
  refine ⟨_, (pss_one (ps_for PassesOwn.never rfl (pi_list (pv 1)) (pg_name (i := 3) sc__law_post.nd rfl (Or.inl rfl)) (pss_one (ps_expr (pe_bm PySem.F.plainAttrs_list PySem.F.slot_list_append PySem.F.type_list_append mt_append (pe_dget (hu_of hr) (pv 0) (pe_str) (fun _ _ => rfl)) (pa_cons (pe_tup (pa_cons (pv 3) (pa_cons (pv 2) pa_nil))) pa_nil)))))), ?_⟩
  wtm_at "x0"
  wtm_at "xs"
  refine Xk.x_forL (fun i σ' H' => Xk.Mv z K tg tg H H' ∧ (∃ y, σ' = [some (.ref m), some (.ref r), some bv, y]) ∧ MdA K z tg H' m (post n (rs.take i) d)) (Xk.sq_of hr0) ⟨Xk.Mv.refl, ⟨_, rfl⟩, ?_⟩ (fun i σ' H' _ hh => Xk.sq_of (hh.1.un _ _ tr hr0)) ?_ ?_
  · unfold post
    rw [List.take_zero, List.map_nil, List.append_nil]
    exact ⟨c, hN⟩
  · rintro i x σ' H' hi ⟨mv, ⟨y, rfl⟩, ⟨c2, hN2⟩⟩
    obtain ⟨k, hk, rfl⟩ := Xk.of_map_at hi
    have hA2 := (hN2.lay.get (i := 0) rfl).1
    have hO2 := (hN2.lay.get (i := 5) rfl).1
    have lo : c2.ov.length ≤ 90000 := by
      rw [hN2.vl.out.len]
      show (n.out ++ _).length ≤ 90000
      rw [List.length_append, List.length_map, List.length_take]
      omega
    wtm_at "xs"
    intro p H3 fp s3 h3
    have hO3 := s3 _ _ hO2
    wtm_at "xs"
    have pp : Xk.Pk K H3 42 (.ref p) (dM k d) := Xk.pk_tup2 (Xk.st_of h3) Xk.pk_int ((hb.st mv.st).same s3)
    have e : (post n (rs.take (i + 1)) d).out = (post n (rs.take i) d).out ++ [dM k d] := by
      unfold post
      rw [List.take_add_one, hk, Option.toList_some, List.map_append, List.map_singleton, ← List.append_assoc]
    have hp := (hN2.same s3).put (i := 5) (c' := { c2 with ov := c2.ov ++ [.ref p] }) (n' := post n (rs.take (i + 1)) d) (o' := .lst (c2.ov ++ [.ref p])) rfl rfl rfl (fun y => { y with out := (by rw [e]; exact Xk.pk_snoc y.out (pp.st (Xk.st_updL hO3))) })
    exact ⟨(mv.trans (Xk.Mv.same s3)).trans hp.2, ⟨_, rfl⟩, ⟨_, hp.1⟩⟩
  · rintro σ' H' ⟨mv, ⟨y, rfl⟩, hm⟩
    rw [List.length_map, List.take_length] at hm
    exact q H' mv hm
def sp__law_all (K : PySem.W.Frag) : Sp := fun vs H Q _ => ∃ (m : Addr) (z : Nat) (tg : Xk.TgF) (n : Nd), vs = [.ref m] ∧ MdA K z tg H m n ∧ Wf n ∧ ∀ (H' : Hp) (p : Addr), Same H H' → Xk.Fr p H → H' p = some (.lst ((alls n).map V.int)) → Q (.ref p) H'
theorem ok__law_all (T : Txt K mg) : FnOk P w K mg base CX0 1 T.f__law_all T.d__law_all ["m"] (sp__law_all K) := by
  refine T.F__law_all.ok sc__law_all (fun vs H Q E h => ?_) (fun cdv A outer s H vs Q E hr h => ?_)
  · obtain ⟨m, z, tg, n, rfl, _⟩ := h
    rfl
  obtain ⟨m, z, tg, n, rfl, ⟨c, hN⟩, wf, q⟩ := h
  obtain ⟨hA, tA⟩ := hN.lay.get (i := 0) rfl
  obtain ⟨hW, tW⟩ := hN.lay.get (i := 1) rfl
  obtain ⟨hF, tF⟩ := hN.lay.get (i := 2) rfl
  obtain ⟨hB, tB⟩ := hN.lay.get (i := 3) rfl
  obtain ⟨hT, tT⟩ := hN.lay.get (i := 4) rfl
  obtain ⟨hO, tO⟩ := hN.lay.get (i := 5) rfl
  obtain ⟨hE, tE⟩ := hN.lay.get (i := 6) rfl
  obtain ⟨hL, tL⟩ := hN.lay.get (i := 7) rfl
  have vl := hN.vl
  have w2 := wf.sz
  refine ⟨_, (pss_one (ps_ret (pe_lc (own := [("index", 1)]) (g := gName 1) (tt := tYes) rfl sc__law_all.nd  (pi_range1 (by rfl) T.m_range (pa_cons (pe_dget (hu_of hr) (pv 0) (pe_str) (fun _ _ => rfl)) pa_nil)) (blkOk_by (N := N__law_all) (sc := defScope s__law_all) (own := [("index", 1)]) (by decide +kernel)) (fun _ _ _ _ _ => pg_name (i := 1) sc__law_all.nd rfl (Or.inl rfl)) (fun _ _ _ _ _ => pts_nil) (fun _ _ _ _ _ => (pv 1))))), ?_⟩
  wtm_at "x0"
  wtm_at "xs"
  refine Xk.x_lcR (fun Dl i H' => H' = upd H Dl (.lst (((alls n).take i).map V.int))) (by omega) (fun Dl hD => by rw [List.take_zero]; rfl) ?_ ?_
  · rintro Dl hD i H' hi rfl
    refine Xk.x_wiped rfl ?_
    wtm_at "xs"
    refine ⟨_, upd_same, Xk.size_lt (by rw [List.length_map, List.length_take]; omega), ?_⟩
    rw [alls_take hi, List.map_append]
    unfold L2.upd
    funext b
    by_cases hb : b = Dl
    · simp [hb]
    · simp [hb]
  · rintro Dl H' hD rfl
    rw [← alls_len, List.take_length]
    exact q _ Dl (Xk.same_fr hD) hD upd_same
--CUT--
local macro_rules | `(tactic| wtm_at "key") => `(tactic| (first | assumption | (with_reducible exact get_index _ _) | (with_reducible exact get_size _ _) | (with_reducible exact get_first _ _) | (with_reducible exact get_lazy _ _) | (with_reducible exact get_state _ _) | (with_reducible exact put_state _ _ _) | (with_reducible exact get_row _ _) | (with_reducible exact put_row _ _ _) | (with_reducible exact get_promised _ _) | (with_reducible exact put_promised _ _ _) | (with_reducible exact get_accepted _ _) | (with_reducible exact put_accepted _ _ _) | (with_reducible exact get_frames _ _) | (with_reducible exact put_frames _ _ _) | (with_reducible exact get_safe _ _) | (with_reducible exact put_safe _ _ _) | (with_reducible exact get_told _ _) | (with_reducible exact put_told _ _ _) | (with_reducible exact get_lost _ _) | (with_reducible exact put_lost _ _ _) | (with_reducible exact get_waiting _ _) | (with_reducible exact put_waiting _ _ _) | (with_reducible exact get_wanted _ _) | (with_reducible exact put_wanted _ _ _) | (with_reducible exact get_attempt _ _) | (with_reducible exact put_attempt _ _) | (with_reducible exact get_patience _ _) | (with_reducible exact put_patience _ _ _) | (with_reducible exact get_guest _ _) | (with_reducible exact put_guest _ _ _) | (with_reducible exact get_seen _ _) | (with_reducible exact put_seen _ _ _) | (with_reducible exact get_out _ _) | (with_reducible exact put_out _ _ _) | (with_reducible exact get_letters _ _) | (with_reducible exact put_letters _ _ _) | (with_reducible exact get_lines _ _) | (with_reducible exact put_lines _ _ _) | fail "key"))
def sp__law_others (K : PySem.W.Frag) : Sp := fun vs H Q _ => ∃ (m : Addr) (z : Nat) (tg : Xk.TgF) (n : Nd), vs = [.ref m] ∧ MdA K z tg H m n ∧ Wf n ∧ ∀ (H' : Hp) (p : Addr), Same H H' → Xk.Fr p H → H' p = some (.lst ((oths n).map V.int)) → Q (.ref p) H'
theorem ok__law_others (T : Txt K mg) : FnOk P w K mg base CX0 1 T.f__law_others T.d__law_others ["m"] (sp__law_others K) := by
  refine T.F__law_others.ok sc__law_others (fun vs H Q E h => ?_) (fun cdv A outer s H vs Q E hr h => ?_)
  · obtain ⟨m, z, tg, n, rfl, _⟩ := h
    rfl
  obtain ⟨m, z, tg, n, rfl, ⟨c, hN⟩, wf, q⟩ := h
  obtain ⟨hA, tA⟩ := hN.lay.get (i := 0) rfl
  obtain ⟨hW, tW⟩ := hN.lay.get (i := 1) rfl
  obtain ⟨hF, tF⟩ := hN.lay.get (i := 2) rfl
  obtain ⟨hB, tB⟩ := hN.lay.get (i := 3) rfl
  obtain ⟨hT, tT⟩ := hN.lay.get (i := 4) rfl
  obtain ⟨hO, tO⟩ := hN.lay.get (i := 5) rfl
  obtain ⟨hE, tE⟩ := hN.lay.get (i := 6) rfl
  obtain ⟨hL, tL⟩ := hN.lay.get (i := 7) rfl
  have vl := hN.vl
  have w2 := wf.sz
  refine ⟨_, (pss_one (ps_ret (pe_lc (own := [("index", 1)]) (g := gName 1) rfl sc__law_others.nd  (pi_range1 (by rfl) T.m_range (pa_cons (pe_dget (hu_of hr) (pv 0) (pe_str) (fun _ _ => rfl)) pa_nil)) (blkOk_by (N := N__law_others) (sc := defScope s__law_others) (own := [("index", 1)]) (by decide +kernel)) (fun _ _ _ _ _ => pg_name (i := 1) sc__law_others.nd rfl (Or.inl rfl)) (fun _ _ _ _ _ => pts_one (pt_cmpR op_ne (pv 1) (pe_dget (hu_of hr) (pv 0) (pe_str) (fun _ _ => rfl)) (nomark _))) (fun _ _ _ _ _ => (pv 1))))), ?_⟩
  wtm_at "x0"
  wtm_at "xs"
  refine Xk.x_lcR (fun Dl i H' => Same H H' ∧ Xk.Fr Dl H ∧ H' Dl = some (.lst ((((alls n).take i).filter fun i => decide (i ≠ n.ix)).map V.int))) (by omega) (fun Dl hD => ⟨Xk.same_fr hD, hD, by rw [List.take_zero]; exact upd_same⟩) ?_ ?_
  · rintro Dl hD i H' hi ⟨s1, hD2, h1⟩
    refine Xk.x_wiped rfl ?_
    refine Xk.x_test ?_
    have hA1 := s1 _ _ hA
    wtm_at "xs"
    have ll := List.length_filter_le (fun i => decide (i ≠ n.ix)) ((alls n).take i)
    rw [List.length_take] at ll
    by_cases hx : (i : Int) = n.ix
    · have hxv : V.int (i : Int) = V.int n.ix := by rw [hx]
      wtm_at "xs"
      refine ⟨s1, hD2, ?_⟩
      rw [alls_take hi, List.filter_append, List.filter_cons_of_neg (by rw [decide_eq_false (fun z => z hx)]; decide), List.filter_nil, List.append_nil]
      exact h1
    · have hxv : ¬ (V.int (i : Int) = V.int n.ix) := fun e => hx (by injection e)
      wtm_at "xs"
      refine ⟨_, h1, Xk.size_lt (by rw [List.length_map]; omega), Xk.same_mut s1 hD, hD2, ?_⟩
      rw [alls_take hi, List.filter_append, List.filter_cons_of_pos (p := fun i => decide (i ≠ n.ix)) (decide_eq_true hx), List.map_append]
      exact upd_same
  · rintro Dl H' hD ⟨s1, hD2, h1⟩
    rw [← alls_len, List.take_length] at h1
    exact q _ Dl s1 hD h1
def sp__law_wishes (K : PySem.W.Frag) : Sp := fun vs H Q _ => ∃ (m : Addr) (z : Nat) (tg : Xk.TgF) (n : Nd), vs = [.ref m] ∧ MdA K z tg H m n ∧ Q (.bl (wish n)) H
theorem ok__law_wishes (T : Txt K mg) : FnOk P w K mg base CX0 1 T.f__law_wishes T.d__law_wishes ["m"] (sp__law_wishes K) := by
  refine T.F__law_wishes.ok sc__law_wishes (fun vs H Q E h => ?_) (fun cdv A outer s H vs Q E hr h => ?_)
  · obtain ⟨m, z, tg, n, rfl, _⟩ := h
    rfl
  obtain ⟨m, z, tg, n, rfl, ⟨c, hN⟩, q⟩ := h
  obtain ⟨hA, tA⟩ := hN.lay.get (i := 0) rfl
  obtain ⟨hW, tW⟩ := hN.lay.get (i := 1) rfl
  obtain ⟨hF, tF⟩ := hN.lay.get (i := 2) rfl
  obtain ⟨hB, tB⟩ := hN.lay.get (i := 3) rfl
  obtain ⟨hT, tT⟩ := hN.lay.get (i := 4) rfl
  obtain ⟨hO, tO⟩ := hN.lay.get (i := 5) rfl
  obtain ⟨hE, tE⟩ := hN.lay.get (i := 6) rfl
  obtain ⟨hL, tL⟩ := hN.lay.get (i := 7) rfl
  have vl := hN.vl
  refine ⟨_, (pss_one (ps_ret ((pe_or (pe_cmpR op_gt (pe_callB (Xk.k_len (K := K) (by rfl)) (by rfl) T.m_len PySem.boot_len (pa_cons (pe_dget (hu_of hr) (pv 0) (pe_str) (fun _ _ => rfl)) pa_nil)) (pe_int) (nomark _)) (pe_one (pe_cmpR Xk.op_nNotN (pe_dget (hu_of hr) (pv 0) (pe_str) (fun _ _ => rfl)) (pe_non) (nomark _))))))), ?_⟩
  wtm_at "x0"
  wtm_at "xs"
  have hl := vl.wai.len
  refine Xk.x_itd (fun h => ?_) (fun h => ?_)
  · have e : wish n = true := by
      unfold wish
      rw [decide_eq_true (by omega : n.wai.length > 0)]
      rfl
    rw [e] at q
    exact q
  · have e : wish n = n.wan.isSome := by
      unfold wish
      rw [decide_eq_false (by omega : ¬ n.wai.length > 0)]
      rfl
    rw [e] at q
    wtm_at "xs"
    have hw := vl.wan
    cases hn : n.wan with
    | none =>
      rw [hn] at hw q
      rw [pk_nonD hw]
      exact q
    | some ms =>
      rw [hn] at hw q
      obtain ⟨p, hp, _⟩ := pk_I hw
      rw [hp]
      exact q
--CUT--
local macro_rules | `(tactic| wtm_at "key") => `(tactic| (first | assumption | (with_reducible exact get_index _ _) | (with_reducible exact get_size _ _) | (with_reducible exact get_first _ _) | (with_reducible exact get_lazy _ _) | (with_reducible exact get_state _ _) | (with_reducible exact put_state _ _ _) | (with_reducible exact get_row _ _) | (with_reducible exact put_row _ _ _) | (with_reducible exact get_promised _ _) | (with_reducible exact put_promised _ _ _) | (with_reducible exact get_accepted _ _) | (with_reducible exact put_accepted _ _ _) | (with_reducible exact get_frames _ _) | (with_reducible exact put_frames _ _ _) | (with_reducible exact get_safe _ _) | (with_reducible exact put_safe _ _ _) | (with_reducible exact get_told _ _) | (with_reducible exact put_told _ _ _) | (with_reducible exact get_lost _ _) | (with_reducible exact put_lost _ _ _) | (with_reducible exact get_waiting _ _) | (with_reducible exact put_waiting _ _ _) | (with_reducible exact get_wanted _ _) | (with_reducible exact put_wanted _ _ _) | (with_reducible exact get_attempt _ _) | (with_reducible exact put_attempt _ _) | (with_reducible exact get_patience _ _) | (with_reducible exact put_patience _ _ _) | (with_reducible exact get_guest _ _) | (with_reducible exact put_guest _ _ _) | (with_reducible exact get_seen _ _) | (with_reducible exact put_seen _ _ _) | (with_reducible exact get_out _ _) | (with_reducible exact put_out _ _ _) | (with_reducible exact get_letters _ _) | (with_reducible exact put_letters _ _ _) | (with_reducible exact get_lines _ _) | (with_reducible exact put_lines _ _ _) | fail "key"))
def sp__law_begin (K : PySem.W.Frag) : Sp := fun vs H Q _ => ∃ (m : Addr) (z : Nat) (tg : Xk.TgF) (n : Nd), vs = [.ref m] ∧ 0 < z ∧ Xk.Occ tg H ∧ MdA K z tg H m n ∧ Wf n ∧ n.frm.length ≤ 7999 ∧ (top n ≥ 9999 → Q (.bl false) H) ∧
  (top n < 9999 → ∀ (H' : Hp) (tg' : Xk.TgF), Xk.Mv z K tg tg' H H' → MdA K z tg' H' m (begun n) → Q (.bl true) H')
theorem ok__law_begin (T : Txt K mg) : FnOk P w K mg base CX0 3 T.f__law_begin T.d__law_begin ["m"] (sp__law_begin K) := by
  refine T.F__law_begin.ok sc__law_begin (fun vs H Q E h => ?_) (fun cdv A outer s H vs Q E hr h => ?_)
  · obtain ⟨m, z, tg, n, rfl, _⟩ := h
    rfl
  obtain ⟨m, z, tg, n, rfl, hz, hoc, ⟨c, hN⟩, wf, hf, q1, q2⟩ := h
  obtain ⟨hA, tA⟩ := hN.lay.get (i := 0) rfl
  obtain ⟨hW, tW⟩ := hN.lay.get (i := 1) rfl
  obtain ⟨hF, tF⟩ := hN.lay.get (i := 2) rfl
  obtain ⟨hB, tB⟩ := hN.lay.get (i := 3) rfl
  obtain ⟨hT, tT⟩ := hN.lay.get (i := 4) rfl
  obtain ⟨hO, tO⟩ := hN.lay.get (i := 5) rfl
  obtain ⟨hE, tE⟩ := hN.lay.get (i := 6) rfl
  obtain ⟨hL, tL⟩ := hN.lay.get (i := 7) rfl
  have vl := hN.vl
  have w1 := wf.row
  have w2 := wf.see
  have w3 := wf.prm
  have w4 := wf.ix
  obtain ⟨pb, epb, hpb⟩ := pk_B vl.prm
  have lr : c.rv.length = n.row.length := by rw [vl.row.len, List.length_map]
  refine ⟨_, (pss_cons (ps_set (i := 1) sc__law_begin.nd rfl (Or.inl rfl) (pe_op op_add (pe_callB (Xk.call_nMax2 rfl) (by rfl) T.m_max (by decide +kernel) (pa_cons (pe_dget (hu_of hr) (pv 0) (pe_str) (fun _ _ => rfl)) (pa_cons (pe_ix (Xk.k_ixT (K := K) (by rfl)) (pe_dget (hu_of hr) (pv 0) (pe_str) (fun _ _ => rfl)) (pe_int) (fun _ _ => rfl)) pa_nil))) (pe_int)))
      (Evl.pss_cut (ps_if (pt_cmpR op_gt (pv 1) (pe_int) (nomark _)) (pss_one (ps_ret (pe_bl))) pss_nil)
      (pss_cons (ps_set (i := 2) sc__law_begin.nd rfl (Or.inl rfl) (pe_op op_add (pe_callB (Xk.k_len (K := K) (by rfl)) (by rfl) T.m_len PySem.boot_len (pa_cons (pe_dget (hu_of hr) (pv 0) (pe_str) (fun _ _ => rfl)) pa_nil)) (pe_int)))
      (pss_cons (ps_set (i := 3) sc__law_begin.nd rfl (Or.inl rfl) (pe_tup (pa_cons (pv 1) (pa_cons (pe_dget (hu_of hr) (pv 0) (pe_str) (fun _ _ => rfl)) pa_nil))))
      (pss_cons (ps_expr (pe_call (ok__law_note T) (hr.mono (by decide)) (by rfl) T.g__law_note T.F__law_note.kp T.b__law_note .nil pass0 (pa_cons (pv 0) (pa_cons (pe_tup (pa_cons (pe_str) (pa_cons (pv 2) (pa_cons (pv 3) pa_nil)))) pa_nil))))
      (pss_cons (ps_set (i := 4) sc__law_begin.nd rfl (Or.inl rfl) (pe_tup (pa_cons (pe_str) (pa_cons (pe_callTy (Xk.k_tuple (K := K) (by rfl)) (by rfl) T.m_tuple (by decide +kernel) (pa_cons (pe_slice (Xk.k_slL (K := K) (by rfl)) (pe_dget (hu_of hr) (pv 0) (pe_str) (fun _ _ => rfl)) po_none (po_some (pe_int))) pa_nil)) pa_nil))))
      (Evl.pss_cut (ps_if (pt_cmpR Xk.op_nNotN (pe_dget (hu_of hr) (pv 0) (pe_str) (fun _ _ => rfl)) (pe_non) (nomark _)) (pss_one (ps_set (i := 4) sc__law_begin.nd rfl (Or.inl rfl) (pe_tup (pa_cons (pe_str) (pa_cons (pe_dget (hu_of hr) (pv 0) (pe_str) (fun _ _ => rfl)) pa_nil))))) pss_nil)
      (pss_cons (ps_dput (hu_of hr) (pv 0) (pe_str) (pe_disp (pps_cons (pe_str) (pv 3) (pps_cons (pe_str) (pv 4) (pps_cons (pe_str) (pe_str) (pps_cons (pe_str) (pe_lst pa_nil) (pps_cons (pe_str) (pe_lst pa_nil) (pps_cons (pe_str) (pe_non) pps_nil)))))) (by rfl) (by rfl) (fun z => by cases z) (by decide)) rfl)
      (pss_cons (ps_dput (hu_of hr) (pv 0) (pe_str) (pe_bl) rfl)
      (pss_cons (ps_dput (hu_of hr) (pv 0) (pe_str) (pe_op op_add (pe_int) (pe_op op_mul (pe_int) (pe_dget (hu_of hr) (pv 0) (pe_str) (fun _ _ => rfl)))) rfl)
      (pss_cons (ps_expr (pe_call (ok__law_post T) (hr.mono (by decide)) (by rfl) T.g__law_post T.F__law_post.kp T.b__law_post .nil pass0 (pa_cons (pv 0) (pa_cons (pe_call (ok__law_all T) (hr.mono (by decide)) (by rfl) T.g__law_all T.F__law_all.kp T.b__law_all .nil pass0 (pa_cons (pv 0) pa_nil)) (pa_cons (pe_tup (pa_cons (pe_str) (pa_cons (pv 2) (pa_cons (pv 3) pa_nil)))) pa_nil)))))
      (pss_one (ps_ret (pe_bl)))))))))))))), ?_⟩
  wtm_at "x0"
  wtm_at "xs"
  rw [epb]
  wtm_at "xs"
  have etop : max n.see n.prm.1 = top n := rfl
  rw [etop]
  by_cases ht9 : top n ≥ 9999
  · have h9 : (9999 : Int) < top n + 1 := by omega
    refine Xk.x_nocut ?_
    wtm_at "xs"
    exact q1 ht9
  have h9 : ¬ (9999 : Int) < top n + 1 := by omega
  refine fall ?_ ?_
  · wtm_at "xs"
    exact ⟨rfl, rfl⟩
  wtm_at "xs"
  intro p H1 fp s1 h1
  have hA1 := s1 _ _ hA
  wtm_at "xs"
  intro p2 H2 fp2 s2 h2
  wtm_at "xs"
  obtain ⟨b, hb⟩ : ∃ b : Bl, b = (top n + 1, n.ix) := ⟨_, rfl⟩
  have ht : 0 ≤ top n := by unfold top; omega
  have hbb : 0 ≤ b.1 ∧ b.1 ≤ 100000 ∧ 0 ≤ b.2 ∧ b.2 ≤ 100 := by rw [hb]; exact ⟨by show (0 : Int) ≤ top n + 1; omega, by show top n + 1 ≤ 100000; omega, w4.1, w4.2⟩
  have pb2 : Xk.Pk K H2 1 (.ref p) (dB b) := pk_ofB (b := b) (Xk.st_of (by rw [hb]; exact s2 _ _ h1))
  have eslot : (c.rv.length : Int) + 1 = slot n := by rw [lr]; rfl
  rw [eslot] at h2 ⊢
  refine ⟨m, z, tg, n, .ref p2, .pro (slot n) b, rfl, ⟨c, hN.same (s1.trans s2)⟩, wf, Xk.pk_tup3 (Xk.st_of h2) Xk.pk_str Xk.pk_int (pb2.mono (by decide)), fun H3 tg3 m3 ⟨c3, hN3⟩ => ?_⟩
  obtain ⟨hA3, tA3⟩ := hN3.lay.get (i := 0) rfl
  obtain ⟨hW3, tW3⟩ := hN3.lay.get (i := 1) rfl
  obtain ⟨hF3, tF3⟩ := hN3.lay.get (i := 2) rfl
  obtain ⟨hB3, tB3⟩ := hN3.lay.get (i := 3) rfl
  obtain ⟨hT3, tT3⟩ := hN3.lay.get (i := 4) rfl
  obtain ⟨hO3, tO3⟩ := hN3.lay.get (i := 5) rfl
  obtain ⟨hE3, tE3⟩ := hN3.lay.get (i := 6) rfl
  obtain ⟨hL3, tL3⟩ := hN3.lay.get (i := 7) rfl
  have vl3 := hN3.vl
  wtm_at "xs"
  intro p3 H4 fp3 s3 h3
  rw [Xk.cut_take (xs := c3.wv) (k := 8) (n := 8) rfl] at h3
  wtm_at "xs"
  intro p4 H5 fp4 s4 h4
  wtm_at "xs"
  intro p5 H6 fp5 s5 h5
  have s345 := (s3.trans s4).trans s5
  have hA6 := s345 _ _ hA3
  refine Xk.x_cut (fun σ' H' => ∃ p4, σ' = [some (.ref m), some (.int (top n + 1)), some (.int (slot n)), some (.ref p), some (.ref p4)] ∧ Same H3 H' ∧ Xk.Pk K H' 38 (.ref p4) (dE (entry n))) ?_ ?_
  · have hw := vl3.wan
    have e0 : (note n (.pro (slot n) b)).wan = n.wan := rfl
    cases ew : n.wan with
    | none =>
      rw [e0, ew] at hw
      have ew2 : c3.wn = .non := pk_nonD hw
      wtm_at "xs"
      refine ⟨p5, rfl, s345, ?_⟩
      unfold entry
      rw [ew]
      exact Xk.pk_tup2 (Xk.st_of h5) Xk.pk_str (Xk.pk_tup (Xk.st_of (s5 _ _ h4)) ((vl3.wai.same s345).take 8))
    | some ms =>
      rw [e0, ew] at hw
      obtain ⟨pm, ew2, hpm⟩ := pk_I hw
      have ew3 : ¬ (c3.wn = .non) := fun e => by rw [ew2] at e; cases e
      wtm_at "xs"
      intro p6 H7 fp6 s6 h6
      refine ⟨p6, rfl, s345.trans s6, ?_⟩
      unfold entry
      rw [ew]
      exact Xk.pk_tup2 (Xk.st_of h6) Xk.pk_str ((hw.same (s345.trans s6)).mono (by decide))
  rintro σ' H7 ⟨p7, rfl, s7, pe7⟩
  clear h3 h4 h5 hA6 s345 s3 s4 s5 fp3 fp4 fp5
  have hA7 := s7 _ _ hA3
  wtm_at "xs"
  refine Xk.x_disp fun t ft => ?_
  have L0 := (hN3.same s7).lay.left
  have sft : Same H7 (upd H7 t (.dK [])) := Xk.same_fr ft
  have L1 := (L0.same sft).addR (t := 9) (L0.fr ft) upd_same
  have m7 : Xk.Mv z K tg3 (Xk.tgU tg3 t z 9) H7 (upd H7 t (.dK [])) := Xk.Mv.new sft ft upd_same
  wtm_at "xs"
  intro tp H8 ftp s8 h8
  wtm_at "xs"
  intro tq H9 ftq s9 h9
  wtm_at "xs"
  obtain ⟨A, hAt⟩ : ∃ A : Att, A = ⟨b, entry n, mbs n, "asking", [], [], none⟩ := ⟨_, rfl⟩
  obtain ⟨c4, hc4⟩ : ∃ c4 : Mc, c4 = { c3 with t := t, tp := tp, tq := tq, tb := .ref p, te := .ref p7, tz := .non } := ⟨_, rfl⟩
  obtain ⟨n4, hn4⟩ : ∃ n4 : Nd, n4 = { note n (.pro (slot n) b) with att := some A } := ⟨_, rfl⟩
  obtain ⟨n5, hn5⟩ : ∃ n5 : Nd, n5 = { note n (.pro (slot n) b) with att := some A, gst := false, pat := lpat n } := ⟨_, rfl⟩
  have L2a := (L1.same s8).addR (t := 10) (L1.fr ftp) h8
  have L2 := (L2a.same s9).addR (t := 11) (L2a.fr ftq) h9
  obtain ⟨ht9', t9⟩ := L2.get (i := 8) rfl
  refine ⟨ht9', tK c4 A, by rw [hc4, hAt]; rfl, Nat.le_of_ble_eq_true rfl, ?_⟩
  rw [show mergeK [] (tK c4 A) = tK c4 A from rfl]
  have L3 := L2.upd (i := 8) (o' := .dK (tK c4 A)) rfl
  obtain ⟨hA10, tA10⟩ := L3.get (i := 0) rfl
  have pa : putK (mK c3 (note n (.pro (slot n) b))) (Sum.inr ("attempt" : Str)) (.ref t) = mK c4 n4 := by rw [hc4, hn4]; rfl
  wtm_at "xs"
  have e5 : mK c4 { n4 with gst := false, pat := 6 + 2 * n4.ix } = mK c4 n5 := by rw [hn4, hn5]; rfl
  have L4 := ((L3.upd (i := 0) (o' := .dK (mK c4 n4)) rfl).upd (i := 0) (o' := .dK (mK c4 { n4 with gst := false })) rfl).upd (i := 0) (o' := .dK (mK c4 { n4 with gst := false, pat := 6 + 2 * n4.ix })) rfl
  have mA : Xk.Mv z K tg tg3 H H3 := (Xk.Mv.same (s1.trans s2)).trans m3
  have mB := (((((Xk.Mv.same (z := z) (K := K) (tg := tg3) s7).trans m7).trans (Xk.Mv.new (z := z) (i := 10) s8 ftp h8)).trans (Xk.Mv.new (z := z) (i := 11) s9 ftq h9)).trans (Xk.Mv.upd (o' := .dK (tK c4 A)) t9 ht9'))
  have mC := ((mB.trans (Xk.Mv.upd (o' := .dK (mK c4 n4)) tA10 hA10)).trans (Xk.Mv.upd (o' := .dK (mK c4 { n4 with gst := false })) tA10 upd_same)).trans (Xk.Mv.upd (o' := .dK (mK c4 { n4 with gst := false, pat := 6 + 2 * n4.ix })) tA10 upd_same)
  have st7 := (((((m7.trans (Xk.Mv.new (z := z) (i := 10) s8 ftp h8)).trans (Xk.Mv.new (z := z) (i := 11) s9 ftq h9)).trans (Xk.Mv.upd (o' := .dK (tK c4 A)) t9 ht9')).trans (Xk.Mv.upd (o' := .dK (mK c4 n4)) tA10 hA10)).trans (Xk.Mv.upd (o' := .dK (mK c4 { n4 with gst := false })) tA10 upd_same)).trans (Xk.Mv.upd (o' := .dK (mK c4 { n4 with gst := false, pat := 6 + 2 * n4.ix })) tA10 upd_same) |>.st
  have mkv : ∀ G : Hp, Vm K G c3 (note n (.pro (slot n) b)) → Xk.Pk K G 1 (.ref p) (dB b) → Xk.Pk K G 38 (.ref p7) (dE (entry n)) → Vm K G c4 n5 := by
    intro G v k1 k2
    rw [hc4, hn5, hAt]
    have ha : ∀ A' : Att, some (⟨b, entry n, mbs n, "asking", [], [], none⟩ : Att) = some A' → Xk.Pk K G 1 (.ref p) (dB A'.bal) ∧ Xk.Pk K G 38 (.ref p7) (dE A'.ent) ∧ Xk.Pk K G 39 .non (dA A'.bnd) := by
      rintro A' e
      cases e
      exact ⟨k1, k2, Xk.pk_non⟩
    exact { v with att := ha }
  have N5 : MdAt K z _ _ m c4 n5 := ⟨L4.eq (by rw [e5, hc4, hn5, hAt]; rfl), mkv _ (vl3.st mC.st) ((pb2.st m3.st).st mC.st) (pe7.st st7)⟩
  have wf5 : Wf n5 := by rw [hn5]; exact wf.begun1 hf hbb _ _ _
  have pb5 := (pb2.st m3.st).st mC.st
  have oc5 := (mA.trans mC).oc hoc
  clear L4 L3 L2 L2a L1 L0 st7 mB
  refine ⟨m, z, _, n5, rfl, ⟨c4, N5⟩, wf5, fun H10 p10 s10 f10 h10 => ?_⟩
  wtm_at "xs"
  intro p11 H11 fp11 s11 h11
  wtm_at "xs"
  refine ⟨m, p10, .ref p11, z, _, n5, alls n5, .tuple [.str "ask", .int (slot n), dB b], rfl, ⟨c4, N5.same (s10.trans s11)⟩, wf5, s11 _ _ h10, fun e => ?_, ?_, ?_, fun H12 m12 hm12 => ?_⟩
  · have := oc5 p10 (by rw [e]; omega)
    obtain ⟨o, ho⟩ := this
    rw [f10.is] at ho
    cases ho
  · rw [alls_len]
    have := wf5.sz
    omega
  · exact Xk.pk_tup3 (Xk.st_of h11) Xk.pk_str Xk.pk_int ((pb5.same (s10.trans s11)).mono (by decide))
  wtm_at "xs"
  have e : begun n = post n5 (alls n5) (.tuple [.str "ask", .int (slot n), dB b]) := by
    rw [hn5, hAt, hb]
    rfl
  exact q2 (by omega) H12 _ (((mA.trans mC).trans (Xk.Mv.same (s10.trans s11))).trans m12) (by rw [e]; exact hm12)
--CUT--
local macro_rules | `(tactic| wtm_at "key") => `(tactic| (first | assumption | (with_reducible exact get_index _ _) | (with_reducible exact get_size _ _) | (with_reducible exact get_first _ _) | (with_reducible exact get_lazy _ _) | (with_reducible exact get_state _ _) | (with_reducible exact put_state _ _ _) | (with_reducible exact get_row _ _) | (with_reducible exact put_row _ _ _) | (with_reducible exact get_promised _ _) | (with_reducible exact put_promised _ _ _) | (with_reducible exact get_accepted _ _) | (with_reducible exact put_accepted _ _ _) | (with_reducible exact get_frames _ _) | (with_reducible exact put_frames _ _ _) | (with_reducible exact get_safe _ _) | (with_reducible exact put_safe _ _ _) | (with_reducible exact get_told _ _) | (with_reducible exact put_told _ _ _) | (with_reducible exact get_lost _ _) | (with_reducible exact put_lost _ _ _) | (with_reducible exact get_waiting _ _) | (with_reducible exact put_waiting _ _ _) | (with_reducible exact get_wanted _ _) | (with_reducible exact put_wanted _ _ _) | (with_reducible exact get_attempt _ _) | (with_reducible exact put_attempt _ _) | (with_reducible exact get_patience _ _) | (with_reducible exact put_patience _ _ _) | (with_reducible exact get_guest _ _) | (with_reducible exact put_guest _ _ _) | (with_reducible exact get_seen _ _) | (with_reducible exact put_seen _ _ _) | (with_reducible exact get_out _ _) | (with_reducible exact put_out _ _ _) | (with_reducible exact get_letters _ _) | (with_reducible exact put_letters _ _ _) | (with_reducible exact get_lines _ _) | (with_reducible exact put_lines _ _ _) | fail "key"))
def sp__law_offer (K : PySem.W.Frag) : Sp := fun vs H Q _ => ∃ (m : Addr) (z : Nat) (tg : Xk.TgF) (n : Nd) (v : V) (d : PyData), vs = [.ref m, v] ∧ 0 < z ∧ Xk.Occ tg H ∧ MdA K z tg H m n ∧ Wf n ∧ n.frm.length ≤ 7999 ∧ Xk.Pk K H 36 v d ∧ (refu n d = true → Q (.bl false) H) ∧
  (refu n d = false → ∀ (H' : Hp) (tg' : Xk.TgF), Xk.Mv z K tg tg' H H' → MdA K z tg' H' m (offerL n d) → Q (.bl true) H')
theorem ok__law_offer (T : Txt K mg) : FnOk P w K mg base CX0 4 T.f__law_offer T.d__law_offer ["m", "command"] (sp__law_offer K) := by
  refine T.F__law_offer.ok sc__law_offer (fun vs H Q E h => ?_) (fun cdv A outer s H vs Q E hr h => ?_)
  · obtain ⟨m, z, tg, n, v, d, rfl, _⟩ := h
    rfl
  obtain ⟨m, z, tg, n, v, d, rfl, hz, hoc, ⟨c, hN⟩, wf, hf, hd, q1, q2⟩ := h
  obtain ⟨hA, tA⟩ := hN.lay.get (i := 0) rfl
  obtain ⟨hW, tW⟩ := hN.lay.get (i := 1) rfl
  obtain ⟨hF, tF⟩ := hN.lay.get (i := 2) rfl
  obtain ⟨hB, tB⟩ := hN.lay.get (i := 3) rfl
  obtain ⟨hT, tT⟩ := hN.lay.get (i := 4) rfl
  obtain ⟨hO, tO⟩ := hN.lay.get (i := 5) rfl
  obtain ⟨hE, tE⟩ := hN.lay.get (i := 6) rfl
  obtain ⟨hL, tL⟩ := hN.lay.get (i := 7) rfl
  have vl := hN.vl
  have lw := vl.wai.len
  refine ⟨_, (Evl.pss_cut (ps_if (PW.pt (pw_or (pt_cmpR (Xk.k_inD (K := K) (Xk.u65 hr) (by rfl)) (pv 1) (pe_dget (hu_of hr) (pv 0) (pe_str) (fun _ _ => rfl)) (by rfl)) (pw_or (pt_cmpR (Xk.k_inD (K := K) (Xk.u65 hr) (by rfl)) (pv 1) (pe_dget (hu_of hr) (pv 0) (pe_str) (fun _ _ => rfl)) (by rfl)) (pw_or1 (pt_cmpR op_gt (pe_callB (Xk.k_len (K := K) (by rfl)) (by rfl) T.m_len PySem.boot_len (pa_cons (pe_dget (hu_of hr) (pv 0) (pe_str) (fun _ _ => rfl)) pa_nil)) (pe_int) (nomark _)))))) (pss_one (ps_ret (pe_bl))) pss_nil)
      (pss_cons (ps_dput (hu_of hr) (pv 0) (pe_str) (pe_op op_cat (pe_dget (hu_of hr) (pv 0) (pe_str) (fun _ _ => rfl)) (pe_lst (pa_cons (pv 1) pa_nil))) rfl)
      (Evl.pss_cut (ps_if (PW.pt (pw_and (pt_cmpR Xk.op_nIsN (pe_dget (hu_of hr) (pv 0) (pe_str) (fun _ _ => rfl)) (pe_non) (nomark _)) (pw_and1 (pt_not (pt_val (pe_dget (hu_of hr) (pv 0) (pe_str) (fun _ _ => rfl))))))) (pss_one (ps_expr (pe_call (ok__law_begin T) (hr.mono (by decide)) (by rfl) T.g__law_begin T.F__law_begin.kp T.b__law_begin .nil pass0 (pa_cons (pv 0) pa_nil)))) pss_nil)
      (pss_one (ps_ret (pe_bl)))))), ?_⟩
  wtm_at "x0"
  by_cases hrf : refu n d = true
  · refine Xk.x_nocut ?_
    wtm_at "xs"
    refine Xk.x_inPk hd (Xk.sq_of hL) vl.lin ?_
    cases e1 : Xk.inD d n.lin with
    | true =>
      wtm_at "xs"
      exact q1 hrf
    | false =>
      wtm_at "xs"
      refine Xk.x_inPk hd (Xk.sq_of hT) vl.wai ?_
      cases e2 : Xk.inD d n.wai with
      | true =>
        wtm_at "xs"
        exact q1 hrf
      | false =>
        have h16 : (15 : Int) < c.wv.length := by
          unfold refu at hrf
          rw [e1, e2] at hrf
          have := of_decide_eq_true (by simpa using hrf : decide (n.wai.length ≥ 16) = true)
          omega
        wtm_at "xs"
        exact q1 hrf
  have hr' : refu n d = false := by cases e : refu n d with | true => exact absurd e hrf | false => rfl
  have e1 : Xk.inD d n.lin = false := by
    unfold refu at hr'
    cases e : Xk.inD d n.lin with
    | true => rw [e] at hr'; cases hr'
    | false => rfl
  have e2 : Xk.inD d n.wai = false := by
    unfold refu at hr'
    cases e : Xk.inD d n.wai with
    | true => rw [e, Bool.or_true] at hr'; cases hr'
    | false => rfl
  have e3 : n.wai.length < 16 := by
    unfold refu at hr'
    rw [e1, e2] at hr'
    have := of_decide_eq_false (by simpa using hr' : decide (n.wai.length ≥ 16) = false)
    omega
  have h16 : ¬ (15 : Int) < c.wv.length := by omega
  refine fall ?_ ?_
  · wtm_at "xs"
    refine Xk.x_inPk hd (Xk.sq_of hL) vl.lin ?_
    rw [e1]
    wtm_at "xs"
    refine Xk.x_inPk hd (Xk.sq_of hT) vl.wai ?_
    rw [e2]
    wtm_at "xs"
    exact ⟨rfl, rfl⟩
  wtm_at "xs"
  intro p1 H1 fp1 s1 h1
  have hT1 := s1 _ _ hT
  refine Xk.x_cat hT1 h1 (by rw [List.length_singleton]; omega) fun wl H2 fwl s2 h2 => ?_
  have hA2 := (s1.trans s2) _ _ hA
  wtm_at "xs"
  have hp := hN.rep (i := 4) (p := wl) (c' := { c with wt := wl, wv := c.wv ++ [v] }) (n' := { n with wai := n.wai ++ [d] }) (kv := mK { c with wt := wl } n) (s1.trans s2) (Xk.free_back fwl s1) h2 rfl (by decide) rfl (fun y => { y with wai := Xk.pk_snoc y.wai (hd.st ((Xk.tt_same (s1.trans s2)).trans (Xk.st_updD hA2))) })
  obtain ⟨n1, hn1⟩ : ∃ n1 : Nd, n1 = { n with wai := n.wai ++ [d] } := ⟨_, rfl⟩
  have N1 : MdAt K z (Xk.tgU tg wl z 5) (upd H2 m (.dK (mK { c with wt := wl } n))) m { c with wt := wl, wv := c.wv ++ [v] } n1 := by rw [hn1]; exact hp.1
  have ek : mK { c with wt := wl } n = mK { c with wt := wl, wv := c.wv ++ [v] } n1 := by rw [hn1]; rfl
  have mv1 := hp.2
  clear hp
  rw [ek] at N1 mv1 ⊢
  generalize (upd H2 m (.dK (mK { c with wt := wl, wv := c.wv ++ [v] } n1))) = H3 at N1 mv1 ⊢
  generalize ({ c with wt := wl, wv := c.wv ++ [v] } : Mc) = c1 at N1
  have wf1 : Wf n1 := by
    rw [hn1]
    refine { wf with wai := ?_ }
    show (n.wai ++ [d]).length ≤ 16
    rw [List.length_append]
    show n.wai.length + 1 ≤ 16
    omega
  have hf1 : n1.frm.length ≤ 7999 := by rw [hn1]; exact hf
  have hA3 := (N1.lay.get (i := 0) rfl).1
  have ef : offerL n d = free n1 := by unfold offerL; rw [hr', hn1]; rfl
  have oc1 := mv1.oc hoc
  refine Xk.x_cut (fun σ' H' => σ' = [some (.ref m), some v] ∧ ∃ tg', Xk.Mv z K tg tg' H H' ∧ MdA K z tg' H' m (free n1)) ?_ ?_
  · cases e : n1.att with
    | some A =>
      have ea : ¬ (atM c1 n1.att = .non) := by rw [e]; intro z; cases z
      wtm_at "xs"
      have e9 : free n1 = n1 := by unfold free; rw [e]; rfl
      exact ⟨rfl, _, mv1, by rw [e9]; exact ⟨_, N1⟩⟩
    | none =>
      have ea : atM c1 n1.att = .non := by rw [e]; rfl
      wtm_at "xs"
      cases eg : n1.gst with
      | true =>
        wtm_at "xs"
        have e9 : free n1 = n1 := by unfold free; rw [e, eg]; rfl
        exact ⟨rfl, _, mv1, by rw [e9]; exact ⟨_, N1⟩⟩
      | false =>
        wtm_at "xs"
        have e9 : free n1 = begin_ n1 := by unfold free; rw [e, eg]; rfl
        refine ⟨m, z, _, n1, rfl, hz, oc1, ⟨_, N1⟩, wf1, hf1, fun h => ?_, fun h H4 tg4 m4 hm4 => ?_⟩
        · wtm_at "xs"
          exact ⟨rfl, _, mv1, by rw [e9]; unfold begin_; rw [if_pos h]; exact ⟨_, N1⟩⟩
        · wtm_at "xs"
          exact ⟨rfl, _, mv1.trans m4, by rw [e9]; unfold begin_; rw [if_neg (by omega)]; exact hm4⟩
  rintro σ' H' ⟨rfl, tg', mv, hm⟩
  wtm_at "xs"
  exact q2 hr' H' tg' mv (by rw [ef]; exact hm)
def sp__law_end (K : PySem.W.Frag) : Sp := fun vs H Q _ => ∃ (m : Addr) (z : Nat) (tg : Xk.TgF) (n : Nd), vs = [.ref m] ∧ MdA K z tg H m n ∧ ∀ H', Xk.Mv z K tg tg H H' → MdA K z tg H' m (endS n) → Q .non H'
theorem ok__law_end (T : Txt K mg) : FnOk P w K mg base CX0 1 T.f__law_end T.d__law_end ["m"] (sp__law_end K) := by
  refine T.F__law_end.ok sc__law_end (fun vs H Q E h => ?_) (fun cdv A outer s H vs Q E hr h => ?_)
  · obtain ⟨m, z, tg, n, rfl, _⟩ := h
    rfl
  obtain ⟨m, z, tg, n, rfl, ⟨c, hN⟩, q⟩ := h
  obtain ⟨hA, tA⟩ := hN.lay.get (i := 0) rfl
  obtain ⟨hW, tW⟩ := hN.lay.get (i := 1) rfl
  obtain ⟨hF, tF⟩ := hN.lay.get (i := 2) rfl
  obtain ⟨hB, tB⟩ := hN.lay.get (i := 3) rfl
  obtain ⟨hT, tT⟩ := hN.lay.get (i := 4) rfl
  obtain ⟨hO, tO⟩ := hN.lay.get (i := 5) rfl
  obtain ⟨hE, tE⟩ := hN.lay.get (i := 6) rfl
  obtain ⟨hL, tL⟩ := hN.lay.get (i := 7) rfl
  have vl := hN.vl
  have lf : c.fv.length = n.frm.length := by rw [vl.frm.len, List.length_map]
  refine ⟨_, (pss_one (ps_if (pt_not (pt_val (pe_dget (hu_of hr) (pv 0) (pe_str) (fun _ _ => rfl)))) (pss_one (ps_dput (hu_of hr) (pv 0) (pe_str) (pe_callB (Xk.k_len (K := K) (by rfl)) (by rfl) T.m_len PySem.boot_len (pa_cons (pe_dget (hu_of hr) (pv 0) (pe_str) (fun _ _ => rfl)) pa_nil)) rfl)) pss_nil)), ?_⟩
  wtm_at "x0"
  wtm_at "xs"
  cases e : n.lzy with
  | true =>
    wtm_at "xs"
    have e2 : endS n = n := if_pos e
    exact q H Xk.Mv.refl (by rw [e2]; exact ⟨c, hN⟩)
  | false =>
    wtm_at "xs"
    have e2 : endS n = { n with saf := n.frm.length } := if_neg (by rw [e]; decide)
    have hp := hN.put (i := 0) (c' := c) (n' := { n with saf := n.frm.length }) (o' := .dK (mK c { n with saf := c.fv.length })) rfl rfl (by rw [lf]; rfl) (fun y => { y with })
    exact q _ hp.2 (by rw [e2]; exact ⟨c, hp.1⟩)
--CUT--
local macro_rules | `(tactic| wtm_at "key") => `(tactic| (first | assumption | (with_reducible exact get_index _ _) | (with_reducible exact get_size _ _) | (with_reducible exact get_first _ _) | (with_reducible exact get_lazy _ _) | (with_reducible exact get_state _ _) | (with_reducible exact put_state _ _ _) | (with_reducible exact get_row _ _) | (with_reducible exact put_row _ _ _) | (with_reducible exact get_promised _ _) | (with_reducible exact put_promised _ _ _) | (with_reducible exact get_accepted _ _) | (with_reducible exact put_accepted _ _ _) | (with_reducible exact get_frames _ _) | (with_reducible exact put_frames _ _ _) | (with_reducible exact get_safe _ _) | (with_reducible exact put_safe _ _ _) | (with_reducible exact get_told _ _) | (with_reducible exact put_told _ _ _) | (with_reducible exact get_lost _ _) | (with_reducible exact put_lost _ _ _) | (with_reducible exact get_waiting _ _) | (with_reducible exact put_waiting _ _ _) | (with_reducible exact get_wanted _ _) | (with_reducible exact put_wanted _ _ _) | (with_reducible exact get_attempt _ _) | (with_reducible exact put_attempt _ _) | (with_reducible exact get_patience _ _) | (with_reducible exact put_patience _ _ _) | (with_reducible exact get_guest _ _) | (with_reducible exact put_guest _ _ _) | (with_reducible exact get_seen _ _) | (with_reducible exact put_seen _ _ _) | (with_reducible exact get_out _ _) | (with_reducible exact put_out _ _ _) | (with_reducible exact get_letters _ _) | (with_reducible exact put_letters _ _ _) | (with_reducible exact get_lines _ _) | (with_reducible exact put_lines _ _ _) | fail "key"))
def sp__law_offer_members (K : PySem.W.Frag) : Sp := fun vs H Q _ => ∃ (m : Addr) (z : Nat) (tg : Xk.TgF) (n : Nd) (v : V) (ms : List Int), vs = [.ref m, v] ∧ 0 < z ∧ Xk.Occ tg H ∧ MdA K z tg H m n ∧ Wf n ∧ n.frm.length ≤ 7999 ∧ Xk.Pk K H 1 v (dI ms) ∧ (refuM n ms = true → Q (.bl false) H) ∧
  (refuM n ms = false → ∀ (H' : Hp) (tg' : Xk.TgF), Xk.Mv z K tg tg' H H' → MdA K z tg' H' m (offerM n ms) → Q (.bl true) H')
theorem ok__law_offer_members (T : Txt K mg) : FnOk P w K mg base CX0 4 T.f__law_offer_members T.d__law_offer_members ["m", "members"] (sp__law_offer_members K) := by
  refine T.F__law_offer_members.ok sc__law_offer_members (fun vs H Q E h => ?_) (fun cdv A outer s H vs Q E hr h => ?_)
  · obtain ⟨m, z, tg, n, v, ms, rfl, _⟩ := h
    rfl
  obtain ⟨m, z, tg, n, v, ms, rfl, hz, hoc, ⟨c, hN⟩, wf, hf, hd, q1, q2⟩ := h
  obtain ⟨hA, tA⟩ := hN.lay.get (i := 0) rfl
  obtain ⟨hW, tW⟩ := hN.lay.get (i := 1) rfl
  obtain ⟨hF, tF⟩ := hN.lay.get (i := 2) rfl
  obtain ⟨hB, tB⟩ := hN.lay.get (i := 3) rfl
  obtain ⟨hT, tT⟩ := hN.lay.get (i := 4) rfl
  obtain ⟨hO, tO⟩ := hN.lay.get (i := 5) rfl
  obtain ⟨hE, tE⟩ := hN.lay.get (i := 6) rfl
  obtain ⟨hL, tL⟩ := hN.lay.get (i := 7) rfl
  have vl := hN.vl
  obtain ⟨p, rfl, hp⟩ := pk_I hd
  refine ⟨_, (Evl.pss_cut (ps_if (PW.pt (pw_or (pt_cmpR Xk.op_nNotN (pe_dget (hu_of hr) (pv 0) (pe_str) (fun _ _ => rfl)) (pe_non) (nomark _)) (pw_or1 (pt_cmpR (Xk.k_eqD (K := K) hr.units (by rfl)) (pv 1) (pe_call (ok__law_members_of T) (hr.mono (by decide)) (by rfl) T.g__law_members_of T.F__law_members_of.kp T.b__law_members_of .nil pass0 (pa_cons (pv 0) pa_nil)) (nomark _))))) (pss_one (ps_ret (pe_bl))) pss_nil)
      (pss_cons (ps_dput (hu_of hr) (pv 0) (pe_str) (pv 1) rfl)
      (Evl.pss_cut (ps_if (PW.pt (pw_and (pt_cmpR Xk.op_nIsN (pe_dget (hu_of hr) (pv 0) (pe_str) (fun _ _ => rfl)) (pe_non) (nomark _)) (pw_and1 (pt_not (pt_val (pe_dget (hu_of hr) (pv 0) (pe_str) (fun _ _ => rfl))))))) (pss_one (ps_expr (pe_call (ok__law_begin T) (hr.mono (by decide)) (by rfl) T.g__law_begin T.F__law_begin.kp T.b__law_begin .nil pass0 (pa_cons (pv 0) pa_nil)))) pss_nil)
      (pss_one (ps_ret (pe_bl)))))), ?_⟩
  wtm_at "x0"
  have hw := vl.wan
  cases ew : n.wan with
  | some ws =>
    rw [ew] at hw
    obtain ⟨pw, epw, _⟩ := pk_I hw
    have ew3 : ¬ (c.wn = .non) := fun e => by rw [epw] at e; cases e
    refine Xk.x_nocut ?_
    wtm_at "xs"
    exact q1 (by unfold refuM; rw [ew]; rfl)
  | none =>
    rw [ew] at hw
    have ew3 : c.wn = .non := pk_nonD hw
    have er : refuM n ms = decide (ms = mbs n) := by unfold refuM; rw [ew]; rfl
    by_cases hm : ms = mbs n
    · refine Xk.x_nocut ?_
      wtm_at "xs"
      refine ⟨m, z, tg, n, rfl, ⟨c, hN⟩, fun v2 hv2 => ?_⟩
      obtain ⟨p2, rfl, hp2⟩ := pk_I hv2
      refine Xk.x_eqTInts hp hp2 ?_
      wtm_at "xs"
      exact q1 (by rw [er]; exact decide_eq_true hm)
    · have er2 : refuM n ms = false := by rw [er]; exact decide_eq_false hm
      refine fall ?_ ?_
      · wtm_at "xs"
        refine ⟨m, z, tg, n, rfl, ⟨c, hN⟩, fun v2 hv2 => ?_⟩
        obtain ⟨p2, rfl, hp2⟩ := pk_I hv2
        refine Xk.x_eqTInts hp hp2 ?_
        wtm_at "xs"
        exact ⟨rfl, rfl⟩
      wtm_at "xs"
      have hq := hN.put (i := 0) (c' := { c with wn := .ref p }) (n' := { n with wan := some ms }) (o' := .dK (mK { c with wn := .ref p } n)) rfl rfl rfl (fun y => { y with wan := hd.st (Xk.st_updD hA) })
      obtain ⟨n1, hn1⟩ : ∃ n1 : Nd, n1 = { n with wan := some ms } := ⟨_, rfl⟩
      have N1 : MdAt K z tg (upd H m (.dK (mK { c with wn := .ref p } n))) m { c with wn := .ref p } n1 := by rw [hn1]; exact hq.1
      have ek : mK { c with wn := .ref p } n = mK { c with wn := .ref p } n1 := by rw [hn1]; rfl
      have mv1 := hq.2
      clear hq
      rw [ek] at N1 mv1 ⊢
      generalize (upd H m (.dK (mK { c with wn := .ref p } n1))) = H3 at N1 mv1 ⊢
      generalize ({ c with wn := .ref p } : Mc) = c1 at N1
      have wf1 : Wf n1 := by rw [hn1]; exact { wf with }
      have hf1 : n1.frm.length ≤ 7999 := by rw [hn1]; exact hf
      have hA3 := (N1.lay.get (i := 0) rfl).1
      have ef : offerM n ms = free n1 := by unfold offerM; rw [er2, hn1]; rfl
      have oc1 := mv1.oc hoc
      refine Xk.x_cut (fun σ' H' => σ' = [some (.ref m), some (.ref p)] ∧ ∃ tg', Xk.Mv z K tg tg' H H' ∧ MdA K z tg' H' m (free n1)) ?_ ?_
      · cases e : n1.att with
        | some A =>
          have ea : ¬ (atM c1 n1.att = .non) := by rw [e]; intro z; cases z
          wtm_at "xs"
          have e9 : free n1 = n1 := by unfold free; rw [e]; rfl
          exact ⟨rfl, _, mv1, by rw [e9]; exact ⟨_, N1⟩⟩
        | none =>
          have ea : atM c1 n1.att = .non := by rw [e]; rfl
          wtm_at "xs"
          cases eg : n1.gst with
          | true =>
            wtm_at "xs"
            have e9 : free n1 = n1 := by unfold free; rw [e, eg]; rfl
            exact ⟨rfl, _, mv1, by rw [e9]; exact ⟨_, N1⟩⟩
          | false =>
            wtm_at "xs"
            have e9 : free n1 = begin_ n1 := by unfold free; rw [e, eg]; rfl
            refine ⟨m, z, _, n1, rfl, hz, oc1, ⟨_, N1⟩, wf1, hf1, fun h => ?_, fun h H4 tg4 m4 hm4 => ?_⟩
            · wtm_at "xs"
              exact ⟨rfl, _, mv1, by rw [e9]; unfold begin_; rw [if_pos h]; exact ⟨_, N1⟩⟩
            · wtm_at "xs"
              exact ⟨rfl, _, mv1.trans m4, by rw [e9]; unfold begin_; rw [if_neg (by omega)]; exact hm4⟩
      rintro σ' H' ⟨rfl, tg', mv, hm⟩
      wtm_at "xs"
      exact q2 er2 H' tg' mv (by rw [ef]; exact hm)
def sp__law_tick (K : PySem.W.Frag) : Sp := fun vs H Q _ => ∃ (m : Addr) (z : Nat) (tg : Xk.TgF) (n : Nd), vs = [.ref m] ∧ 0 < z ∧ Xk.Occ tg H ∧ MdA K z tg H m n ∧ Wf n ∧ n.frm.length ≤ 7999 ∧
  ∀ (H' : Hp) (tg' : Xk.TgF), Xk.Mv z K tg tg' H H' → MdA K z tg' H' m (tickL n) → Q .non H'
theorem ok__law_tick (T : Txt K mg) : FnOk P w K mg base CX0 4 T.f__law_tick T.d__law_tick ["m"] (sp__law_tick K) := by
  refine T.F__law_tick.ok sc__law_tick (fun vs H Q E h => ?_) (fun cdv A outer s H vs Q E hr h => ?_)
  · obtain ⟨m, z, tg, n, rfl, _⟩ := h
    rfl
  obtain ⟨m, z, tg, n, rfl, hz, hoc, ⟨c, hN⟩, wf, hf, q⟩ := h
  obtain ⟨hA, tA⟩ := hN.lay.get (i := 0) rfl
  obtain ⟨hW, tW⟩ := hN.lay.get (i := 1) rfl
  obtain ⟨hF, tF⟩ := hN.lay.get (i := 2) rfl
  obtain ⟨hB, tB⟩ := hN.lay.get (i := 3) rfl
  obtain ⟨hT, tT⟩ := hN.lay.get (i := 4) rfl
  obtain ⟨hO, tO⟩ := hN.lay.get (i := 5) rfl
  obtain ⟨hE, tE⟩ := hN.lay.get (i := 6) rfl
  obtain ⟨hL, tL⟩ := hN.lay.get (i := 7) rfl
  have vl := hN.vl
  have lr : c.rv.length = n.row.length := by rw [vl.row.len, List.length_map]
  refine ⟨_, (pss_cons (ps_dput (hu_of hr) (pv 0) (pe_str) (pe_op op_sub (pe_dget (hu_of hr) (pv 0) (pe_str) (fun _ _ => rfl)) (pe_int)) rfl)
      (pss_one (ps_if (pt_cmpR op_eq (pe_dget (hu_of hr) (pv 0) (pe_str) (fun _ _ => rfl)) (pe_int) (nomark _)) (pss_cons (ps_dput (hu_of hr) (pv 0) (pe_str) (pe_bl) rfl)
      (pss_one (ps_if (PW.pt (pw_or (pt_not (pt_val (pe_call (ok__law_wishes T) (hr.mono (by decide)) (by rfl) T.g__law_wishes T.F__law_wishes.kp T.b__law_wishes .nil pass0 (pa_cons (pv 0) pa_nil)))) (pw_or1 (pt_not (pt_val (pe_call (ok__law_begin T) (hr.mono (by decide)) (by rfl) T.g__law_begin T.F__law_begin.kp T.b__law_begin .nil pass0 (pa_cons (pv 0) pa_nil))))))) (pss_cons (ps_dput (hu_of hr) (pv 0) (pe_str) (pe_op op_add (pe_int) (pe_op op_mul (pe_int) (pe_dget (hu_of hr) (pv 0) (pe_str) (fun _ _ => rfl)))) rfl)
      (pss_one (ps_expr (pe_call (ok__law_post T) (hr.mono (by decide)) (by rfl) T.g__law_post T.F__law_post.kp T.b__law_post .nil pass0 (pa_cons (pv 0) (pa_cons (pe_call (ok__law_others T) (hr.mono (by decide)) (by rfl) T.g__law_others T.F__law_others.kp T.b__law_others .nil pass0 (pa_cons (pv 0) pa_nil)) (pa_cons (pe_tup (pa_cons (pe_str) (pa_cons (pe_callB (Xk.k_len (K := K) (by rfl)) (by rfl) T.m_len PySem.boot_len (pa_cons (pe_dget (hu_of hr) (pv 0) (pe_str) (fun _ _ => rfl)) pa_nil)) pa_nil))) pa_nil))))))) pss_nil))) pss_nil))), ?_⟩
  wtm_at "x0"
  wtm_at "xs"
  have hp1 := hN.put (i := 0) (c' := c) (n' := { n with pat := n.pat - 1 }) (o' := .dK (mK c { n with pat := n.pat - 1 })) rfl rfl rfl (fun y => { y with })
  by_cases hz0 : n.pat - 1 = 0
  · have hzv : V.int (n.pat - 1) = V.int 0 := by rw [hz0]
    wtm_at "xs"
    have hp2 := hp1.1.put (i := 0) (c' := c) (n' := { n with pat := n.pat - 1, gst := false }) (o' := .dK (mK c { n with pat := n.pat - 1, gst := false })) rfl rfl rfl (fun y => { y with })
    obtain ⟨n2, hn2⟩ : ∃ n2 : Nd, n2 = { n with pat := n.pat - 1, gst := false } := ⟨_, rfl⟩
    have m2 := hp1.2.trans hp2.2
    have N2 := hp2.1
    clear hp1 hp2
    have wf2 : Wf n2 := by rw [hn2]; exact { wf with }
    have hf2 : n2.frm.length ≤ 7999 := by rw [hn2]; exact hf
    have ix2 : n2.ix = n.ix := by rw [hn2]
    have et : tickL n = if wish n2 && decide (top n2 < 9999) then begun n2 else post { n2 with pat := lpat n } (oths n) (.tuple [.str "fetch", .int n.row.length]) := by
      unfold tickL
      rw [hn2]
      exact if_pos hz0
    rw [← hn2] at N2 m2 ⊢
    generalize (upd (upd H m (.dK (mK c { n with pat := n.pat - 1 }))) m (.dK (mK c n2))) = H2 at N2 m2 ⊢
    have oc2 := m2.oc hoc
    have els : (wish n2 && decide (top n2 < 9999)) = false → tSeq (sDPut (tVar 0) (tC (V.str "patience")) (tOp (rI0 fun i j => V.int (i + j)) (tC (V.int 6)) (tOp (rI CMul fun i j => V.int (i * j)) (tC (V.int 2)) (tDGet (tVar 0) (tC (V.str "index")))))) (tDrop (tCall (sp__law_post K) [] E0 (tCons (tVar 0) (tCons (tCall (sp__law_others K) [] E0 (tCons (tVar 0) tNil)) (tCons (tTup (tCons (tC (V.str "fetch")) (tCons (tCB (Xk.nLen K) (tCons (tDGet (tVar 0) (tC (V.str "row"))) tNil)) tNil))) tNil))))) { nx := fun x H' => Q V.non H', rt := Q } [some (V.ref m)] H2 := by
      intro hb
      obtain ⟨hA2, tA2⟩ := N2.lay.get (i := 0) rfl
      have hW2 := (N2.lay.get (i := 1) rfl).1
      have hp3 := N2.put (i := 0) (c' := c) (n' := { n2 with pat := lpat n }) (o' := .dK (mK c { n2 with pat := 6 + 2 * n2.ix })) rfl rfl (by unfold lpat; rw [← ix2]; rfl) (fun y => { y with })
      wtm_at "xs"
      have m3 := m2.trans hp3.2
      have oc3 := m3.oc hoc
      have wf3 : Wf { n2 with pat := lpat n } := { wf2 with }
      have eo : oths { n2 with pat := lpat n } = oths n := by rw [hn2]; rfl
      have erow : n2.row = n.row := by rw [hn2]
      have hN3 := hp3.1
      clear hp3 N2 m2 hA2
      generalize (upd H2 m (.dK (mK c { n2 with pat := 6 + 2 * n2.ix }))) = H3 at hN3 m3 oc3 ⊢
      refine ⟨m, z, tg, _, rfl, ⟨c, hN3⟩, wf3, fun H4 p4 s4 f4 h4 => ?_⟩
      have hA4 := s4 _ _ (hN3.lay.get (i := 0) rfl).1
      have hW4 := s4 _ _ (hN3.lay.get (i := 1) rfl).1
      wtm_at "xs"
      intro p5 H5 fp5 s5 h5
      wtm_at "xs"
      refine ⟨m, p4, .ref p5, z, tg, _, oths n, .tuple [.str "fetch", .int n.row.length], rfl, ⟨c, hN3.same (s4.trans s5)⟩, wf3, by rw [← eo]; exact s5 _ _ h4, fun e => ?_, ?_, ?_, fun H6 m6 hm6 => ?_⟩
      · obtain ⟨o, ho⟩ := oc3 p4 (by rw [e]; omega)
        rw [f4.is] at ho
        cases ho
      · have l1 := List.length_filter_le (fun i => decide (i ≠ n.ix)) (alls n)
        rw [alls_len] at l1
        have l2 : (oths n).length ≤ n.sz.toNat := l1
        have := wf.sz
        omega
      · rw [lr] at h5
        exact Xk.pk_tup2 (Xk.st_of h5) Xk.pk_str Xk.pk_int
      wtm_at "xs"
      exact q H6 tg ((m3.trans (Xk.Mv.same (s4.trans s5))).trans m6) (by rw [et, hb]; exact hm6)
    refine ⟨m, z, tg, n2, rfl, ⟨c, N2⟩, ?_⟩
    cases ew : wish n2 with
    | false =>
      refine ⟨_, rfl, ?_⟩
      refine Xk.x_nF ?_
      rw [if_pos rfl]
      exact els (by rw [ew]; rfl)
    | true =>
      refine ⟨_, rfl, ?_⟩
      refine Xk.x_nT ?_
      wtm_at "xs"
      refine ⟨m, z, tg, n2, rfl, hz, oc2, ⟨c, N2⟩, wf2, hf2, fun h => ?_, fun h H4 tg4 m4 hm4 => ?_⟩
      · refine ⟨_, rfl, ?_⟩
        show if true = true then _ else _
        rw [if_pos rfl]
        exact els (by rw [ew, decide_eq_false (by omega)]; rfl)
      · refine ⟨_, rfl, ?_⟩
        show if false = true then _ else _
        rw [if_neg (by decide)]
        exact q H4 tg4 (m2.trans m4) (by rw [et, ew, decide_eq_true h]; exact hm4)
  · have hzv : ¬ (V.int (n.pat - 1) = V.int 0) := fun e => hz0 (by injection e)
    wtm_at "xs"
    have et : tickL n = { n with pat := n.pat - 1 } := by unfold tickL; exact if_neg hz0
    exact q _ tg hp1.2 (by rw [et]; exact ⟨c, hp1.1⟩)
--CUT--
local macro_rules | `(tactic| wtm_at "key") => `(tactic| (first | assumption | (with_reducible exact get_index _ _) | (with_reducible exact get_size _ _) | (with_reducible exact get_first _ _) | (with_reducible exact get_lazy _ _) | (with_reducible exact get_state _ _) | (with_reducible exact put_state _ _ _) | (with_reducible exact get_row _ _) | (with_reducible exact put_row _ _ _) | (with_reducible exact get_promised _ _) | (with_reducible exact put_promised _ _ _) | (with_reducible exact get_accepted _ _) | (with_reducible exact put_accepted _ _ _) | (with_reducible exact get_frames _ _) | (with_reducible exact put_frames _ _ _) | (with_reducible exact get_safe _ _) | (with_reducible exact put_safe _ _ _) | (with_reducible exact get_told _ _) | (with_reducible exact put_told _ _ _) | (with_reducible exact get_lost _ _) | (with_reducible exact put_lost _ _ _) | (with_reducible exact get_waiting _ _) | (with_reducible exact put_waiting _ _ _) | (with_reducible exact get_wanted _ _) | (with_reducible exact put_wanted _ _ _) | (with_reducible exact get_attempt _ _) | (with_reducible exact put_attempt _ _) | (with_reducible exact get_patience _ _) | (with_reducible exact put_patience _ _ _) | (with_reducible exact get_guest _ _) | (with_reducible exact put_guest _ _ _) | (with_reducible exact get_seen _ _) | (with_reducible exact put_seen _ _ _) | (with_reducible exact get_out _ _) | (with_reducible exact put_out _ _ _) | (with_reducible exact get_letters _ _) | (with_reducible exact put_letters _ _ _) | (with_reducible exact get_lines _ _) | (with_reducible exact put_lines _ _ _) | fail "key"))
/-- the attempt as the node and as the law's own node hold it -/
def AtN (K : PySem.W.Frag) (C : Cs) (H : Hp) (x : V) : Option Att → Prop
  | none => x = .non
  | some A => ∃ (t dt tp tq : Addr) (tb te tm tz : V), x = .ref t ∧ H t = some (.ins C.t dt [("ballot", tb), ("entry", te), ("members", tm), ("stage", .str A.stg), ("promised_by", .ref tp), ("voted_by", .ref tq), ("bound", tz)]) ∧ H tp = some (.lst (A.pby.map V.int)) ∧ H tq = some (.lst (A.vby.map V.int)) ∧
    Xk.Pk K H 1 tb (dB A.bal) ∧ Xk.Pk K H 38 te (dE A.ent) ∧ Xk.Pk K H 39 tz (dA A.bnd)
def AtM (K : PySem.W.Frag) (H : Hp) (x : V) : Option Att → Prop
  | none => x = .non
  | some A => ∃ (t tp tq : Addr) (tb te tz : V), x = .ref t ∧ H t = some (.dK [(ky "ballot", tb), (ky "entry", te), (ky "stage", .str A.stg), (ky "promised", .ref tp), (ky "voted", .ref tq), (ky "bound", tz)]) ∧ H tp = some (.lst (A.pby.map V.int)) ∧ H tq = some (.lst (A.vby.map V.int)) ∧
    Xk.Pk K H 1 tb (dB A.bal) ∧ Xk.Pk K H 38 te (dE A.ent) ∧ Xk.Pk K H 39 tz (dA A.bnd)
theorem NdAt.att {C : Cs} {z : Nat} {tg : Xk.TgF} {H : Hp} {a : Addr} {c : Nc} {n : Nd} (h : NdAt K C z tg H a c n) : AtN K C H (atV c n.att) n.att := by
  cases e : n.att with
  | none => rfl
  | some A =>
    have g1 := h.lay.get (i := 13) (a := c.t) (o := .ins C.t c.dt (tF c A)) (t := 15) (by unfold ndC; rw [e]; rfl)
    have g2 := h.lay.get (i := 14) (a := c.tp) (o := .lst (A.pby.map V.int)) (t := 16) (by unfold ndC; rw [e]; rfl)
    have g3 := h.lay.get (i := 15) (a := c.tq) (o := .lst (A.vby.map V.int)) (t := 17) (by unfold ndC; rw [e]; rfl)
    have v := h.vl.att A e
    exact ⟨c.t, c.dt, c.tp, c.tq, c.tb, c.te, c.tm, c.tz, rfl, g1.1, g2.1, g3.1, v.1, v.2.1, v.2.2.2⟩
theorem MdAt.att {z : Nat} {tg : Xk.TgF} {H : Hp} {m : Addr} {c : Mc} {n : Nd} (h : MdAt K z tg H m c n) : AtM K H (atM c n.att) n.att := by
  cases e : n.att with
  | none => rfl
  | some A =>
    have g1 := h.lay.get (i := 8) (a := c.t) (o := .dK (tK c A)) (t := 9) (by unfold mdC; rw [e]; rfl)
    have g2 := h.lay.get (i := 9) (a := c.tp) (o := .lst (A.pby.map V.int)) (t := 10) (by unfold mdC; rw [e]; rfl)
    have g3 := h.lay.get (i := 10) (a := c.tq) (o := .lst (A.vby.map V.int)) (t := 11) (by unfold mdC; rw [e]; rfl)
    have v := h.vl.att A e
    exact ⟨c.t, c.tp, c.tq, c.tb, c.te, c.tz, rfl, g1.1, g2.1, g3.1, v.1, v.2.1, v.2.2⟩
theorem AtN.same {C : Cs} {H H' : Hp} {x : V} {A : Option Att} (h : AtN K C H x A) (s : Same H H') : AtN K C H' x A := by
  cases A with
  | none => exact h
  | some A =>
    obtain ⟨t, dt, tp, tq, tb, te, tm, tz, e, h1, h2, h3, p1, p2, p3⟩ := h
    exact ⟨t, dt, tp, tq, tb, te, tm, tz, e, s _ _ h1, s _ _ h2, s _ _ h3, p1.same s, p2.same s, p3.same s⟩
theorem AtM.same {H H' : Hp} {x : V} {A : Option Att} (h : AtM K H x A) (s : Same H H') : AtM K H' x A := by
  cases A with
  | none => exact h
  | some A =>
    obtain ⟨t, tp, tq, tb, te, tz, e, h1, h2, h3, p1, p2, p3⟩ := h
    exact ⟨t, tp, tq, tb, te, tz, e, s _ _ h1, s _ _ h2, s _ _ h3, p1.same s, p2.same s, p3.same s⟩
theorem lay_cons {d : PyData} {ds : List PyData} (h : d.canLay0 = true) (h2 : PyData.canLayAll0 ds = true) : PyData.canLayAll0 (d :: ds) = true := by
  rw [PyData.canLayAll0, h, h2]
  rfl
theorem lay_nil : PyData.canLayAll0 [] = true := rfl
theorem dep_cons {d : PyData} {ds : List PyData} {k : Nat} (h : d.depth ≤ k) (h2 : PyData.depthAll ds ≤ k) : PyData.depthAll (d :: ds) ≤ k := by
  rw [PyData.depthAll]
  exact Nat.max_le.mpr ⟨h, h2⟩
theorem dep_nil {k : Nat} : PyData.depthAll [] ≤ k := Nat.zero_le k
def StOk (A : Option Att) : Prop := ∀ a, A = some a → PyData.canLay0 (.str a.stg) = true
def sp__law_attempt_agrees (K : PySem.W.Frag) (C : Cs) : Sp := fun vs H Q _ => ∃ (x y : V) (A : Option Att), vs = [x, y] ∧ AtN K C H x A ∧ AtM K H y A ∧ StOk A ∧ ∀ H', Same H H' → Q (.bl true) H'
theorem ok__law_attempt_agrees (T : Txt K mg) : FnOk P w K mg base CX0 1 T.f__law_attempt_agrees T.d__law_attempt_agrees ["attempt", "model"] (sp__law_attempt_agrees K (csOf T)) := by
  refine T.F__law_attempt_agrees.ok sc__law_attempt_agrees (fun vs H Q E h => ?_) (fun cdv A outer s H vs Q E hr h => ?_)
  · obtain ⟨x, y, A, rfl, _⟩ := h
    rfl
  obtain ⟨x, y, A, rfl, hx, hy, hs, q⟩ := h
  have cl_Attempt := T.Cls_Attempt
  have at_Attempt_ballot := T.A_Attempt_ballot
  have at_Attempt_entry := T.A_Attempt_entry
  have at_Attempt_members := T.A_Attempt_members
  have at_Attempt_stage := T.A_Attempt_stage
  have at_Attempt_promised_by := T.A_Attempt_promised_by
  have at_Attempt_voted_by := T.A_Attempt_voted_by
  have at_Attempt_bound := T.A_Attempt_bound
  refine ⟨_, (Evl.pss_cut (ps_if (PW.pt (pw_or (pt_cmpR Xk.op_nIsN (pv 1) (pe_non) (nomark _)) (pw_or1 (pt_cmpR Xk.op_nIsN (pv 0) (pe_non) (nomark _))))) (pss_one (ps_ret ((pe_and (pe_cmpR Xk.op_nIsN (pv 0) (pe_non) (nomark _)) (pe_one (pe_cmpR Xk.op_nIsN (pv 1) (pe_non) (nomark _))))))) pss_nil)
      (Evl.pss_cut (ps_if (pt_cmpR (Xk.k_neD (K := K) hr.units (by rfl)) (pe_lst (pa_cons (Xk.k_fld (K := K) (by rfl) (pv 0) rfl) (pa_cons (Xk.k_fld (K := K) (by rfl) (pv 0) rfl) (pa_cons (Xk.k_fld (K := K) (by rfl) (pv 0) rfl) pa_nil)))) (pe_lst (pa_cons (pe_dget (hu_of hr) (pv 1) (pe_str) (fun _ _ => rfl)) (pa_cons (pe_dget (hu_of hr) (pv 1) (pe_str) (fun _ _ => rfl)) (pa_cons (pe_dget (hu_of hr) (pv 1) (pe_str) (fun _ _ => rfl)) pa_nil)))) (nomark _)) (pss_one (ps_ret (pe_bl))) pss_nil)
      (pss_one (ps_ret (pe_cmpR (Xk.k_eqD (K := K) hr.units (by rfl)) (pe_lst (pa_cons (Xk.k_fld (K := K) (by rfl) (pv 0) rfl) (pa_cons (Xk.k_fld (K := K) (by rfl) (pv 0) rfl) (pa_cons (Xk.k_fld (K := K) (by rfl) (pv 0) rfl) pa_nil)))) (pe_lst (pa_cons (pe_dget (hu_of hr) (pv 1) (pe_str) (fun _ _ => rfl)) (pa_cons (pe_dget (hu_of hr) (pv 1) (pe_str) (fun _ _ => rfl)) (pa_cons (pe_dget (hu_of hr) (pv 1) (pe_str) (fun _ _ => rfl)) pa_nil)))) (nomark _)))))), ?_⟩
  wtm_at "x0"
  cases A with
  | none =>
    obtain rfl : x = .non := hx
    obtain rfl : y = .non := hy
    refine Xk.x_nocut ?_
    wtm_at "xs"
    exact q H (Same.refl _)
  | some A =>
    obtain ⟨t, dt, tp, tq, tb, te, tm, tz, rfl, h1, h2, h3, p1, p2, p3⟩ := hx
    obtain ⟨t', tp', tq', tb', te', tz', rfl, g1, g2, g3, r1, r2, r3⟩ := hy
    have hst := hs A rfl
    refine fall ?_ ?_
    · wtm_at "xs"
      exact ⟨rfl, rfl⟩
    refine Xk.x_cut (fun σ' H' => σ' = [some (.ref t), some (.ref t')] ∧ Same H H') ?_ ?_
    · wtm_at "xs"
      intro a1 H1 f1 s1 k1
      have g1' := s1 _ _ g1
      wtm_at "xs"
      intro a2 H2 f2 s2 k2
      have k1' := s2 _ _ k1
      have s12 := s1.trans s2
      refine Xk.x_neSame (d := .list [dB A.bal, dE A.ent, .str A.stg]) (.lst (Xk.sq_of k1') (.cons (p1.same s12).1 (.cons (p2.same s12).1 (.cons (.str _) .nil)))) (.lst (Xk.sq_of k2) (.cons (r1.same s12).1 (.cons (r2.same s12).1 (.cons (.str _) .nil)))) ?_ ?_ ?_
      · exact lay_cons p1.lay (lay_cons p2.lay (lay_cons hst lay_nil))
      · have := dep_cons (k := 38) (Nat.le_trans p1.2.2 (by decide)) (dep_cons (k := 38) p2.2.2 (dep_cons (k := 38) (d := .str A.stg) (Nat.zero_le _) dep_nil))
        show PyData.depthAll _ + 1 ≤ 64
        omega
      wtm_at "xs"
      exact ⟨rfl, s12⟩
    rintro σ' H' ⟨rfl, sH⟩
    have h1' := sH _ _ h1
    have g1' := sH _ _ g1
    wtm_at "xs"
    intro a1 H1 f1 s1 k1
    have g1'' := s1 _ _ g1'
    wtm_at "xs"
    intro a2 H2 f2 s2 k2
    have k1' := s2 _ _ k1
    have s12 := (sH.trans s1).trans s2
    refine Xk.x_eqSame (d := .list [.list (Xk.dInts A.pby), .list (Xk.dInts A.vby), dA A.bnd]) (.lst (Xk.sq_of k1') (.cons (.lst (Xk.sq_of (s12 _ _ h2)) (Xk.dp_ints _)) (.cons (.lst (Xk.sq_of (s12 _ _ h3)) (Xk.dp_ints _)) (.cons (p3.same s12).1 .nil)))) (.lst (Xk.sq_of k2) (.cons (.lst (Xk.sq_of (s12 _ _ g2)) (Xk.dp_ints _)) (.cons (.lst (Xk.sq_of (s12 _ _ g3)) (Xk.dp_ints _)) (.cons (r3.same s12).1 .nil)))) ?_ ?_ ?_
    · exact lay_cons (Xk.canLay_ints _) (lay_cons (Xk.canLay_ints _) (lay_cons p3.lay lay_nil))
    · have := dep_cons (k := 39) (d := .list (Xk.dInts A.pby)) (by rw [Xk.depth_lints]; decide) (dep_cons (k := 39) (d := .list (Xk.dInts A.vby)) (by rw [Xk.depth_lints]; decide) (dep_cons (k := 39) p3.2.2 dep_nil))
      show PyData.depthAll _ + 1 ≤ 64
      omega
    exact q H2 s12
def sp__law_agrees (K : PySem.W.Frag) (C : Cs) : Sp := fun vs H Q _ => ∃ (a m : Addr) (z y : Nat) (tg : Xk.TgF) (n : Nd), vs = [.ref a, .ref m] ∧ NdA K C z tg H a n ∧ MdA K y tg H m n ∧ Wf n ∧ StOk n.att ∧ ∀ H', Same H H' → Q (.bl true) H'
theorem ok__law_agrees (T : Txt K mg) : FnOk P w K mg base CX0 5 T.f__law_agrees T.d__law_agrees ["node", "m"] (sp__law_agrees K (csOf T)) := by
  refine T.F__law_agrees.ok sc__law_agrees (fun vs H Q E h => ?_) (fun cdv A outer s H vs Q E hr h => ?_)
  · obtain ⟨a, m, z, y, tg, n, rfl, _⟩ := h
    rfl
  obtain ⟨a, m, z, y, tg, n, rfl, ⟨c, hN⟩, ⟨c2, hN2⟩, wf, hs, q⟩ := h
  have cl_Node := T.Cls_Node
  have at_Node_index := T.A_Node_index
  have at_Node_size := T.A_Node_size
  have at_Node_first_members := T.A_Node_first_members
  have at_Node_lazy := T.A_Node_lazy
  have at_Node_state := T.A_Node_state
  have at_Node_journal := T.A_Node_journal
  have at_Node_record := T.A_Node_record
  have at_Node__make_machine := T.A_Node__make_machine
  have at_Node__untold := T.A_Node__untold
  have at_Node_waiting := T.A_Node_waiting
  have at_Node_wanted := T.A_Node_wanted
  have at_Node_attempt := T.A_Node_attempt
  have at_Node_patience := T.A_Node_patience
  have at_Node_guest := T.A_Node_guest
  have at_Node_seen := T.A_Node_seen
  have at_Node_machine := T.A_Node_machine
  have at_Node__sends := T.A_Node__sends
  have at_Node__letters := T.A_Node__letters
  have cl_Record := T.Cls_Record
  have at_Record_row := T.A_Record_row
  have at_Record_acceptor := T.A_Record_acceptor
  have cl_Acceptor := T.Cls_Acceptor
  have at_Acceptor_promised := T.A_Acceptor_promised
  have at_Acceptor_accepted := T.A_Acceptor_accepted
  have cl_Diary := T.Cls_Diary
  have at_Diary_lines := T.A_Diary_lines
  obtain ⟨hA, tA⟩ := hN.lay.get (i := 0) rfl
  obtain ⟨hJ, tJ⟩ := hN.lay.get (i := 1) rfl
  obtain ⟨hP, tP⟩ := hN.lay.get (i := 2) rfl
  obtain ⟨hS, tS⟩ := hN.lay.get (i := 3) rfl
  obtain ⟨hR, tR⟩ := hN.lay.get (i := 4) rfl
  obtain ⟨hW, tW⟩ := hN.lay.get (i := 5) rfl
  obtain ⟨hC, tC⟩ := hN.lay.get (i := 6) rfl
  obtain ⟨hU, tU⟩ := hN.lay.get (i := 7) rfl
  obtain ⟨hT, tT⟩ := hN.lay.get (i := 8) rfl
  obtain ⟨hM, tM⟩ := hN.lay.get (i := 9) rfl
  obtain ⟨hL, tL⟩ := hN.lay.get (i := 10) rfl
  obtain ⟨hO, tO⟩ := hN.lay.get (i := 11) rfl
  obtain ⟨hE, tE⟩ := hN.lay.get (i := 12) rfl
  have vl := hN.vl
  obtain ⟨hA2, tA2⟩ := hN2.lay.get (i := 0) rfl
  obtain ⟨hW2, tW2⟩ := hN2.lay.get (i := 1) rfl
  obtain ⟨hF2, tF2⟩ := hN2.lay.get (i := 2) rfl
  obtain ⟨hB2, tB2⟩ := hN2.lay.get (i := 3) rfl
  obtain ⟨hT2, tT2⟩ := hN2.lay.get (i := 4) rfl
  obtain ⟨hO2, tO2⟩ := hN2.lay.get (i := 5) rfl
  obtain ⟨hE2, tE2⟩ := hN2.lay.get (i := 6) rfl
  obtain ⟨hL2, tL2⟩ := hN2.lay.get (i := 7) rfl
  have vl2 := hN2.vl
  have lr : c.rv.length = n.row.length := by rw [vl.row.len, List.length_map]
  have lr2 : c2.rv.length = n.row.length := by rw [vl2.row.len, List.length_map]
  refine ⟨_, (Evl.pss_cut (ps_if (PW.pt (pw_or (pt_cmpR op_ne (Xk.k_fld (K := K) (by rfl) (pv 0) rfl) (pe_dget (hu_of hr) (pv 1) (pe_str) (fun _ _ => rfl)) (nomark _)) (pw_or (pt_cmpR (Xk.k_neD (K := K) hr.units (by rfl)) (Xk.k_fld (K := K) (by rfl) (Xk.k_fld (K := K) (by rfl) (pv 0) rfl) rfl) (pe_dget (hu_of hr) (pv 1) (pe_str) (fun _ _ => rfl)) (nomark _)) (pw_or1 (pt_cmpR op_ne (pe_prop (pv 0) T.Cls_Node T.P_Node_upto (ok_Node_upto T) (hr.mono (by decide)) T.b_Node_upto .nil pass0 rfl) (pe_callB (Xk.k_len (K := K) (by rfl)) (by rfl) T.m_len PySem.boot_len (pa_cons (pe_dget (hu_of hr) (pv 1) (pe_str) (fun _ _ => rfl)) pa_nil)) (nomark _)))))) (pss_one (ps_ret (pe_bl))) pss_nil)
      (pss_cons (ps_set (i := 2) sc__law_agrees.nd rfl (Or.inl rfl) (Xk.k_fld (K := K) (by rfl) (Xk.k_fld (K := K) (by rfl) (pv 0) rfl) rfl))
      (Evl.pss_cut (ps_if (pt_cmpR (Xk.k_neD (K := K) hr.units (by rfl)) (pe_lst (pa_cons (Xk.k_fld (K := K) (by rfl) (pv 2) rfl) (pa_cons (Xk.k_fld (K := K) (by rfl) (pv 2) rfl) pa_nil))) (pe_lst (pa_cons (pe_dget (hu_of hr) (pv 1) (pe_str) (fun _ _ => rfl)) (pa_cons (pe_dget (hu_of hr) (pv 1) (pe_str) (fun _ _ => rfl)) pa_nil))) (nomark _)) (pss_one (ps_ret (pe_bl))) pss_nil)
      (Evl.pss_cut (ps_if (pt_cmpR (Xk.k_neD (K := K) hr.units (by rfl)) (pe_lst (pa_cons (Xk.k_fld (K := K) (by rfl) (pv 0) rfl) (pa_cons (Xk.k_fld (K := K) (by rfl) (pv 0) rfl) (pa_cons (Xk.k_fld (K := K) (by rfl) (pv 0) rfl) (pa_cons (Xk.k_fld (K := K) (by rfl) (pv 0) rfl) pa_nil))))) (pe_lst (pa_cons (pe_dget (hu_of hr) (pv 1) (pe_str) (fun _ _ => rfl)) (pa_cons (pe_dget (hu_of hr) (pv 1) (pe_str) (fun _ _ => rfl)) (pa_cons (pe_dget (hu_of hr) (pv 1) (pe_str) (fun _ _ => rfl)) (pa_cons (pe_dget (hu_of hr) (pv 1) (pe_str) (fun _ _ => rfl)) pa_nil))))) (nomark _)) (pss_one (ps_ret (pe_bl))) pss_nil)
      (Evl.pss_cut (ps_if (PW.pt (pw_or (pt_not (pt_val (pe_callB (Xk.k_isi (K := K) (by rfl)) (by rfl) T.m_isinstance (by decide +kernel) (pa_cons (Xk.k_fld (K := K) (by rfl) (pv 0) rfl) (pa_cons (pe_bltn (v := .ty "bool") (u := .type "bool") (by rfl) T.m_bool (by decide +kernel) Xk.rel_ty) pa_nil))))) (pw_or (pt_cmpR op_ne (Xk.k_fld (K := K) (by rfl) (pv 0) rfl) (pe_dget (hu_of hr) (pv 1) (pe_str) (fun _ _ => rfl)) (nomark _)) (pw_or1 (pt_cmpR (Xk.k_neD (K := K) hr.units (by rfl)) (pe_prop (pv 0) T.Cls_Node T.P_Node_members_now (ok_Node_members_now T) (hr.mono (by decide)) T.b_Node_members_now .nil pass0 rfl) (pe_call (ok__law_members_of T) (hr.mono (by decide)) (by rfl) T.g__law_members_of T.F__law_members_of.kp T.b__law_members_of .nil pass0 (pa_cons (pv 1) pa_nil)) (nomark _)))))) (pss_one (ps_ret (pe_bl))) pss_nil)
      (Evl.pss_cut (ps_if (PW.pt (pw_or (pt_cmpR (Xk.k_neD (K := K) hr.units (by rfl)) (Xk.k_fld (K := K) (by rfl) (Xk.k_fld (K := K) (by rfl) (pv 0) rfl) rfl) (pe_dget (hu_of hr) (pv 1) (pe_str) (fun _ _ => rfl)) (nomark _)) (pw_or1 (pt_not (pt_val (pe_call (ok__law_attempt_agrees T) (hr.mono (by decide)) (by rfl) T.g__law_attempt_agrees T.F__law_attempt_agrees.kp T.b__law_attempt_agrees .nil pass0 (pa_cons (Xk.k_fld (K := K) (by rfl) (pv 0) rfl) (pa_cons (pe_dget (hu_of hr) (pv 1) (pe_str) (fun _ _ => rfl)) pa_nil)))))))) (pss_one (ps_ret (pe_bl))) pss_nil)
      (pss_one (ps_ret (pe_cmpR (Xk.k_eqD (K := K) hr.units (by rfl)) (pe_lst (pa_cons (pe_prop (Xk.k_fld (K := K) (by rfl) (pv 0) rfl) T.Cls_Journal T.P_Journal_frame_count (ok_Journal_frame_count T) (hr.mono (by decide)) T.b_Journal_frame_count .nil pass0 rfl) (pa_cons (pe_prop (Xk.k_fld (K := K) (by rfl) (pv 0) rfl) T.Cls_Journal T.P_Journal_synced_frames (ok_Journal_synced_frames T) (hr.mono (by decide)) T.b_Journal_synced_frames .nil pass0 rfl) pa_nil))) (pe_lst (pa_cons (pe_callB (Xk.k_len (K := K) (by rfl)) (by rfl) T.m_len PySem.boot_len (pa_cons (pe_dget (hu_of hr) (pv 1) (pe_str) (fun _ _ => rfl)) pa_nil)) (pa_cons (pe_dget (hu_of hr) (pv 1) (pe_str) (fun _ _ => rfl)) pa_nil))) (nomark _)))))))))), ?_⟩
  wtm_at "x0"
  refine fall ?_ ?_
  · wtm_at "xs"
    refine Xk.x_nePkL (Xk.sq_of hW) (Xk.sq_of hW2) vl.row vl2.row ?_
    wtm_at "xs"
    refine ⟨a, z, tg, n, rfl, ⟨c, hN⟩, ?_⟩
    have el : V.int (n.row.length : Int) = V.int (c2.rv.length : Int) := by rw [lr2]
    wtm_at "xs"
    exact ⟨rfl, rfl⟩
  wtm_at "xs"
  refine Xk.x_cut (fun σ' H' => σ' = [some (.ref a), some (.ref m), some (.ref c.ac)] ∧ Same H H') ?_ ?_
  · wtm_at "xs"
    intro a1 H1 f1 s1 k1
    have hA1 := s1 _ _ hA2
    wtm_at "xs"
    intro a2 H2 f2 s2 k2
    have s12 := s1.trans s2
    refine Xk.x_nePkL (n := 39) (m := 39) (ds := [dB n.prm, dA n.acc]) (Xk.sq_of (s2 _ _ k1)) (Xk.sq_of k2) (Xk.pk_cons ((vl.prm.same s12).mono (by decide)) (Xk.pk_cons (vl.acc.same s12) Xk.pk_nil)) (Xk.pk_cons ((vl2.prm.same s12).mono (by decide)) (Xk.pk_cons (vl2.acc.same s12) Xk.pk_nil)) ?_
    wtm_at "xs"
    exact ⟨rfl, s12⟩
  rintro σ' H1 ⟨rfl, s1⟩
  have hA1 := s1 _ _ hA
  have hA21 := s1 _ _ hA2
  refine Xk.x_cut (fun σ' H' => σ' = [some (.ref a), some (.ref m), some (.ref c.ac)] ∧ Same H H') ?_ ?_
  · wtm_at "xs"
    intro a1 H2 f1 s2 k1
    have hA22 := s2 _ _ hA21
    wtm_at "xs"
    intro a2 H3 f2 s3 k2
    have s13 := (s1.trans s2).trans s3
    refine Xk.x_neSame (d := .list [.list n.wai, dW n.wan, .int n.pat, .int n.see]) (.lst (Xk.sq_of (s3 _ _ k1)) (.cons (.lst (Xk.sq_of (s13 _ _ hT)) (vl.wai.same s13).1) (.cons (vl.wan.same s13).1 (.cons (.int _) (.cons (.int _) .nil))))) (.lst (Xk.sq_of k2) (.cons (.lst (Xk.sq_of (s13 _ _ hT2)) (vl2.wai.same s13).1) (.cons (vl2.wan.same s13).1 (.cons (.int _) (.cons (.int _) .nil))))) ?_ ?_ ?_
    · exact lay_cons vl.wai.lay (lay_cons vl.wan.lay (lay_cons rfl (lay_cons rfl lay_nil)))
    · have := dep_cons (k := 38) (d := .list n.wai) (by have := vl.wai.2.2; show PyData.depthAll _ + 1 ≤ 38; omega) (dep_cons (k := 38) (Nat.le_trans vl.wan.2.2 (by decide)) (dep_cons (k := 38) (d := .int n.pat) (Nat.zero_le _) (dep_cons (k := 38) (d := .int n.see) (Nat.zero_le _) dep_nil)))
      show PyData.depthAll _ + 1 ≤ 64
      omega
    wtm_at "xs"
    exact ⟨rfl, s13⟩
  clear hA1 hA21 s1 H1
  rintro σ' H1 ⟨rfl, s1⟩
  have hA1 := s1 _ _ hA
  have hA21 := s1 _ _ hA2
  refine fall ?_ ?_
  · wtm_at "xs"
    refine ⟨a, z, tg, n, rfl, ⟨c, hN.same s1⟩, wf, fun v hv => ?_⟩
    wtm_at "xs"
    refine ⟨m, y, tg, n, rfl, ⟨c2, hN2.same s1⟩, fun v2 hv2 => ?_⟩
    refine Xk.x_nePk hv hv2 ?_
    wtm_at "xs"
    exact ⟨rfl, rfl⟩
  have hM1 := s1 _ _ hM
  have hL1 := s1 _ _ hL
  have hJ1 := s1 _ _ hJ
  have hP1 := s1 _ _ hP
  refine Xk.x_cut (fun σ' H' => σ' = [some (.ref a), some (.ref m), some (.ref c.ac)] ∧ Same H H') ?_ ?_
  · wtm_at "xs"
    refine Xk.x_nePkL (Xk.sq_of hL1) (Xk.sq_of (s1 _ _ hL2)) (vl.lin.same s1) (vl2.lin.same s1) ?_
    wtm_at "xs"
    refine ⟨_, _, n.att, rfl, (hN.same s1).att, (hN2.same s1).att, hs, fun H2 s2 => ?_⟩
    wtm_at "xs"
    exact ⟨rfl, s1.trans s2⟩
  rintro σ' H2 ⟨rfl, s2⟩
  have hA2' := s2 _ _ hA
  have hA22' := s2 _ _ hA2
  wtm_at "xs"
  refine ⟨c.j, c.dj, c.jp, c.js, _, _, rfl, s2 _ _ hJ, s2 _ _ hP, ?_⟩
  wtm_at "xs"
  refine ⟨c.j, c.dj, c.jp, c.js, _, rfl, s2 _ _ hJ, ?_⟩
  wtm_at "xs"
  intro a1 H3 f1 s3 k1
  have hA23 := s3 _ _ hA22'
  have hF3 := s3 _ _ (s2 _ _ hF2)
  wtm_at "xs"
  intro a2 H4 f2 s4 k2
  have lp : c.ps.length = c2.fv.length := by rw [hN.pay.len, vl2.frm.len, List.length_map]
  refine Xk.x_eqPkL (n := 0) (m := 0) (ds := [.int (c.ps.length : Int), .int n.saf]) (Xk.sq_of (s4 _ _ k1)) (Xk.sq_of k2) ?_ ?_ ?_
  · rw [List.length_map]
    exact Xk.pk_cons Xk.pk_int (Xk.pk_cons Xk.pk_int Xk.pk_nil)
  · rw [lp]
    exact Xk.pk_cons Xk.pk_int (Xk.pk_cons Xk.pk_int Xk.pk_nil)
  exact q H4 ((s2.trans s3).trans s4)
--CUT--
local macro_rules | `(tactic| wtm_at "key") => `(tactic| (first | assumption | (with_reducible exact get_index _ _) | (with_reducible exact get_size _ _) | (with_reducible exact get_first _ _) | (with_reducible exact get_lazy _ _) | (with_reducible exact get_state _ _) | (with_reducible exact put_state _ _ _) | (with_reducible exact get_row _ _) | (with_reducible exact put_row _ _ _) | (with_reducible exact get_promised _ _) | (with_reducible exact put_promised _ _ _) | (with_reducible exact get_accepted _ _) | (with_reducible exact put_accepted _ _ _) | (with_reducible exact get_frames _ _) | (with_reducible exact put_frames _ _ _) | (with_reducible exact get_safe _ _) | (with_reducible exact put_safe _ _ _) | (with_reducible exact get_told _ _) | (with_reducible exact put_told _ _ _) | (with_reducible exact get_lost _ _) | (with_reducible exact put_lost _ _ _) | (with_reducible exact get_waiting _ _) | (with_reducible exact put_waiting _ _ _) | (with_reducible exact get_wanted _ _) | (with_reducible exact put_wanted _ _ _) | (with_reducible exact get_attempt _ _) | (with_reducible exact put_attempt _ _) | (with_reducible exact get_patience _ _) | (with_reducible exact put_patience _ _ _) | (with_reducible exact get_guest _ _) | (with_reducible exact put_guest _ _ _) | (with_reducible exact get_seen _ _) | (with_reducible exact put_seen _ _ _) | (with_reducible exact get_out _ _) | (with_reducible exact put_out _ _ _) | (with_reducible exact get_letters _ _) | (with_reducible exact put_letters _ _ _) | (with_reducible exact get_lines _ _) | (with_reducible exact put_lines _ _ _) | fail "key"))
/-- nobody's places stay -/
structure Sv (K : PySem.W.Frag) (tg tg' : Xk.TgF) (H H' : Hp) : Prop where
  un : ∀ b o, (tg b).1 = 0 → H b = some o → H' b = some o ∧ (tg' b).1 = 0
  st : Xk.St K H H'
  oc : Xk.Occ tg H → Xk.Occ tg' H'
theorem Sv.mv {z : Nat} {tg tg' : Xk.TgF} {H H' : Hp} (m : Xk.Mv z K tg tg' H H') (hz : z ≠ 0) : Sv K tg tg' H H' := ⟨fun b o h1 h2 => m.keep hz h1 h2, m.st, m.oc⟩
theorem Sv.same {tg : Xk.TgF} {H H' : Hp} (s : Same H H') : Sv K tg tg H H' := ⟨fun b o h1 h2 => ⟨s _ _ h2, h1⟩, Xk.tt_same s, fun h => h.same s⟩
theorem Sv.trans {tg tg' tg'' : Xk.TgF} {H H' H'' : Hp} (a : Sv K tg tg' H H') (b : Sv K tg' tg'' H' H'') : Sv K tg tg'' H H'' :=
  ⟨fun x o h1 h2 => b.un x o (a.un x o h1 h2).2 (a.un x o h1 h2).1, a.st.trans b.st, fun h => b.oc (a.oc h)⟩
theorem Sv.sq {tg tg' : Xk.TgF} {H H' : Hp} {a : Addr} {xs : List V} (v : Sv K tg tg' H H') (t : (tg a).1 = 0) (h : SqL K H a xs) : SqL K H' a xs := by
  rcases h with (h | ⟨o, h⟩) | h
  · exact .inl (.inl (v.un a _ t h).1)
  · exact .inl (.inr ⟨o, (v.un a _ t h).1⟩)
  · exact .inr h
theorem cut_mem {xs : List V} {lo hi : Option Int} {x : V} (h : x ∈ cutV xs lo hi) : x ∈ xs := by
  unfold cutV at h
  exact List.mem_of_mem_drop (List.mem_of_mem_take h)
theorem fresh0 {tg : Xk.TgF} {H : Hp} {p : Addr} (oc : Xk.Occ tg H) (f : Xk.Fr p H) : (tg p).1 = 0 := by
  cases e : (tg p).1 with
  | zero => rfl
  | succ k =>
    obtain ⟨o, ho⟩ := oc p (by rw [e]; exact Nat.succ_ne_zero k)
    rw [f.is] at ho
    cases ho
def outS (n : Nd) : List PyData := if said n then n.out else []
def ltrS (n : Nd) : List PyData := if said n then n.ltr else []
def lftS (n : Nd) : Nd := { n with out := if said n then [] else n.out, ltr := if said n then [] else n.ltr }
def sp__law_said (K : PySem.W.Frag) (C : Cs) : Sp := fun vs H Q _ => ∃ (a m : Addr) (z y : Nat) (tg : Xk.TgF) (n : Nd), vs = [.ref a, .ref m] ∧ NdA K C z tg H a n ∧ MdA K y tg H m n ∧ z ≠ y ∧ 0 < z ∧ 0 < y ∧ Xk.Occ tg H ∧ Wf n ∧ n.los = [] ∧ n.unt = [] ∧ (∀ u ∈ n.frm, voteD u = none) ∧
  ∀ (H' : Hp) (tg' : Xk.TgF), Sv K tg tg' H H' → NdA K C z tg' H' a { lftS n with tld := max n.tld n.saf } → MdA K y tg' H' m { lftS n with tld := max n.tld n.saf } → Q (.bl true) H'
theorem ok__law_said (T : Txt K mg) : FnOk P w K mg base CX0 5 T.f__law_said T.d__law_said ["node", "m"] (sp__law_said K (csOf T)) := by
  refine T.F__law_said.ok sc__law_said (fun vs H Q E h => ?_) (fun cdv A outer s H vs Q E hr h => ?_)
  · obtain ⟨a, m, z, y, tg, n, rfl, _⟩ := h
    rfl
  obtain ⟨a, m, z, y, tg, n, rfl, hNa, ⟨c, hN⟩, hzy, hz, hy, hoc, wf, hlos, hunt, hvo, q⟩ := h
  have cl_Node := T.Cls_Node
  have at_Node_index := T.A_Node_index
  have at_Node_size := T.A_Node_size
  have at_Node_first_members := T.A_Node_first_members
  have at_Node_lazy := T.A_Node_lazy
  have at_Node_state := T.A_Node_state
  have at_Node_journal := T.A_Node_journal
  have at_Node_record := T.A_Node_record
  have at_Node__make_machine := T.A_Node__make_machine
  have at_Node__untold := T.A_Node__untold
  have at_Node_waiting := T.A_Node_waiting
  have at_Node_wanted := T.A_Node_wanted
  have at_Node_attempt := T.A_Node_attempt
  have at_Node_patience := T.A_Node_patience
  have at_Node_guest := T.A_Node_guest
  have at_Node_seen := T.A_Node_seen
  have at_Node_machine := T.A_Node_machine
  have at_Node__sends := T.A_Node__sends
  have at_Node__letters := T.A_Node__letters
  obtain ⟨hA, tA⟩ := hN.lay.get (i := 0) rfl
  obtain ⟨hW, tW⟩ := hN.lay.get (i := 1) rfl
  obtain ⟨hF, tF⟩ := hN.lay.get (i := 2) rfl
  obtain ⟨hB, tB⟩ := hN.lay.get (i := 3) rfl
  obtain ⟨hT, tT⟩ := hN.lay.get (i := 4) rfl
  obtain ⟨hO, tO⟩ := hN.lay.get (i := 5) rfl
  obtain ⟨hE, tE⟩ := hN.lay.get (i := 6) rfl
  obtain ⟨hL, tL⟩ := hN.lay.get (i := 7) rfl
  have vl := hN.vl
  have lf : c.fv.length = n.frm.length := by rw [vl.frm.len, List.length_map]
  refine ⟨_, (pss_cons (ps_set (i := 2) sc__law_said.nd rfl (Or.inl rfl) (pe_lst pa_nil))
      (pss_cons (ps_set (i := 3) sc__law_said.nd rfl (Or.inl rfl) (pe_lst pa_nil))
      (Evl.pss_cut (ps_if (pt_cmpR op_eq (pe_dget (hu_of hr) (pv 1) (pe_str) (fun _ _ => rfl)) (pe_callB (Xk.k_len (K := K) (by rfl)) (by rfl) T.m_len PySem.boot_len (pa_cons (pe_dget (hu_of hr) (pv 1) (pe_str) (fun _ _ => rfl)) pa_nil)) (nomark _)) (pss_cons (ps_set (i := 2) sc__law_said.nd rfl (Or.inl rfl) (pe_dget (hu_of hr) (pv 1) (pe_str) (fun _ _ => rfl)))
      (pss_cons (ps_set (i := 3) sc__law_said.nd rfl (Or.inl rfl) (pe_dget (hu_of hr) (pv 1) (pe_str) (fun _ _ => rfl)))
      (pss_cons (ps_dput (hu_of hr) (pv 1) (pe_str) (pe_lst pa_nil) rfl)
      (pss_one (ps_dput (hu_of hr) (pv 1) (pe_str) (pe_lst pa_nil) rfl))))) pss_nil)
      (pss_cons (ps_set (i := 4) sc__law_said.nd rfl (Or.inl rfl) (pe_op op_cat (pe_dget (hu_of hr) (pv 1) (pe_str) (fun _ _ => rfl)) (pe_lc (own := [("update", 5)]) (g := gName 5) rfl sc__law_said.nd  (pi_list (pe_slice (Xk.k_slL (K := K) (by rfl)) (pe_dget (hu_of hr) (pv 1) (pe_str) (fun _ _ => rfl)) (po_some (pe_dget (hu_of hr) (pv 1) (pe_str) (fun _ _ => rfl))) (po_some (pe_dget (hu_of hr) (pv 1) (pe_str) (fun _ _ => rfl))))) (blkOk_by (N := N__law_said) (sc := defScope s__law_said) (own := [("update", 5)]) (by decide +kernel)) (fun _ _ _ _ _ => pg_name (i := 5) sc__law_said.nd rfl (Or.inl rfl)) (fun _ _ _ _ _ => pts_one (pt_cmpR op_eq (pe_ix (Xk.k_ixT (K := K) (by rfl)) (pv 5) (pe_int) (fun _ _ => rfl)) (pe_str) (nomark _))) (fun _ _ _ _ _ => (pe_slice (Xk.k_slT (K := K) (by rfl)) (pv 5) (po_some (pe_int)) po_none)))))
      (pss_cons (ps_dput (hu_of hr) (pv 1) (pe_str) (pe_lst pa_nil) rfl)
      (pss_cons (ps_dput (hu_of hr) (pv 1) (pe_str) (pe_callB (Xk.call_nMax2 rfl) (by rfl) T.m_max (by decide +kernel) (pa_cons (pe_dget (hu_of hr) (pv 1) (pe_str) (fun _ _ => rfl)) (pa_cons (pe_dget (hu_of hr) (pv 1) (pe_str) (fun _ _ => rfl)) pa_nil))) rfl)
      (pss_one (ps_ret ((pe_and (pe_cmpR (Xk.k_eqD (K := K) hr.units (by rfl)) (pe_meth0 (pv 0) T.Cls_Node T.M_Node_sends (ok_Node_sends T) (hr.mono (by decide)) T.b_Node_sends .nil pass0) (pv 2) (nomark _)) (pe_and (pe_cmpR (Xk.k_eqD (K := K) hr.units (by rfl)) (pe_meth0 (pv 0) T.Cls_Node T.M_Node_letters (ok_Node_letters T) (hr.mono (by decide)) T.b_Node_letters .nil pass0) (pv 3) (nomark _)) (pe_one (pe_cmpR (Xk.k_eqD (K := K) hr.units (by rfl)) (pe_meth0 (pv 0) T.Cls_Node T.M_Node_new_votes (ok_Node_new_votes T) (hr.mono (by decide)) T.b_Node_new_votes .nil pass0) (pv 4) (nomark _)))))))))))))), ?_⟩
  wtm_at "x0"
  wtm_at "xs"
  intro p1 H1 f1 s1 h1
  wtm_at "xs"
  intro p2 H2 f2 s2 h2
  have hA2 := (s1.trans s2) _ _ hA
  have hF2 := (s1.trans s2) _ _ hF
  have h1' := s2 _ _ h1
  have s12 := s1.trans s2
  have N2 := hN.same s12
  have oc2 := hoc.same s12
  refine Xk.x_cut (fun σ' H' => ∃ (pm pq : Addr) (tg' : Xk.TgF) (sv tv : List V), σ' = [some (.ref a), some (.ref m), some (.ref pm), some (.ref pq), none, none] ∧ Xk.Mv y K tg tg' H2 H' ∧ MdA K y tg' H' m (lftS n) ∧ H' pm = some (.lst sv) ∧ H' pq = some (.lst tv) ∧ pm ≠ m ∧ pq ≠ m ∧ (tg' pm).1 ≠ z ∧ (tg' pq).1 ≠ z ∧ Xk.PkAll K H' 42 sv (outS n) ∧ Xk.PkAll K H' 42 tv (ltrS n)) ?_ ?_
  · cases es : said n with
    | false =>
      have hne : ¬ (V.int (n.saf : Int) = V.int (c.fv.length : Int)) := fun e => by
        injection e with e
        rw [lf] at e
        have : said n = true := decide_eq_true (by omega)
        rw [es] at this
        cases this
      wtm_at "xs"
      have el : lftS n = n := by unfold lftS; rw [es]; rfl
      have eo : outS n = [] := by unfold outS; rw [es]; rfl
      have et : ltrS n = [] := by unfold ltrS; rw [es]; rfl
      rw [el, eo, et]
      refine ⟨p1, p2, tg, [], [], rfl, Xk.Mv.refl, ⟨c, N2⟩, h1', h2, (Xk.ne_new f1 hA).symm, (Xk.ne_new f2 (s1 _ _ hA)).symm, ?_, ?_, Xk.pk_nil, Xk.pk_nil⟩
      · rw [fresh0 hoc f1]; omega
      · rw [fresh0 (hoc.same s1) f2]; omega
    | true =>
      have heq : V.int (n.saf : Int) = V.int (c.fv.length : Int) := by
        rw [lf]
        have := of_decide_eq_true es
        rw [this]
      have hO2 := s12 _ _ hO
      have hE2 := s12 _ _ hE
      wtm_at "xs"
      intro p3 H3 f3 s3 h3
      have hA3 := s3 _ _ hA2
      wtm_at "xs"
      have r1 := N2.rep (i := 5) (p := p3) (c' := { c with o := p3, ov := [] }) (n' := { n with out := [] }) (kv := mK { c with o := p3 } n) s3 f3 h3 rfl (by decide) rfl (fun x => { x with out := Xk.pk_nil })
      intro p4 H4 f4 s4 h4
      have hA4 := s4 _ _ (upd_same : upd H3 m (.dK (mK { c with o := p3 } n)) m = _)
      wtm_at "xs"
      have r2 := r1.1.rep (i := 6) (p := p4) (c' := { c with o := p3, ov := [], lt := p4, tv := [] }) (n' := { n with out := [], ltr := [] }) (kv := mK { c with o := p3, lt := p4 } n) s4 f4 h4 rfl (by decide) rfl (fun x => { x with ltr := Xk.pk_nil })
      have el : lftS n = { n with out := [], ltr := [] } := by unfold lftS; rw [es]; rfl
      have eo : outS n = n.out := by unfold outS; rw [es]; rfl
      have et : ltrS n = n.ltr := by unfold ltrS; rw [es]; rfl
      rw [el, eo, et]
      have mm := r1.2.trans r2.2
      have nom : c.o ≠ m := Xk.tg_ne tO tA (by decide)
      have nem : c.lt ≠ m := Xk.tg_ne tE tA (by decide)
      have no3 : c.o ≠ p3 := Xk.ne_new f3 hO2
      have ne3 : c.lt ≠ p3 := Xk.ne_new f3 hE2
      have hO3 := s4 _ _ ((upd_ne nom).trans (s3 _ _ hO2) : upd H3 m (.dK (mK { c with o := p3 } n)) c.o = _)
      have hE3 := s4 _ _ ((upd_ne nem).trans (s3 _ _ hE2) : upd H3 m (.dK (mK { c with o := p3 } n)) c.lt = _)
      have no4 : c.o ≠ p4 := Xk.ne_new f4 ((upd_ne nom).trans (s3 _ _ hO2))
      have ne4 : c.lt ≠ p4 := Xk.ne_new f4 ((upd_ne nem).trans (s3 _ _ hE2))
      refine ⟨c.o, c.lt, _, c.ov, c.tv, rfl, mm, ⟨_, r2.1⟩, (upd_ne nom).trans hO3, (upd_ne nem).trans hE3, nom, nem, ?_, ?_, (vl.out.same s12).st mm.st, (vl.ltr.same s12).st mm.st⟩
      · rw [(Xk.tgU_ne (z := y) (i := 7) no4 (Xk.tgU_ne (z := y) (i := 6) no3 tO)).is]
        exact Ne.symm hzy
      · rw [(Xk.tgU_ne (z := y) (i := 7) ne4 (Xk.tgU_ne (z := y) (i := 6) ne3 tE)).is]
        exact Ne.symm hzy
  rintro σ' H3 ⟨pm, pq, tg3, sv, tv, rfl, m3, ⟨c3, hN3⟩, hpm, hpq, npm, npq, zpm, zpq, ksv, ktv⟩
  clear h1 h2 h1' hA2 hF2 N2
  obtain ⟨hA3, tA3⟩ := hN3.lay.get (i := 0) rfl
  obtain ⟨hW3, tW3⟩ := hN3.lay.get (i := 1) rfl
  obtain ⟨hF3, tF3⟩ := hN3.lay.get (i := 2) rfl
  obtain ⟨hB3, tB3⟩ := hN3.lay.get (i := 3) rfl
  obtain ⟨hT3, tT3⟩ := hN3.lay.get (i := 4) rfl
  obtain ⟨hO3, tO3⟩ := hN3.lay.get (i := 5) rfl
  obtain ⟨hE3, tE3⟩ := hN3.lay.get (i := 6) rfl
  obtain ⟨hL3, tL3⟩ := hN3.lay.get (i := 7) rfl
  have vl3 := hN3.vl
  wtm_at "xs"
  intro p5 H5 f5 s5 h5
  refine Xk.x_lcL (fun Dl i H' => H' = upd H5 Dl (.lst [])) (Xk.sq_of h5) (fun Dl hD => rfl) (fun Dl i H' hD hh => by rw [hh]; exact Xk.sq_same (Xk.sq_of h5) (Xk.same_fr hD)) ?_ ?_
  · rintro Dl hD i x H' hi rfl
    have hx := cut_mem (List.mem_of_getElem? hi)
    obtain ⟨j, hj⟩ := List.mem_iff_getElem?.mp hx
    obtain ⟨d, hd, pd⟩ := vl3.frm.at hj
    obtain ⟨u, hu, rfl⟩ := Xk.of_map_at hd
    have hv := hvo u (List.mem_of_getElem? hu)
    have s6 : Same H3 (upd H5 Dl (.lst [])) := s5.trans (Xk.same_fr hD)
    have pd6 := pd.same s6
    have hw : ∃ (pa : Addr) (w1 : Str) (vs : List V), x = .ref pa ∧ SqT K (upd H5 Dl (.lst [])) pa (.str w1 :: vs) ∧ (w1 = "promise" ∨ w1 = "chosen") := by
      cases u with
      | pro s b =>
        obtain ⟨pa, vs, rfl, hs, hp⟩ := pk_tupD pd6
        obtain ⟨v1, w1, rfl, p1', hp⟩ := pk_more hp
        rw [pk_strD p1'] at hs
        exact ⟨pa, _, _, rfl, hs, .inl rfl⟩
      | acc s b e => cases hv
      | cho s e =>
        obtain ⟨pa, vs, rfl, hs, hp⟩ := pk_tupD pd6
        obtain ⟨v1, w1, rfl, p1', hp⟩ := pk_more hp
        rw [pk_strD p1'] at hs
        exact ⟨pa, _, _, rfl, hs, .inr rfl⟩
    obtain ⟨pa, w1, vs, rfl, hs, hw1⟩ := hw
    rcases hw1 with rfl | rfl
    · wtm_at "xs"
      refine Xk.x_wiped rfl ?_
      refine Xk.x_test ?_
      wtm_at "xs"
      refine Xk.x_ixT hs (Xk.at_nat (j := 0) rfl rfl) ?_
      wtm_at "xs"
    · wtm_at "xs"
      refine Xk.x_wiped rfl ?_
      refine Xk.x_test ?_
      wtm_at "xs"
      refine Xk.x_ixT hs (Xk.at_nat (j := 0) rfl rfl) ?_
      wtm_at "xs"
  rintro Dl H6 hD hH6
  have s6 : Same H3 H6 := by rw [hH6]; exact s5.trans (Xk.same_fr hD)
  have h6 : H6 Dl = some (.lst []) := by rw [hH6]; exact upd_same
  have elv : c3.lsv = [] := by
    have := vl3.los.len
    rw [show (lftS n).los = [] from hlos] at this
    exact List.eq_nil_of_length_eq_zero this
  have hB6 := s6 _ _ hB3
  rw [elv] at hB6
  refine Xk.x_cat hB6 h6 (by decide) fun pv0 H7 f7 s7 h7 => ?_
  have hA7 := s7 _ _ (s6 _ _ hA3)
  wtm_at "xs"
  intro p8 H8 f8 s8 h8
  have s38 := (s6.trans s7).trans s8
  have hA8 := s8 _ _ hA7
  have f83 : Xk.Fr p8 H3 := Xk.free_back f8 (s6.trans s7)
  have pt : putK (mK { c3 with ls := p8 } (lftS n)) (Sum.inr ("told" : Str)) (.int (max ((lftS n).tld : Int) ((lftS n).saf : Int))) = mK { c3 with ls := p8 } { lftS n with tld := max n.tld n.saf } := by
    rw [show max ((lftS n).tld : Int) ((lftS n).saf : Int) = ((max n.tld n.saf : Nat) : Int) by show max (n.tld : Int) (n.saf : Int) = _; omega]
    exact put_told _ _ _
  wtm_at "xs"
  have r1 := hN3.rep (i := 3) (p := p8) (c' := { c3 with ls := p8, lsv := [] }) (n' := { lftS n with los := [] }) (kv := mK { c3 with ls := p8 } (lftS n)) s38 f83 h8 rfl (by decide) rfl (fun x => { x with los := Xk.pk_nil })
  have r2 := r1.1.put (i := 0) (c' := { c3 with ls := p8, lsv := [] }) (n' := { lftS n with los := [], tld := max n.tld n.saf }) (o' := .dK (mK { c3 with ls := p8 } { lftS n with tld := max n.tld n.saf })) rfl rfl rfl (fun x => { x with })
  have elo : ({ lftS n with los := [], tld := max n.tld n.saf } : Nd) = { lftS n with tld := max n.tld n.saf } := Eq.trans (congrArg (fun l => ({ lftS n with los := l, tld := max n.tld n.saf } : Nd)) (show ([] : List PyData) = (lftS n).los from hlos.symm)) rfl
  have m9 := r1.2.trans r2.2
  have M9 := r2.1
  rw [elo] at M9
  have npv : pv0 ≠ m := (Xk.ne_new f7 (s6 _ _ hA3)).symm
  have np8 : pv0 ≠ p8 := Xk.ne_new f8 h7
  have oc3 := m3.oc oc2
  have zpv : ((Xk.tgU tg3 p8 y 4) pv0).1 = 0 := by
    unfold Xk.tgU
    rw [if_neg np8]
    exact fresh0 oc3 (Xk.free_back f7 s6)
  have zz : ∀ b, (tg3 b).1 ≠ z → ((Xk.tgU tg3 p8 y 4) b).1 ≠ z := fun b hb => by
    rcases m9.nw b with e | ⟨e, _⟩
    · rw [e]; exact hb
    · rw [e]; exact Ne.symm hzy
  have g1 : upd (upd H8 m (.dK (mK { c3 with ls := p8 } (lftS n)))) m (.dK (mK { c3 with ls := p8 } { lftS n with tld := max n.tld n.saf })) pm = some (.lst sv) := (upd_ne npm).trans ((upd_ne npm).trans (s38 _ _ hpm))
  have g2 : upd (upd H8 m (.dK (mK { c3 with ls := p8 } (lftS n)))) m (.dK (mK { c3 with ls := p8 } { lftS n with tld := max n.tld n.saf })) pq = some (.lst tv) := (upd_ne npq).trans ((upd_ne npq).trans (s38 _ _ hpq))
  have g3 : upd (upd H8 m (.dK (mK { c3 with ls := p8 } (lftS n)))) m (.dK (mK { c3 with ls := p8 } { lftS n with tld := max n.tld n.saf })) pv0 = some (.lst ([] ++ [])) := (upd_ne npv).trans ((upd_ne npv).trans (s8 _ _ h7))
  obtain ⟨ca, hNc⟩ := hNa
  have Na9 := ((hNc.same s12).mv m3 hzy).mv m9 hzy
  have ksv9 := ksv.st m9.st
  have ktv9 := ktv.st m9.st
  clear r1 r2 hA7 hA8 hB6 h6 h7 h8 s38 pt
  generalize (upd (upd H8 m (.dK (mK { c3 with ls := p8 } (lftS n)))) m (.dK (mK { c3 with ls := p8 } { lftS n with tld := max n.tld n.saf }))) = H9 at *
  generalize Xk.tgU tg3 p8 y 4 = tg9 at *
  have hA9 := (Na9.lay.get (i := 0) rfl).1
  wtm_at "xs"
  refine ⟨a, z, tg9, n, rfl, ⟨ca, Na9⟩, fun H10 tg10 p10 sv10 m10 ⟨ca10, N10⟩ h10 k10 => ?_⟩
  wtm_at "xs"
  refine Xk.x_eqPkL (Xk.sq_of h10) (Xk.sq_of (m10.un _ _ (zz _ zpm) g1)) k10 (ksv9.st m10.st) ?_
  have hA10 := (N10.lay.get (i := 0) rfl).1
  wtm_at "xs"
  refine ⟨a, z, tg10, _, rfl, ⟨ca10, N10⟩, fun H11 tg11 p11 sv11 m11 ⟨ca11, N11⟩ h11 k11 => ?_⟩
  have zz10 : ∀ b o, (tg9 b).1 ≠ z → H9 b = some o → (tg10 b).1 ≠ z := fun b o hb h => by
    rcases m10.nw b with e | ⟨_, e | e⟩
    · rw [e]; exact hb
    · exact absurd e hb
    · rw [e] at h; cases h
  have hpq10 := m10.un _ _ (zz _ zpq) g2
  have hpv10 := m10.un _ _ (by rw [zpv]; omega) g3
  wtm_at "xs"
  refine Xk.x_eqPkL (Xk.sq_of h11) (Xk.sq_of (m11.un _ _ (zz10 _ _ (zz _ zpq) g2) hpq10)) k11 ((ktv9.st m10.st).st m11.st) ?_
  have hA11 := (N11.lay.get (i := 0) rfl).1
  wtm_at "xs"
  refine ⟨a, z, tg11, _, rfl, ⟨ca11, N11⟩, ?_, fun H12 tg12 p12 sv12 m12 ⟨ca12, N12⟩ h12 k12 => ?_⟩
  · refine ⟨wf.row, wf.frm, ?_, ?_, wf.lin, wf.unt, wf.wai, wf.sz, wf.ix, wf.see, wf.prm⟩
    · show (if said n then [] else n.out).length ≤ 80000
      split
      · exact Nat.zero_le _
      · exact wf.out
    · show (if said n then [] else n.ltr).length ≤ 8000
      split
      · exact Nat.zero_le _
      · exact wf.ltr
  have zz11 : ∀ b o, (tg10 b).1 ≠ z → H10 b = some o → (tg11 b).1 ≠ z := fun b o hb h => by
    rcases m11.nw b with e | ⟨_, e | e⟩
    · rw [e]; exact hb
    · exact absurd e hb
    · rw [e] at h; cases h
  have hpv11 := m11.un _ _ (zz10 _ _ (by rw [zpv]; omega) g3) hpv10
  have hpv12 := m12.un _ _ (zz11 _ _ (zz10 _ _ (by rw [zpv]; omega) g3) hpv10) hpv11
  wtm_at "xs"
  have env : ∀ n2 : Nd, n2.unt = [] → newV n2 = [] := fun n2 e => by unfold newV; rw [e]; rfl
  have e12 : sv12 = [] := by
    refine List.eq_nil_of_length_eq_zero (k12.len.trans ?_)
    exact congrArg List.length (env _ hunt)
  rw [e12] at h12
  refine Xk.x_eqPkL (n := 0) (m := 0) (ds := []) (Xk.sq_of h12) (Xk.sq_of hpv12) Xk.pk_nil Xk.pk_nil ?_
  have mz := (m10.trans m11).trans m12
  refine q H12 tg12 ((((Sv.same s12).trans (Sv.mv m3 (by omega))).trans (Sv.mv m9 (by omega))).trans (Sv.mv mz (by omega))) ⟨ca12, N12.lay, N12.pay, ?_⟩ ⟨_, M9.mv mz (Ne.symm hzy)⟩
  have eun : ∀ n2 : Nd, n2.unt = [] → oldV n2 = [] := fun n2 e => by unfold oldV; rw [e]; rfl
  have v := N12.vl
  have hu : ca12.uv = [] := by
    refine List.eq_nil_of_length_eq_zero (v.unt.len.trans ?_)
    exact congrArg (fun l => (List.map dV l).length) (eun _ hunt)
  have vu : Xk.PkAll K H12 41 ca12.uv (n.unt.map dV) := by
    rw [hu, hunt]
    exact Xk.pk_nil
  exact { v with unt := vu }
--CUT--
local macro_rules | `(tactic| wtm_at "key") => `(tactic| (first | assumption | (with_reducible exact get_index _ _) | (with_reducible exact get_size _ _) | (with_reducible exact get_first _ _) | (with_reducible exact get_lazy _ _) | (with_reducible exact get_state _ _) | (with_reducible exact put_state _ _ _) | (with_reducible exact get_row _ _) | (with_reducible exact put_row _ _ _) | (with_reducible exact get_promised _ _) | (with_reducible exact put_promised _ _ _) | (with_reducible exact get_accepted _ _) | (with_reducible exact put_accepted _ _ _) | (with_reducible exact get_frames _ _) | (with_reducible exact put_frames _ _ _) | (with_reducible exact get_safe _ _) | (with_reducible exact put_safe _ _ _) | (with_reducible exact get_told _ _) | (with_reducible exact put_told _ _ _) | (with_reducible exact get_lost _ _) | (with_reducible exact put_lost _ _ _) | (with_reducible exact get_waiting _ _) | (with_reducible exact put_waiting _ _ _) | (with_reducible exact get_wanted _ _) | (with_reducible exact put_wanted _ _ _) | (with_reducible exact get_attempt _ _) | (with_reducible exact put_attempt _ _) | (with_reducible exact get_patience _ _) | (with_reducible exact put_patience _ _ _) | (with_reducible exact get_guest _ _) | (with_reducible exact put_guest _ _ _) | (with_reducible exact get_seen _ _) | (with_reducible exact put_seen _ _ _) | (with_reducible exact get_out _ _) | (with_reducible exact put_out _ _ _) | (with_reducible exact get_letters _ _) | (with_reducible exact put_letters _ _ _) | (with_reducible exact get_lines _ _) | (with_reducible exact put_lines _ _ _) | fail "key"))
structure Iv (k : Nat) (n : Nd) : Prop where
  row : n.row = []
  lin : n.lin = []
  ltr : n.ltr = []
  unt : n.unt = []
  los : n.los = []
  lzy : n.lzy = false
  frm : n.frm.length ≤ k
  pro : ∀ u ∈ n.frm, Gd (dU u) ∧ (dU u).depth ≤ 40 ∧ voteD u = none
  out : n.out.length ≤ 200 * k
  wai : n.wai.length ≤ 16
  sz : 1 ≤ n.sz ∧ n.sz ≤ 7
  ix : 0 ≤ n.ix ∧ n.ix ≤ 6
  see : n.see = 0
  prm : 0 ≤ n.prm.1 ∧ n.prm.1 ≤ (k : Int) ∧ 0 ≤ n.prm.2 ∧ n.prm.2 ≤ 6
  stg : StOk n.att
theorem Iv.wf {k : Nat} {n : Nd} (h : Iv k n) (hk : k ≤ 100) : Wf n := by
  refine ⟨?_, ?_, ?_, ?_, ?_, ?_, h.wai, ?_, ?_, ?_, ?_⟩
  · rw [h.row]; exact Nat.zero_le _
  · have := h.frm; omega
  · have := h.out; omega
  · rw [h.ltr]; exact Nat.zero_le _
  · rw [h.lin]; exact Nat.zero_le _
  · rw [h.unt]; exact Nat.zero_le _
  · have := h.sz; omega
  · have := h.ix; omega
  · rw [h.see]; decide
  · have := h.prm; omega
theorem Iv.up {k : Nat} {n : Nd} (h : Iv k n) : Iv (k + 1) n := { h with frm := Nat.le_succ_of_le h.frm, out := Nat.le_trans h.out (by omega), prm := ⟨h.prm.1, by have := h.prm.2.1; omega, h.prm.2.2⟩ }
theorem dep_pro (s : Int) (b : Bl) : (dU (.pro s b)).depth ≤ 40 := by
  show PyData.depthAll [.str "promise", .int s, dB b] + 1 ≤ 40
  have := dep_cons (k := 1) (d := .str "promise") (Nat.zero_le _) (dep_cons (k := 1) (d := .int s) (Nat.zero_le _) (dep_cons (k := 1) (dep_B b) dep_nil))
  omega
theorem Iv.begun {k : Nat} {n : Nd} (h : Iv k n) (hk : k ≤ 9000) : Iv (k + 1) (begun n) := by
  have hs : slot n = 1 := by unfold slot; rw [h.row]; rfl
  have ht : top n = n.prm.1 := by unfold top; rw [h.see]; have := h.prm.1; omega
  have p := h.prm
  have x := h.ix
  have hg := gd_pro (s := slot n) (b := (top n + 1, n.ix)) (by rw [hs]; decide) ⟨by show -1000000000 ≤ top n + 1; omega, by show top n + 1 ≤ 1000000000; omega, by show -1000000000 ≤ n.ix; omega, by show n.ix ≤ 1000000000; omega⟩
  refine { h with frm := ?_, pro := ?_, out := ?_, prm := ?_, stg := ?_ }
  · show (n.frm ++ [_]).length ≤ k + 1
    rw [List.length_append, List.length_singleton]
    have := h.frm
    omega
  · intro u hu
    rcases List.mem_append.mp hu with hu | hu
    · exact h.pro u hu
    · obtain rfl := List.mem_singleton.mp hu
      exact ⟨hg.1, dep_pro _ _, rfl⟩
  · show (n.out ++ (alls n).map fun i => dM i _).length ≤ 200 * (k + 1)
    rw [List.length_append, List.length_map, alls_len]
    have := h.out
    have := h.sz
    omega
  · exact ⟨by show 0 ≤ top n + 1; omega, by show top n + 1 ≤ ((k + 1 : Nat) : Int); omega, x.1, x.2⟩
  · intro a e
    have e2 : some (⟨(top n + 1, n.ix), entry n, mbs n, "asking", [], [], none⟩ : Att) = some a := e
    cases e2
    show PyData.canLay0 (.str "asking") = true
    decide +kernel
theorem Iv.begin_ {k : Nat} {n : Nd} (h : Iv k n) (hk : k ≤ 9000) : Iv (k + 1) (begin_ n) := by
  unfold K40.begin_
  split
  · exact h.up
  · exact h.begun hk
theorem Iv.free {k : Nat} {n : Nd} (h : Iv k n) (hk : k ≤ 9000) : Iv (k + 1) (free n) := by
  unfold K40.free
  split
  · exact h.begin_ hk
  · exact h.up
theorem Iv.offerL {k : Nat} {n : Nd} {d : PyData} (h : Iv k n) (hk : k ≤ 9000) : Iv (k + 1) (offerL n d) := by
  unfold K40.offerL
  split
  · exact h.up
  · rename_i e
    refine Iv.free { h with wai := ?_ } hk
    show (n.wai ++ [d]).length ≤ 16
    rw [List.length_append, List.length_singleton]
    have : ¬ n.wai.length ≥ 16 := fun z => e (by unfold refu; rw [decide_eq_true z, Bool.or_true])
    omega
theorem Iv.offerM {k : Nat} {n : Nd} {ms : List Int} (h : Iv k n) (hk : k ≤ 9000) : Iv (k + 1) (offerM n ms) := by
  unfold K40.offerM
  split
  · exact h.up
  · exact Iv.free { h with } hk
theorem Iv.tickL {k : Nat} {n : Nd} (h : Iv k n) (hk : k ≤ 9000) : Iv (k + 1) (tickL n) := by
  unfold K40.tickL
  dsimp only
  split
  · split
    · exact Iv.begun { h with } hk
    · refine { (h.up) with out := ?_ }
      show (n.out ++ (oths n).map fun i => dM i _).length ≤ 200 * (k + 1)
      rw [List.length_append, List.length_map]
      have l1 := List.length_filter_le (fun i => decide (i ≠ n.ix)) (alls n)
      rw [alls_len] at l1
      have l2 : (oths n).length ≤ n.sz.toNat := l1
      have := h.out
      have := h.sz
      omega
  · exact { (h.up) with }
theorem Iv.endS {k : Nat} {n : Nd} (h : Iv k n) : Iv k (endS n) := by
  unfold K40.endS
  split
  · exact h
  · exact { h with }
theorem nd0_iv {ix sz : Int} {fs : List Int} (h1 : 1 ≤ sz ∧ sz ≤ 7) (h2 : 0 ≤ ix ∧ ix ≤ 6) : Iv 0 (nd0 ix sz fs false) :=
  ⟨rfl, rfl, rfl, rfl, rfl, rfl, Nat.le_refl _, (fun u hu => absurd hu List.not_mem_nil), Nat.le_refl _, Nat.zero_le _, h1, h2, rfl, (by show (0 : Int) ≤ 0 ∧ (0 : Int) ≤ ((0 : Nat) : Int) ∧ (0 : Int) ≤ 0 ∧ (0 : Int) ≤ 6; omega), (fun a e => by cases e)⟩
def sp__law_some_members (K : PySem.W.Frag) : Sp := fun vs H Q _ => ∃ (bx : Addr) (sz z : Int), vs = [.ref bx, .int sz] ∧ H bx = some (.lst [.int z]) ∧ 1 ≤ sz ∧ sz ≤ 7 ∧
  ∀ (H' : Hp) (p : Addr) (ms : List Int) (z' : Int), Xk.But bx H H' → Xk.Fr p H → H' bx = some (.lst [.int z']) → H' p = some (.tup (ms.map V.int)) → Q (.ref p) H'
theorem ok__law_some_members (T : Txt K mg) : FnOk P w K mg base CX0 2 T.f__law_some_members T.d__law_some_members ["box", "size"] (sp__law_some_members K) := by
  refine T.F__law_some_members.ok sc__law_some_members (fun vs H Q E h => ?_) (fun cdv A outer s H vs Q E hr h => ?_)
  · obtain ⟨bx, sz, z, rfl, _⟩ := h
    rfl
  obtain ⟨bx, sz, z, rfl, hb, h1, h2, q⟩ := h
  refine ⟨_, (pss_cons (ps_set (i := 2) sc__law_some_members.nd rfl (Or.inl rfl) (pe_slice (Xk.k_slL (K := K) (by rfl)) (pe_lc (own := [("index", 3)]) (g := gName 3) rfl sc__law_some_members.nd  (pi_range1 (by rfl) T.m_range (pa_cons (pv 1) pa_nil)) (blkOk_by (N := N__law_some_members) (sc := defScope s__law_some_members) (own := [("index", 3)]) (by decide +kernel)) (fun _ _ _ _ _ => pg_name (i := 3) sc__law_some_members.nd rfl (Or.inl rfl)) (fun _ _ _ _ _ => pts_one (pt_cmpR op_eq (pe_call (ok__law_take T) (hr.mono (by decide)) (by rfl) T.g__law_take T.F__law_take.kp T.b__law_take .nil pass0 (pa_cons (pv 0) (pa_cons (pe_int) pa_nil))) (pe_int) (nomark _))) (fun _ _ _ _ _ => (pv 3))) po_none (po_some (pe_int))))
      (Evl.pss_cut (ps_if (pt_cmpR op_eq (pe_callB (Xk.k_len (K := K) (by rfl)) (by rfl) T.m_len PySem.boot_len (pa_cons (pv 2) pa_nil)) (pe_int) (nomark _)) (pss_one (ps_set (i := 2) sc__law_some_members.nd rfl (Or.inl rfl) (pe_lst (pa_cons (pe_call (ok__law_take T) (hr.mono (by decide)) (by rfl) T.g__law_take T.F__law_take.kp T.b__law_take .nil pass0 (pa_cons (pv 0) (pa_cons (pv 1) pa_nil))) pa_nil)))) pss_nil)
      (pss_one (ps_ret (pe_callTy (Xk.k_tuple (K := K) (by rfl)) (by rfl) T.m_tuple (by decide +kernel) (pa_cons (pv 2) pa_nil)))))), ?_⟩
  wtm_at "x0"
  wtm_at "xs"
  refine Xk.x_lcR (fun Dl i H' => Xk.But bx H H' ∧ Dl ≠ bx ∧ ∃ (ms : List Int) (z' : Int), H' Dl = some (.lst (ms.map V.int)) ∧ ms.length ≤ i ∧ H' bx = some (.lst [.int z'])) (by omega) (fun Dl hD => ⟨Xk.but_new (Xk.But.refl _ _) hD, (Xk.ne_new hD hb).symm, [], z, upd_same, Nat.le_refl _, (upd_ne (Xk.ne_new hD hb)).trans hb⟩) ?_ ?_
  · rintro Dl hD i H' hi ⟨b1, nD, ms, z', hl, hm, hbx⟩
    refine Xk.x_wiped rfl ?_
    refine Xk.x_test ?_
    wtm_at "xs"
    refine draw hbx (by decide) fun j m1 H1 hj b2 h3 => ?_
    have hl1 := b2 _ _ nD hl
    wtm_at "xs"
    refine Xk.x_itd (fun hk => ?_) (fun hk => ?_)
    · wtm_at "xs"
      refine ⟨_, hl1, Xk.size_lt (by rw [List.length_map]; omega), ?_, nD, ms ++ [(i : Int)], m1, ?_, by rw [List.length_append, List.length_singleton]; omega, (upd_ne (Ne.symm nD)).trans h3⟩
      · intro b o n g
        have nb : b ≠ Dl := Xk.ne_new hD g
        exact (upd_ne nb).trans (b2 _ _ n (b1 _ _ n g))
      · rw [List.map_append]
        exact upd_same
    · exact ⟨Xk.but_trans b1 b2, nD, ms, m1, hl1, by omega, h3⟩
  rintro Dl H1 hD ⟨b1, nD, ms, z', hl, hm, hbx⟩
  wtm_at "xs"
  intro p2 H2 f2 s2 k2
  rw [Xk.cut_take (k := 5) (n := 5) rfl, ← List.map_take] at k2
  have hbx2 := s2 _ _ hbx
  refine Xk.x_cut (fun σ' H' => ∃ (p : Addr) (ms : List Int) (z' : Int), σ' = [some (.ref bx), some (.int sz), some (.ref p), none] ∧ Xk.But bx H H' ∧ H' p = some (.lst (ms.map V.int)) ∧ H' bx = some (.lst [.int z']) ∧ ms.length ≤ 10) ?_ ?_
  · by_cases h0 : (ms.take 5).length = 0
    · have hv : V.int (((ms.take 5).map V.int).length : Int) = V.int 0 := by rw [List.length_map, h0]; rfl
      wtm_at "xs"
      refine draw hbx2 (by omega) fun j m1 H3 hj b3 h3 => ?_
      wtm_at "xs"
      intro p3 H4 f4 s4 h4
      exact ⟨p3, [(j : Int)], m1, rfl, Xk.but_trans (Xk.but_trans (Xk.but_trans b1 (Xk.but_same s2)) b3) (Xk.but_same s4), h4, s4 _ _ h3, Nat.le_of_ble_eq_true rfl⟩
    · have hv : ¬ (V.int (((ms.take 5).map V.int).length : Int) = V.int 0) := fun e => by
        injection e with e
        rw [List.length_map] at e
        omega
      wtm_at "xs"
      exact ⟨p2, ms.take 5, z', rfl, Xk.but_trans b1 (Xk.but_same s2), k2, hbx2, by rw [List.length_take]; omega⟩
  rintro σ' H3 ⟨p3, ms3, z3, rfl, b3, k3, hbx3, l3⟩
  wtm_at "xs"
  intro p4 H4 f4 s4 k4
  exact q H4 p4 ms3 z3 (Xk.but_trans b3 (Xk.but_same s4)) (Xk.none_but hb b3 hbx3 f4) (s4 _ _ hbx3) k4
--CUT--
def tg0 : Xk.TgF := fun _ => (0, 0)
def sp__law_start (K : PySem.W.Frag) (C : Cs) : Sp := fun vs H Q _ => ∃ (a : Addr) (ns : List Int), vs = [.ref a, .bl false] ∧ SqL K H a (ns.map V.int) ∧ ns.length ≤ 63 ∧
  ∀ (H' : Hp) (tg' : Xk.TgF) (p nd m bx : Addr) (n : Nd), Sv K tg0 tg' H H' → NdA K C 1 tg' H' nd n → MdA K 2 tg' H' m n → Iv 0 n → n.saf = n.frm.length → H' p = some (.lst [.ref nd, .ref m, .ref bx]) → Q (.ref p) H'
theorem ok__law_start (T : Txt K mg) : FnOk P w K mg base CX0 7 T.f__law_start T.d__law_start ["script", "lazy"] (sp__law_start K (csOf T)) := by
  refine T.F__law_start.ok sc__law_start (fun vs H Q E h => ?_) (fun cdv A outer s H vs Q E hr h => ?_)
  · obtain ⟨a, ns, rfl, _⟩ := h
    rfl
  obtain ⟨a, ns, rfl, hS, hl, q⟩ := h
  refine ⟨_, (pss_cons (ps_set (i := 2) sc__law_start.nd rfl (Or.inl rfl) (pe_lst (pa_cons (pe_call (ok__law_row T) (hr.mono (by decide)) (by rfl) T.g__law_row T.F__law_row.kp T.b__law_row .nil pass0 (pa_cons (pv 0) (pa_cons (pe_int) pa_nil))) pa_nil)))
      (pss_cons (ps_set (i := 3) sc__law_start.nd rfl (Or.inl rfl) (pe_op op_add (pe_int) (pe_call (ok__law_take T) (hr.mono (by decide)) (by rfl) T.g__law_take T.F__law_take.kp T.b__law_take .nil pass0 (pa_cons (pv 2) (pa_cons (pe_int) pa_nil)))))
      (pss_cons (ps_set (i := 4) sc__law_start.nd rfl (Or.inl rfl) (pe_call (ok__law_take T) (hr.mono (by decide)) (by rfl) T.g__law_take T.F__law_take.kp T.b__law_take .nil pass0 (pa_cons (pv 2) (pa_cons (pv 3) pa_nil))))
      (pss_cons (ps_set (i := 5) sc__law_start.nd rfl (Or.inl rfl) (pe_call (ok__law_some_members T) (hr.mono (by decide)) (by rfl) T.g__law_some_members T.F__law_some_members.kp T.b__law_some_members .nil pass0 (pa_cons (pv 2) (pa_cons (pv 3) pa_nil))))
      (pss_one (ps_ret (pe_lst (pa_cons (pe_make T.Mk_Node (ok_Node___init__ T) (hr.mono (by decide)) (by rfl) T.g_Node T.b_Node___init__ .nil pass0 (pa_cons (pv 4) (pa_cons (pv 3) (pa_cons (pv 5) (pa_cons (pe_glob (by rfl) T.g__law_make Xk.rel_ref) (pa_cons (pv 1) pa_nil)))))) (pa_cons (pe_call (ok__law_new T) (hr.mono (by decide)) (by rfl) T.g__law_new T.F__law_new.kp T.b__law_new .nil pass0 (pa_cons (pv 4) (pa_cons (pv 3) (pa_cons (pv 5) (pa_cons (pv 1) pa_nil))))) (pa_cons (pv 2) pa_nil)))))))))), ?_⟩
  wtm_at "x0"
  wtm_at "xs"
  refine ⟨a, 0, ns, rfl, hS, hl, by omega, by omega, fun n0 hn0 => ?_⟩
  wtm_at "xs"
  intro bx H1 fb s1 h1
  wtm_at "xs"
  refine draw h1 (by decide) fun j1 m1 H2 hj1 b2 h2 => ?_
  wtm_at "xs"
  refine draw h2 (by omega) fun j2 m2 H3 hj2 b3 h3 => ?_
  wtm_at "xs"
  refine ⟨bx, 1 + j1, m2, rfl, h3, by omega, by omega, fun H4 p4 ms z4 b4 f4 hbx4 h4 => ?_⟩
  have s4 : Same H H4 := Xk.same_but (Xk.but_trans (Xk.but_trans b2 b3) b4) fb s1
  have pm : Xk.Pk K H4 1 (.ref p4) (dI ms) := pk_ofI (Xk.st_of h4)
  wtm_at "xs"
  refine Xk.x_rMake fun x dx H5 fx fdx ndx s5 ho5 hi5 => ?_
  have L5 : Xk.Lay 1 (Xk.tgU tg0 x 1 1) H5 [(x, .ins T.C_Node dx [], 1)] := (Xk.Lay.nil (z := 1) (tg := tg0)).addR (fun h => by cases h) hi5
  have m5 : Xk.Mv 1 K tg0 (Xk.tgU tg0 x 1 1) H4 H5 := Xk.Mv.new s5 fx hi5
  refine ⟨x, dx, j2, 1 + j1, .ref p4, false, 1, _, ms, rfl, L5, pm.same s5, fun H6 tg6 m6 hn6 => ⟨rfl, ?_⟩⟩
  wtm_at "xs"
  refine ⟨j2, 1 + j1, .ref p4, false, 2, tg6, ms, rfl, (pm.st m5.st).st m6.st, fun H7 tg7 m m7 hm7 => ?_⟩
  wtm_at "xs"
  intro p8 H8 f8 s8 h8
  obtain ⟨c6, N6⟩ := hn6
  obtain ⟨c7, N7⟩ := hm7
  exact q H8 tg7 p8 x m bx _ (((Sv.same s4).trans (Sv.mv (m5.trans m6) (by decide))).trans ((Sv.mv m7 (by decide)).trans (Sv.same s8))) ⟨c6, (N6.mv m7 (by decide)).same s8⟩ ⟨c7, N7.same s8⟩ (nd0_iv (by omega) (by omega)) rfl h8
--CUT--
local macro_rules | `(tactic| wtm_at "key") => `(tactic| (first | assumption | (with_reducible exact get_index _ _) | (with_reducible exact get_size _ _) | (with_reducible exact get_first _ _) | (with_reducible exact get_lazy _ _) | (with_reducible exact get_state _ _) | (with_reducible exact put_state _ _ _) | (with_reducible exact get_row _ _) | (with_reducible exact put_row _ _ _) | (with_reducible exact get_promised _ _) | (with_reducible exact put_promised _ _ _) | (with_reducible exact get_accepted _ _) | (with_reducible exact put_accepted _ _ _) | (with_reducible exact get_frames _ _) | (with_reducible exact put_frames _ _ _) | (with_reducible exact get_safe _ _) | (with_reducible exact put_safe _ _ _) | (with_reducible exact get_told _ _) | (with_reducible exact put_told _ _ _) | (with_reducible exact get_lost _ _) | (with_reducible exact put_lost _ _ _) | (with_reducible exact get_waiting _ _) | (with_reducible exact put_waiting _ _ _) | (with_reducible exact get_wanted _ _) | (with_reducible exact put_wanted _ _ _) | (with_reducible exact get_attempt _ _) | (with_reducible exact put_attempt _ _) | (with_reducible exact get_patience _ _) | (with_reducible exact put_patience _ _ _) | (with_reducible exact get_guest _ _) | (with_reducible exact put_guest _ _ _) | (with_reducible exact get_seen _ _) | (with_reducible exact put_seen _ _ _) | (with_reducible exact get_out _ _) | (with_reducible exact put_out _ _ _) | (with_reducible exact get_letters _ _) | (with_reducible exact put_letters _ _ _) | (with_reducible exact get_lines _ _) | (with_reducible exact put_lines _ _ _) | fail "key"))
theorem NdAt.butB {C : Cs} {z : Nat} {tg : Xk.TgF} {H H' : Hp} {a bx : Addr} {c : Nc} {n : Nd} {xs : List V} (h : NdAt K C z tg H a c n) (b : Xk.But bx H H') (hb : H bx = some (.lst xs)) (t : (tg bx).1 = 0) (hz : z ≠ 0) : NdAt K C z tg H' a c n :=
  ⟨h.lay.but b hz t, h.pay.of fun p o tp hp => ⟨b _ _ (fun e => hz (by rw [← t, ← e, tp.is])) hp, tp⟩, h.vl.st (Xk.tt_butL hb b)⟩
theorem MdAt.butB {z : Nat} {tg : Xk.TgF} {H H' : Hp} {m bx : Addr} {c : Mc} {n : Nd} {xs : List V} (h : MdAt K z tg H m c n) (b : Xk.But bx H H') (hb : H bx = some (.lst xs)) (t : (tg bx).1 = 0) (hz : z ≠ 0) : MdAt K z tg H' m c n :=
  ⟨h.lay.but b hz t, h.vl.st (Xk.tt_butL hb b)⟩
theorem occ_but {tg : Xk.TgF} {H H' : Hp} {bx : Addr} (h : Xk.Occ tg H) (b : Xk.But bx H H') (t : (tg bx).1 = 0) : Xk.Occ tg H' := fun x hx => by
  obtain ⟨o, ho⟩ := h x hx
  exact ⟨o, b _ _ (fun e => hx (by rw [e]; exact t)) ho⟩
/-- nobody's places stay but the box -/
structure Sb (K : PySem.W.Frag) (bx : Addr) (tg tg' : Xk.TgF) (H H' : Hp) : Prop where
  un : ∀ b o, b ≠ bx → (tg b).1 = 0 → H b = some o → H' b = some o ∧ (tg' b).1 = 0
  oc : Xk.Occ tg' H'
theorem Sb.of {bx : Addr} {tg tg' : Xk.TgF} {H H1 H' : Hp} (b : Xk.But bx H H1) (v : Sv K tg tg' H1 H') (oc : Xk.Occ tg H1) : Sb K bx tg tg' H H' := ⟨fun x o n t h => v.un x o t (b _ _ n h), v.oc oc⟩
theorem endS_eq {n : Nd} (h : n.saf = n.frm.length) : endS n = n := by
  unfold endS
  split
  · rfl
  · rw [← h]
def Ans (x y : V) : Prop := (∃ b : Bool, x = .bl b ∧ y = .bl b) ∨ (x = .non ∧ y = .non)
def sp__law_deed (K : PySem.W.Frag) (C : Cs) : Sp := fun vs H Q _ => ∃ (a m bx : Addr) (z0 : Int) (tg : Xk.TgF) (n : Nd) (k : Nat), vs = [.ref a, .ref m, .ref bx] ∧ NdA K C 1 tg H a n ∧ MdA K 2 tg H m n ∧ Xk.Occ tg H ∧ (tg bx).1 = 0 ∧ H bx = some (.lst [.int z0]) ∧ Iv k n ∧ k ≤ 90 ∧ n.saf = n.frm.length ∧
  ∀ (H' : Hp) (tg' : Xk.TgF) (p : Addr) (x y : V) (n' : Nd), Sb K bx tg tg' H H' → NdA K C 1 tg' H' a (endS n') → MdA K 2 tg' H' m n' → Iv (k + 1) n' → H' p = some (.lst [x, y]) → Ans x y → Q (.ref p) H'
theorem ok__law_deed (T : Txt K mg) : FnOk P w K mg base CX0 53 T.f__law_deed T.d__law_deed ["node", "m", "box"] (sp__law_deed K (csOf T)) := by
  refine T.F__law_deed.ok sc__law_deed (fun vs H Q E h => ?_) (fun cdv A outer s H vs Q E hr h => ?_)
  · obtain ⟨a, m, bx, z0, tg, n, k, rfl, _⟩ := h
    rfl
  obtain ⟨a, m, bx, z0, tg, n, k, rfl, ⟨ca, hN⟩, ⟨cm, hM⟩, hoc, tb, hb, iv, hk, hsf, q⟩ := h
  have cl_Node := T.Cls_Node
  have at_Node_index := T.A_Node_index
  have at_Node_size := T.A_Node_size
  have at_Node_first_members := T.A_Node_first_members
  have at_Node_lazy := T.A_Node_lazy
  have at_Node_state := T.A_Node_state
  have at_Node_journal := T.A_Node_journal
  have at_Node_record := T.A_Node_record
  have at_Node__make_machine := T.A_Node__make_machine
  have at_Node__untold := T.A_Node__untold
  have at_Node_waiting := T.A_Node_waiting
  have at_Node_wanted := T.A_Node_wanted
  have at_Node_attempt := T.A_Node_attempt
  have at_Node_patience := T.A_Node_patience
  have at_Node_guest := T.A_Node_guest
  have at_Node_seen := T.A_Node_seen
  have at_Node_machine := T.A_Node_machine
  have at_Node__sends := T.A_Node__sends
  have at_Node__letters := T.A_Node__letters
  have wf := iv.wf (by omega)
  have hf : n.frm.length ≤ 7999 := by have := iv.frm; omega
  refine ⟨_, (pss_cons (ps_set (i := 3) sc__law_deed.nd rfl (Or.inl rfl) (pe_call (ok__law_take T) (hr.mono (by decide)) (by rfl) T.g__law_take T.F__law_take.kp T.b__law_take .nil pass0 (pa_cons (pv 2) (pa_cons (pe_int) pa_nil))))
      (Evl.pss_cut (ps_if (pt_cmpR op_lt (pv 3) (pe_int) (nomark _)) (pss_cons (ps_set (i := 4) sc__law_deed.nd rfl (Or.inl rfl) (pe_tup (pa_cons (pe_str) (pa_cons (pe_call (ok__law_take T) (hr.mono (by decide)) (by rfl) T.g__law_take T.F__law_take.kp T.b__law_take .nil pass0 (pa_cons (pv 2) (pa_cons (pe_int) pa_nil))) pa_nil))))
      (pss_one (ps_ret (pe_lst (pa_cons (pe_meth (pv 0) T.Cls_Node T.M_Node_offer (ok_Node_offer T) (hr.mono (by decide)) T.b_Node_offer .nil pass0 (pa_cons (pv 4) pa_nil)) (pa_cons (pe_call (ok__law_offer T) (hr.mono (by decide)) (by rfl) T.g__law_offer T.F__law_offer.kp T.b__law_offer .nil pass0 (pa_cons (pv 1) (pa_cons (pv 4) pa_nil))) pa_nil)))))) pss_nil)
      (Evl.pss_cut (ps_if (pt_cmpR op_eq (pv 3) (pe_int) (nomark _)) (pss_cons (ps_set (i := 5) sc__law_deed.nd rfl (Or.inl rfl) (pe_call (ok__law_some_members T) (hr.mono (by decide)) (by rfl) T.g__law_some_members T.F__law_some_members.kp T.b__law_some_members .nil pass0 (pa_cons (pv 2) (pa_cons (pe_dget (hu_of hr) (pv 1) (pe_str) (fun _ _ => rfl)) pa_nil))))
      (pss_one (ps_ret (pe_lst (pa_cons (pe_meth (pv 0) T.Cls_Node T.M_Node_offer_members (ok_Node_offer_members T) (hr.mono (by decide)) T.b_Node_offer_members .nil pass0 (pa_cons (pv 5) pa_nil)) (pa_cons (pe_call (ok__law_offer_members T) (hr.mono (by decide)) (by rfl) T.g__law_offer_members T.F__law_offer_members.kp T.b__law_offer_members .nil pass0 (pa_cons (pv 1) (pa_cons (pv 5) pa_nil))) pa_nil)))))) pss_nil)
      (pss_cons (ps_expr (pe_call (ok__law_tick T) (hr.mono (by decide)) (by rfl) T.g__law_tick T.F__law_tick.kp T.b__law_tick .nil pass0 (pa_cons (pv 1) pa_nil)))
      (pss_one (ps_ret (pe_lst (pa_cons (pe_meth0 (pv 0) T.Cls_Node T.M_Node_tick (ok_Node_tick T) (hr.mono (by decide)) T.b_Node_tick .nil pass0) (pa_cons (pe_non) pa_nil))))))))), ?_⟩
  wtm_at "x0"
  wtm_at "xs"
  refine draw hb (by decide) fun j1 m1 H1 hj1 b1 h1 => ?_
  have N1 := hN.butB b1 hb tb (by decide)
  have M1 := hM.butB b1 hb tb (by decide)
  have oc1 := occ_but hoc b1 tb
  clear hN hM
  wtm_at "xs"
  by_cases k3 : (j1 : Int) < 3
  · refine Xk.x_nocut ?_
    wtm_at "xs"
    refine draw h1 (by decide) fun j2 m2 H2 hj2 b2 h2 => ?_
    have N2 := N1.butB b2 h1 tb (by decide)
    have M2 := M1.butB b2 h1 tb (by decide)
    have oc2 := occ_but oc1 b2 tb
    have b12 := Xk.but_trans b1 b2
    wtm_at "xs"
    intro p3 H3 f3 s3 h3
    have pd : Xk.Pk K H3 36 (.ref p3) (.tuple [.str "w", .int j2]) := Xk.pk_tup2 (Xk.st_of h3) Xk.pk_str Xk.pk_int
    have N3 := N2.same s3
    have M3 := M2.same s3
    have oc3 := oc2.same s3
    have b13 := Xk.but_trans b12 (Xk.but_same s3)
    have hA3 := (N3.lay.get (i := 0) rfl).1
    wtm_at "xs"
    refine ⟨a, 1, tg, n, .ref p3, .tuple [.str "w", .int j2], rfl, ⟨ca, N3⟩, wf, hf, pd, fun hr1 => ?_, fun hr1 H4 tg4 m4 hn4 => ?_⟩
    · wtm_at "xs"
      refine ⟨m, 2, tg, n, .ref p3, .tuple [.str "w", .int j2], rfl, by decide, oc3, ⟨cm, M3⟩, wf, hf, pd, fun hr2 => ?_, fun hr2 => by rw [hr1] at hr2; cases hr2⟩
      wtm_at "xs"
      intro p4 H4 f4 s4 h4
      exact q H4 tg p4 _ _ n (Sb.of b13 (Sv.same s4) oc3) (by rw [endS_eq hsf]; exact ⟨ca, N3.same s4⟩) ⟨cm, M3.same s4⟩ iv.up h4 (.inl ⟨false, rfl, rfl⟩)
    · wtm_at "xs"
      have M4 := M3.mv m4 (by decide)
      refine ⟨m, 2, tg4, n, .ref p3, .tuple [.str "w", .int j2], rfl, by decide, m4.oc oc3, ⟨cm, M4⟩, wf, hf, pd.st m4.st, (fun hr2 => by rw [hr1] at hr2; cases hr2), fun hr2 H5 tg5 m5 hm5 => ?_⟩
      wtm_at "xs"
      intro p6 H6 f6 s6 h6
      obtain ⟨c4, N4⟩ := hn4
      obtain ⟨c5, M5⟩ := hm5
      exact q H6 tg5 p6 _ _ _ (Sb.of b13 (((Sv.mv m4 (by decide)).trans (Sv.mv m5 (by decide))).trans (Sv.same s6)) oc3) ⟨c4, (N4.mv m5 (by decide)).same s6⟩ ⟨c5, M5.same s6⟩ (iv.offerL (by omega)) h6 (.inl ⟨true, rfl, rfl⟩)
  refine fall ?_ ?_
  · wtm_at "xs"
    exact ⟨rfl, rfl⟩
  by_cases k4 : (j1 : Int) = 3
  · have kv : V.int (j1 : Int) = V.int 3 := by rw [k4]
    have hAm := (M1.lay.get (i := 0) rfl).1
    refine Xk.x_nocut ?_
    wtm_at "xs"
    refine ⟨bx, n.sz, m1, rfl, h1, iv.sz.1, iv.sz.2, fun H2 p2 ms z2 b2 f2 hbx2 h2 => ?_⟩
    have N2 := N1.butB b2 h1 tb (by decide)
    have M2 := M1.butB b2 h1 tb (by decide)
    have oc2 := occ_but oc1 b2 tb
    have b12 := Xk.but_trans b1 b2
    have pd : Xk.Pk K H2 1 (.ref p2) (dI ms) := pk_ofI (Xk.st_of h2)
    have hA2 := (N2.lay.get (i := 0) rfl).1
    wtm_at "xs"
    refine ⟨a, 1, tg, n, .ref p2, ms, rfl, ⟨ca, N2⟩, wf, hf, pd, fun hr1 => ?_, fun hr1 H4 tg4 m4 hn4 => ?_⟩
    · wtm_at "xs"
      refine ⟨m, 2, tg, n, .ref p2, ms, rfl, by decide, oc2, ⟨cm, M2⟩, wf, hf, pd, fun hr2 => ?_, fun hr2 => by rw [hr1] at hr2; cases hr2⟩
      wtm_at "xs"
      intro p4 H4 f4 s4 h4
      exact q H4 tg p4 _ _ n (Sb.of b12 (Sv.same s4) oc2) (by rw [endS_eq hsf]; exact ⟨ca, N2.same s4⟩) ⟨cm, M2.same s4⟩ iv.up h4 (.inl ⟨false, rfl, rfl⟩)
    · wtm_at "xs"
      have M4 := M2.mv m4 (by decide)
      refine ⟨m, 2, tg4, n, .ref p2, ms, rfl, by decide, m4.oc oc2, ⟨cm, M4⟩, wf, hf, pd.st m4.st, (fun hr2 => by rw [hr1] at hr2; cases hr2), fun hr2 H5 tg5 m5 hm5 => ?_⟩
      wtm_at "xs"
      intro p6 H6 f6 s6 h6
      obtain ⟨c4, N4⟩ := hn4
      obtain ⟨c5, M5⟩ := hm5
      exact q H6 tg5 p6 _ _ _ (Sb.of b12 (((Sv.mv m4 (by decide)).trans (Sv.mv m5 (by decide))).trans (Sv.same s6)) oc2) ⟨c4, (N4.mv m5 (by decide)).same s6⟩ ⟨c5, M5.same s6⟩ (iv.offerM (by omega)) h6 (.inl ⟨true, rfl, rfl⟩)
  have kv : ¬ (V.int (j1 : Int) = V.int 3) := fun e => k4 (by injection e)
  refine fall ?_ ?_
  · wtm_at "xs"
    exact ⟨rfl, rfl⟩
  wtm_at "xs"
  refine ⟨m, 2, tg, n, rfl, by decide, oc1, ⟨cm, M1⟩, wf, hf, fun H2 tg2 m2 hm2 => ?_⟩
  have N2 := N1.mv m2 (by decide)
  have hA2 := (N2.lay.get (i := 0) rfl).1
  wtm_at "xs"
  refine ⟨a, 1, tg2, n, rfl, ⟨ca, N2⟩, wf, hf, fun H3 tg3 m3 hn3 => ?_⟩
  wtm_at "xs"
  intro p4 H4 f4 s4 h4
  obtain ⟨c2, M2⟩ := hm2
  obtain ⟨c3, N3⟩ := hn3
  exact q H4 tg3 p4 _ _ _ (Sb.of b1 (((Sv.mv m2 (by decide)).trans (Sv.mv m3 (by decide))).trans (Sv.same s4)) oc1) ⟨c3, N3.same s4⟩ ⟨c2, (M2.mv m3 (by decide)).same s4⟩ (iv.tickL (by omega)) h4 (.inr ⟨rfl, rfl⟩)
--CUT--
local macro_rules | `(tactic| wtm_at "key") => `(tactic| (first | assumption | (with_reducible exact get_index _ _) | (with_reducible exact get_size _ _) | (with_reducible exact get_first _ _) | (with_reducible exact get_lazy _ _) | (with_reducible exact get_state _ _) | (with_reducible exact put_state _ _ _) | (with_reducible exact get_row _ _) | (with_reducible exact put_row _ _ _) | (with_reducible exact get_promised _ _) | (with_reducible exact put_promised _ _ _) | (with_reducible exact get_accepted _ _) | (with_reducible exact put_accepted _ _ _) | (with_reducible exact get_frames _ _) | (with_reducible exact put_frames _ _ _) | (with_reducible exact get_safe _ _) | (with_reducible exact put_safe _ _ _) | (with_reducible exact get_told _ _) | (with_reducible exact put_told _ _ _) | (with_reducible exact get_lost _ _) | (with_reducible exact put_lost _ _ _) | (with_reducible exact get_waiting _ _) | (with_reducible exact put_waiting _ _ _) | (with_reducible exact get_wanted _ _) | (with_reducible exact put_wanted _ _ _) | (with_reducible exact get_attempt _ _) | (with_reducible exact put_attempt _ _) | (with_reducible exact get_patience _ _) | (with_reducible exact put_patience _ _ _) | (with_reducible exact get_guest _ _) | (with_reducible exact put_guest _ _ _) | (with_reducible exact get_seen _ _) | (with_reducible exact put_seen _ _ _) | (with_reducible exact get_out _ _) | (with_reducible exact put_out _ _ _) | (with_reducible exact get_letters _ _) | (with_reducible exact put_letters _ _ _) | (with_reducible exact get_lines _ _) | (with_reducible exact put_lines _ _ _) | fail "key"))
theorem Iv.lft {k : Nat} {n : Nd} (h : Iv k n) (t : Nat) : Iv k { lftS n with tld := t } := by
  refine { h with ltr := ?_, out := ?_ }
  · show (if said n then [] else n.ltr) = []
    rw [h.ltr]
    split <;> rfl
  · show (if said n then [] else n.out).length ≤ 200 * k
    split
    · exact Nat.zero_le _
    · exact h.out
theorem endS_saf {n : Nd} (h : n.lzy = false) : (endS n).saf = (endS n).frm.length := by
  unfold endS
  rw [h]
  rfl
def Su (tg : Xk.TgF) (H H' : Hp) : Prop := ∀ b o, H b = some o → H' b = some o ∧ (tg b).1 = 0
theorem Su.sq {tg : Xk.TgF} {H H' : Hp} {a : Addr} {xs : List V} (v : Su tg H H') (h : SqL K H a xs) : SqL K H' a xs := by
  rcases h with (h | ⟨o, h⟩) | h
  · exact .inl (.inl (v a _ h).1)
  · exact .inl (.inr ⟨o, (v a _ h).1⟩)
  · exact .inr h
theorem Su.sv {tg tg' : Xk.TgF} {H H' H'' : Hp} (u : Su tg H H') (v : Sv K tg tg' H' H'') : Su tg' H H'' := fun b o h => v.un b o (u b o h).2 (u b o h).1
def sp_law (K : PySem.W.Frag) : Sp := fun vs H Q _ => ∃ (a : Addr) (ns : List Int), vs = [.ref a] ∧ SqL K H a (ns.map V.int) ∧ ns.length ≤ 63 ∧ ∀ H', Q (.bl true) H'
theorem ok_law (T : Txt K mg) : FnOk P w K mg base CX0 90 T.f_law T.d_law ["script"] (sp_law K) := by
  refine T.F_law.ok sc_law (fun vs H Q E h => ?_) (fun cdv A outer s H vs Q E hr h => ?_)
  · obtain ⟨a, ns, rfl, _⟩ := h
    rfl
  obtain ⟨a, ns, rfl, hS, hl, q⟩ := h
  have cl_Node := T.Cls_Node
  have at_Node_index := T.A_Node_index
  have at_Node_size := T.A_Node_size
  have at_Node_first_members := T.A_Node_first_members
  have at_Node_lazy := T.A_Node_lazy
  have at_Node_state := T.A_Node_state
  have at_Node_journal := T.A_Node_journal
  have at_Node_record := T.A_Node_record
  have at_Node__make_machine := T.A_Node__make_machine
  have at_Node__untold := T.A_Node__untold
  have at_Node_waiting := T.A_Node_waiting
  have at_Node_wanted := T.A_Node_wanted
  have at_Node_attempt := T.A_Node_attempt
  have at_Node_patience := T.A_Node_patience
  have at_Node_guest := T.A_Node_guest
  have at_Node_seen := T.A_Node_seen
  have at_Node_machine := T.A_Node_machine
  have at_Node__sends := T.A_Node__sends
  have at_Node__letters := T.A_Node__letters
  refine ⟨_, (pss_cons (ps_asg (pe_call (ok__law_start T) (hr.mono (by decide)) (by rfl) T.g__law_start T.F__law_start.kp T.b__law_start .nil pass0 (pa_cons (pv 0) (pa_cons (pe_bl) pa_nil))) (pg_lst rfl (pgs_cons (pg_name (i := 1) sc_law.nd rfl (Or.inl rfl)) (pgs_cons (pg_name (i := 2) sc_law.nd rfl (Or.inl rfl)) (pgs_cons (pg_name (i := 3) sc_law.nd rfl (Or.inl rfl)) pgs_nil)))))
      (Evl.pss_cut (ps_if (pt_not (pt_val (pe_call (ok__law_agrees T) (hr.mono (by decide)) (by rfl) T.g__law_agrees T.F__law_agrees.kp T.b__law_agrees .nil pass0 (pa_cons (pv 1) (pa_cons (pv 2) pa_nil))))) (pss_one (ps_ret (pe_bl))) pss_nil)
      (pss_cons (ps_for PassesOwn.never rfl (pi_range1 (by rfl) T.m_range (pa_cons (pe_int) pa_nil)) (pg_name (i := 4) sc_law.nd rfl (Or.inl rfl)) (pss_cons (ps_asg (pe_call (ok__law_deed T) (hr.mono (by decide)) (by rfl) T.g__law_deed T.F__law_deed.kp T.b__law_deed .nil pass0 (pa_cons (pv 1) (pa_cons (pv 2) (pa_cons (pe_lst (pa_cons (pe_call (ok__law_row T) (hr.mono (by decide)) (by rfl) T.g__law_row T.F__law_row.kp T.b__law_row .nil pass0 (pa_cons (pv 0) (pa_cons (pe_op op_add (pe_int) (pv 4)) pa_nil))) pa_nil)) pa_nil)))) (pg_lst rfl (pgs_cons (pg_name (i := 5) sc_law.nd rfl (Or.inl rfl)) (pgs_cons (pg_name (i := 6) sc_law.nd rfl (Or.inl rfl)) pgs_nil))))
      (pss_cons (ps_expr (pe_call (ok__law_end T) (hr.mono (by decide)) (by rfl) T.g__law_end T.F__law_end.kp T.b__law_end .nil pass0 (pa_cons (pv 2) pa_nil)))
      (Evl.pss_cut (ps_if (PW.pt (pw_or (pt_cmpR (Xk.k_neD (K := K) hr.units (by rfl)) (pv 5) (pv 6) (nomark _)) (pw_or1 (pt_cmpR op_ne (pe_callB (Xk.k_isi (K := K) (by rfl)) (by rfl) T.m_isinstance (by decide +kernel) (pa_cons (pv 5) (pa_cons (pe_bltn (v := .ty "int") (u := .type "int") (by rfl) T.m_int (by decide +kernel) Xk.rel_ty) pa_nil))) (pe_callB (Xk.k_isi (K := K) (by rfl)) (by rfl) T.m_isinstance (by decide +kernel) (pa_cons (pv 6) (pa_cons (pe_bltn (v := .ty "bool") (u := .type "bool") (by rfl) T.m_bool (by decide +kernel) Xk.rel_ty) pa_nil))) (nomark _))))) (pss_one (ps_ret (pe_bl))) pss_nil)
      (pss_one (ps_if (PW.pt (pw_or (pt_not (pt_val (pe_call (ok__law_agrees T) (hr.mono (by decide)) (by rfl) T.g__law_agrees T.F__law_agrees.kp T.b__law_agrees .nil pass0 (pa_cons (pv 1) (pa_cons (pv 2) pa_nil))))) (pw_or1 (pt_not (pt_val (pe_call (ok__law_said T) (hr.mono (by decide)) (by rfl) T.g__law_said T.F__law_said.kp T.b__law_said .nil pass0 (pa_cons (pv 1) (pa_cons (pv 2) pa_nil)))))))) (pss_one (ps_ret (pe_bl))) pss_nil))))))
      (pss_one (ps_ret (pe_cmpR (Xk.k_eqD (K := K) hr.units (by rfl)) (pe_lc (own := [("payload", 7)]) (g := gName 7) (tt := tYes) rfl sc_law.nd  (pi_list (pe_meth0 (Xk.k_fld (K := K) (by rfl) (pv 1) rfl) T.Cls_Journal T.M_Journal_payloads (ok_Journal_payloads T) (hr.mono (by decide)) T.b_Journal_payloads .nil pass0)) (blkOk_by (N := N_law) (sc := defScope s_law) (own := [("payload", 7)]) (by decide +kernel)) (fun _ _ _ _ _ => pg_name (i := 7) sc_law.nd rfl (Or.inl rfl)) (fun _ _ _ _ _ => pts_nil) (fun _ _ _ _ _ => (pe_call (ok_unpack T) (hr.mono (by decide)) (by rfl) T.g_unpack T.F_unpack.kp T.b_unpack .nil pass0 (pa_cons (pv 7) pa_nil)))) (pe_dget (hu_of hr) (pv 2) (pe_str) (fun _ _ => rfl)) (nomark _))))))), ?_⟩
  wtm_at "x0"
  wtm_at "xs"
  refine ⟨a, ns, rfl, hS, hl, fun H1 tg1 p1 nd m bx n1 v1 hN1 hM1 iv1 sf1 h1 => ?_⟩
  wtm_at "xs"
  refine Xk.x_cut (fun σ' H' => (∃ y4 y5 y6 y7, σ' = [some (.ref a), some (.ref nd), some (.ref m), some (.ref bx), y4, y5, y6, y7]) ∧ Same H1 H') ?_ ?_
  · wtm_at "xs"
    refine ⟨nd, m, 1, 2, tg1, n1, rfl, hN1, hM1, iv1.wf (by decide), iv1.stg, fun H2 s2 => ?_⟩
    wtm_at "xs"
    exact ⟨⟨_, _, _, _, rfl⟩, s2⟩
  rintro σ' H2 ⟨⟨y4, y5, y6, y7, rfl⟩, s2⟩
  have oc1 : Xk.Occ tg1 H1 := v1.oc fun b hb => absurd rfl hb
  wtm_at "xs"
  refine Xk.x_range (fun i σ' H' => ∃ (tg : Xk.TgF) (n : Nd), (∃ y4 y5 y6 y7, σ' = [some (.ref a), some (.ref nd), some (.ref m), some (.ref bx), y4, y5, y6, y7]) ∧ Su tg H H' ∧ Xk.Occ tg H' ∧ NdA K (csOf T) 1 tg H' nd n ∧ MdA K 2 tg H' m n ∧ Iv i n ∧ n.saf = n.frm.length) ⟨by decide, by decide⟩ ?_ ?_ ?_
  · obtain ⟨c1, N1⟩ := hN1
    obtain ⟨c2, M2⟩ := hM1
    exact ⟨tg1, n1, ⟨_, _, _, _, rfl⟩, (fun b o h => (v1.trans (Sv.same s2)).un b o rfl h), oc1.same s2, ⟨c1, N1.same s2⟩, ⟨c2, M2.same s2⟩, iv1, sf1⟩
  · rintro i σ' H3 hi ⟨tg, n, ⟨z4, z5, z6, z7, rfl⟩, v3, oc3, hN3, hM3, iv3, sf3⟩
    have hS3 := v3.sq hS
    wtm_at "xs"
    refine ⟨a, 1 + i, ns, rfl, hS3, hl, by omega, by omega, fun n0 hn0 => ?_⟩
    wtm_at "xs"
    intro b4 H4 f4 s4 h4
    obtain ⟨c3, N3⟩ := hN3
    obtain ⟨c3', M3⟩ := hM3
    wtm_at "xs"
    refine ⟨nd, m, b4, n0, tg, n, i, rfl, ⟨c3, N3.same s4⟩, ⟨c3', M3.same s4⟩, oc3.same s4, fresh0 oc3 f4, h4, iv3, by omega, sf3, fun H5 tg5 p5 x y n5 sb5 hN5 hM5 iv5 h5 an5 => ?_⟩
    have v5 : Su tg5 H H5 := fun b o h => sb5.un b o (Xk.ne_new f4 (v3 b o h).1) (v3 b o h).2 (s4 _ _ (v3 b o h).1)
    wtm_at "xs"
    refine ⟨m, 2, tg5, n5, rfl, hM5, fun H6 m6 hM6 => ?_⟩
    obtain ⟨c6, N6⟩ := hN5
    have N6' := N6.mv m6 (by decide)
    have iv6 := iv5.endS
    have sf6 := endS_saf iv5.lzy
    have v6 := v5.sv (Sv.mv m6 (by decide))
    have oc6 := m6.oc sb5.oc
    clear N6 hM5 h5
    generalize endS n5 = n6 at *
    refine fall ?_ ?_
    · rcases an5 with ⟨b, rfl, rfl⟩ | ⟨rfl, rfl⟩
      · wtm_at "xs"
        refine Xk.x_neSame (d := .bool b) (.bl b) (.bl b) rfl (Nat.zero_le _) ?_
        wtm_at "xs"
        exact ⟨rfl, rfl⟩
      · wtm_at "xs"
        refine Xk.x_neSame (d := .none) .non .non rfl (Nat.zero_le _) ?_
        wtm_at "xs"
        exact ⟨rfl, rfl⟩
    wtm_at "xs"
    refine ⟨nd, m, 1, 2, tg5, n6, rfl, ⟨c6, N6'⟩, hM6, iv6.wf (by omega), iv6.stg, fun H7 s7 => ?_⟩
    obtain ⟨c6', M6⟩ := hM6
    wtm_at "xs"
    refine ⟨nd, m, 1, 2, tg5, n6, rfl, ⟨c6, N6'.same s7⟩, ⟨c6', M6.same s7⟩, by decide, by decide, by decide, oc6.same s7, iv6.wf (by omega), iv6.los, iv6.unt, fun u hu => (iv6.pro u hu).2.2, fun H8 tg8 v8 hN8 hM8 => ?_⟩
    wtm_at "xs"
    exact ⟨tg8, _, ⟨_, _, _, _, rfl⟩, (v6.sv (Sv.same (K := K) s7)).sv v8, v8.oc (oc6.same s7), hN8, hM8, iv6.lft _, sf6⟩
  rintro σ' H3 ⟨tg, n, ⟨z4, z5, z6, z7, rfl⟩, v3, oc3, ⟨c, hN⟩, ⟨c2, hN2⟩, iv3, sf3⟩
  obtain ⟨hA, tA⟩ := hN.lay.get (i := 0) rfl
  obtain ⟨hJ, tJ⟩ := hN.lay.get (i := 1) rfl
  obtain ⟨hP, tP⟩ := hN.lay.get (i := 2) rfl
  obtain ⟨hS, tS⟩ := hN.lay.get (i := 3) rfl
  obtain ⟨hR, tR⟩ := hN.lay.get (i := 4) rfl
  obtain ⟨hW, tW⟩ := hN.lay.get (i := 5) rfl
  obtain ⟨hC, tC⟩ := hN.lay.get (i := 6) rfl
  obtain ⟨hU, tU⟩ := hN.lay.get (i := 7) rfl
  obtain ⟨hT, tT⟩ := hN.lay.get (i := 8) rfl
  obtain ⟨hM, tM⟩ := hN.lay.get (i := 9) rfl
  obtain ⟨hL, tL⟩ := hN.lay.get (i := 10) rfl
  obtain ⟨hO, tO⟩ := hN.lay.get (i := 11) rfl
  obtain ⟨hE, tE⟩ := hN.lay.get (i := 12) rfl
  have vl := hN.vl
  obtain ⟨hA2, tA2⟩ := hN2.lay.get (i := 0) rfl
  obtain ⟨hW2, tW2⟩ := hN2.lay.get (i := 1) rfl
  obtain ⟨hF2, tF2⟩ := hN2.lay.get (i := 2) rfl
  obtain ⟨hB2, tB2⟩ := hN2.lay.get (i := 3) rfl
  obtain ⟨hT2, tT2⟩ := hN2.lay.get (i := 4) rfl
  obtain ⟨hO2, tO2⟩ := hN2.lay.get (i := 5) rfl
  obtain ⟨hE2, tE2⟩ := hN2.lay.get (i := 6) rfl
  obtain ⟨hL2, tL2⟩ := hN2.lay.get (i := 7) rfl
  have vl2 := hN2.vl
  have lps : c.ps.length ≤ 9000 := by rw [hN.pay.len]; have := iv3.frm; omega
  dsimp only
  wtm_at "xs"
  refine ⟨c.j, c.dj, c.jp, c.js, _, c.ps, n.frm, 1, tg, rfl, hJ, hP, hN.pay, lps, fun H4 p4 qs s4 h4 lq hq => ?_⟩
  wtm_at "xs"
  refine Xk.x_lcL (fun Dl i H' => Same H4 H' ∧ Xk.Fr Dl H4 ∧ ∃ rs, H' Dl = some (.lst rs) ∧ Xk.PkAll K H' 41 rs ((n.frm.take i).map dU) ∧ rs.length = i) (Xk.sq_of h4) (fun Dl hD => ⟨Xk.same_fr hD, hD, [], upd_same, by rw [List.take_zero]; exact Xk.pk_nil, rfl⟩) (fun Dl i H' hD hh => Xk.sq_of (hh.1 _ _ h4)) ?_ ?_
  · rintro Dl hD i x H5 hi ⟨s5, hD2, rs, h5, k5, l5⟩
    obtain ⟨w1, hw, rfl⟩ := Xk.of_map_at hi
    obtain ⟨u, hu⟩ := Xk.lt_at (xs := n.frm) (j := i) (by rw [← lq]; exact Xk.at_lt hw)
    have hwu := s5 _ _ (hq i w1 u hw hu)
    have iu := iv3.pro u (List.mem_of_getElem? hu)
    refine Xk.x_wiped rfl ?_
    wtm_at "xs"
    refine ⟨w1, dU u, rfl, Xk.sq_of hwu, iu.1, iu.2.1, fun H6 v6 s6 k6 => ?_⟩
    have h6 := s6 _ _ h5
    refine ⟨rs, h6, Xk.size_lt (by have := Xk.at_lt hw; have := iv3.frm; rw [l5]; omega), Xk.same_mut (s5.trans s6) hD, hD2, rs ++ [v6], upd_same, ?_, by rw [List.length_append, l5]; rfl⟩
    rw [List.take_add_one, hu, Option.toList_some, List.map_append]
    exact Xk.pk_snoc ((k5.same s6).st (Xk.st_updL h6)) (k6.st (Xk.st_updL h6))
  rintro Dl H5 hD ⟨s5, _, rs, h5, k5, l5⟩
  have s35 := s4.trans s5
  have hA5 := s35 _ _ hA2
  have hF5 := s35 _ _ hF2
  rw [List.length_map, lq, List.take_length] at k5
  wtm_at "xs"
  refine Xk.x_eqPkL (n := 41) (m := 39) (Xk.sq_of h5) (Xk.sq_of hF5) k5 (vl2.frm.same s35) ?_
  exact q H5
end
theorem all_mk {l : PySem.W.OpenLaw} {w : World} {K : PySem.W.Frag} {h : Heap} {mg : Str → Option Value} {fa C_Acceptor C_Attempt C_Diary C_Journal C_Node C_Record f_Journal___init__ f_Journal_frame_count p_Journal_frame_count f_Journal_synced_frames p_Journal_synced_frames f_Journal_append f_Journal_sync f_Journal_payloads f_members_of_slot f_batch_of f_sign_of f_pack f__add_data f__add_integer f__add_sevens f_unpack f__read_whole f__has_great_integer f__read_data f__read_integer f__read_text f__read_tuple f__read_sevens f__octet_at f_next_ballot f_Acceptor___init__ dT_Acceptor___init__ f_Acceptor_promise f_Acceptor_accept f_Record___init__ f_Record_do f_Attempt___init__ f_Node___init__ f_Node__begin_anew f_Node_upto p_Node_upto f_Node_members_now p_Node_members_now f_Node_offer f_Node_offer_members f_Node_tick f_Node_sends f_Node_letters f_Node_new_votes f_Node__long_patience f_Node__something_waits f_Node__may_go_out f_Node__end_step f_Node__note f_Node__send f_Node__send_to_all f_Node__send_to_others f_Node__begin_if_free f_Node__begin f_Diary___init__ f_Diary_settled f__law_row f__law_take f__law_new f__law_forget f__law_members_of f__law_do f__law_note f__law_post f__law_all f__law_others f__law_wishes f__law_begin f__law_offer f__law_offer_members f__law_end f__law_attempt_agrees f__law_agrees f__law_said f__law_some_members f__law_make f__law_start f__law_tick f__law_deed f_law a_NO_BALLOT : Addr} (X : K.In h) (G : h.Ns mainGlobals mg) (hfa : mg "law" = some (.ref fa))
    {od_Journal___init__ an_Journal___init__ od_Journal_frame_count an_Journal_frame_count od_Journal_synced_frames an_Journal_synced_frames od_Journal_append an_Journal_append od_Journal_sync an_Journal_sync od_Journal_payloads an_Journal_payloads od_members_of_slot an_members_of_slot od_batch_of an_batch_of od_sign_of an_sign_of od_pack an_pack od__add_data an__add_data od__add_integer an__add_integer od__add_sevens an__add_sevens od_unpack an_unpack od__read_whole an__read_whole od__has_great_integer an__has_great_integer od__read_data an__read_data od__read_integer an__read_integer od__read_text an__read_text od__read_tuple an__read_tuple od__read_sevens an__read_sevens od__octet_at an__octet_at od_next_ballot an_next_ballot od_Acceptor___init__ an_Acceptor___init__ dn_Acceptor___init__ od_Acceptor_promise an_Acceptor_promise od_Acceptor_accept an_Acceptor_accept od_Record___init__ an_Record___init__ od_Record_do an_Record_do od_Attempt___init__ an_Attempt___init__ od_Node___init__ an_Node___init__ od_Node__begin_anew an_Node__begin_anew od_Node_upto an_Node_upto od_Node_members_now an_Node_members_now od_Node_offer an_Node_offer od_Node_offer_members an_Node_offer_members od_Node_tick an_Node_tick od_Node_sends an_Node_sends od_Node_letters an_Node_letters od_Node_new_votes an_Node_new_votes od_Node__long_patience an_Node__long_patience od_Node__something_waits an_Node__something_waits od_Node__may_go_out an_Node__may_go_out od_Node__end_step an_Node__end_step od_Node__note an_Node__note od_Node__send an_Node__send od_Node__send_to_all an_Node__send_to_all od_Node__send_to_others an_Node__send_to_others od_Node__begin_if_free an_Node__begin_if_free od_Node__begin an_Node__begin od_Diary___init__ an_Diary___init__ od_Diary_settled an_Diary_settled od__law_row an__law_row od__law_take an__law_take od__law_new an__law_new od__law_forget an__law_forget od__law_members_of an__law_members_of od__law_do an__law_do od__law_note an__law_note od__law_post an__law_post od__law_all an__law_all od__law_others an__law_others od__law_wishes an__law_wishes od__law_begin an__law_begin od__law_offer an__law_offer od__law_offer_members an__law_offer_members od__law_end an__law_end od__law_attempt_agrees an__law_attempt_agrees od__law_agrees an__law_agrees od__law_said an__law_said od__law_some_members an__law_some_members od__law_make an__law_make od__law_start an__law_start od__law_tick an__law_tick od__law_deed an__law_deed od_law an_law : Option Addr} {sl_Journal___init__ sl_Journal_frame_count sl_Journal_synced_frames sl_Journal_append sl_Journal_sync sl_Journal_payloads sl_members_of_slot sl_batch_of sl_sign_of sl_pack sl__add_data sl__add_integer sl__add_sevens sl_unpack sl__read_whole sl__has_great_integer sl__read_data sl__read_integer sl__read_text sl__read_tuple sl__read_sevens sl__octet_at sl_next_ballot sl_Acceptor___init__ sd_Acceptor___init__ sl_Acceptor_promise sl_Acceptor_accept sl_Record___init__ sl_Record_do sl_Attempt___init__ sl_Node___init__ sl_Node__begin_anew sl_Node_upto sl_Node_members_now sl_Node_offer sl_Node_offer_members sl_Node_tick sl_Node_sends sl_Node_letters sl_Node_new_votes sl_Node__long_patience sl_Node__something_waits sl_Node__may_go_out sl_Node__end_step sl_Node__note sl_Node__send sl_Node__send_to_all sl_Node__send_to_others sl_Node__begin_if_free sl_Node__begin sl_Diary___init__ sl_Diary_settled sl__law_row sl__law_take sl__law_new sl__law_forget sl__law_members_of sl__law_do sl__law_note sl__law_post sl__law_all sl__law_others sl__law_wishes sl__law_begin sl__law_offer sl__law_offer_members sl__law_end sl__law_attempt_agrees sl__law_agrees sl__law_said sl__law_some_members sl__law_make sl__law_start sl__law_tick sl__law_deed sl_law : Array (Option Value)} {oc_Journal___init__ kV_Journal___init__ dc_Journal___init__ pm_Journal___init__ cd_Journal___init__ ct_Journal___init__ oc_Journal_frame_count kV_Journal_frame_count dc_Journal_frame_count pm_Journal_frame_count cd_Journal_frame_count ct_Journal_frame_count oc_Journal_synced_frames kV_Journal_synced_frames dc_Journal_synced_frames pm_Journal_synced_frames cd_Journal_synced_frames ct_Journal_synced_frames oc_Journal_append kV_Journal_append dc_Journal_append pm_Journal_append cd_Journal_append ct_Journal_append oc_Journal_sync kV_Journal_sync dc_Journal_sync pm_Journal_sync cd_Journal_sync ct_Journal_sync oc_Journal_payloads kV_Journal_payloads dc_Journal_payloads pm_Journal_payloads cd_Journal_payloads ct_Journal_payloads oc_members_of_slot kV_members_of_slot dc_members_of_slot pm_members_of_slot cd_members_of_slot ct_members_of_slot oc_batch_of kV_batch_of dc_batch_of pm_batch_of cd_batch_of ct_batch_of oc_sign_of kV_sign_of dc_sign_of pm_sign_of cd_sign_of ct_sign_of oc_pack kV_pack dc_pack pm_pack cd_pack ct_pack oc__add_data kV__add_data dc__add_data pm__add_data cd__add_data ct__add_data oc__add_integer kV__add_integer dc__add_integer pm__add_integer cd__add_integer ct__add_integer oc__add_sevens kV__add_sevens dc__add_sevens pm__add_sevens cd__add_sevens ct__add_sevens oc_unpack kV_unpack dc_unpack pm_unpack cd_unpack ct_unpack oc__read_whole kV__read_whole dc__read_whole pm__read_whole cd__read_whole ct__read_whole oc__has_great_integer kV__has_great_integer dc__has_great_integer pm__has_great_integer cd__has_great_integer ct__has_great_integer oc__read_data kV__read_data dc__read_data pm__read_data cd__read_data ct__read_data oc__read_integer kV__read_integer dc__read_integer pm__read_integer cd__read_integer ct__read_integer oc__read_text kV__read_text dc__read_text pm__read_text cd__read_text ct__read_text oc__read_tuple kV__read_tuple dc__read_tuple pm__read_tuple cd__read_tuple ct__read_tuple oc__read_sevens kV__read_sevens dc__read_sevens pm__read_sevens cd__read_sevens ct__read_sevens oc__octet_at kV__octet_at dc__octet_at pm__octet_at cd__octet_at ct__octet_at oc_next_ballot kV_next_ballot dc_next_ballot pm_next_ballot cd_next_ballot ct_next_ballot oc_Acceptor___init__ kV_Acceptor___init__ dc_Acceptor___init__ pm_Acceptor___init__ cd_Acceptor___init__ ct_Acceptor___init__ oc_Acceptor_promise kV_Acceptor_promise dc_Acceptor_promise pm_Acceptor_promise cd_Acceptor_promise ct_Acceptor_promise oc_Acceptor_accept kV_Acceptor_accept dc_Acceptor_accept pm_Acceptor_accept cd_Acceptor_accept ct_Acceptor_accept oc_Record___init__ kV_Record___init__ dc_Record___init__ pm_Record___init__ cd_Record___init__ ct_Record___init__ oc_Record_do kV_Record_do dc_Record_do pm_Record_do cd_Record_do ct_Record_do oc_Attempt___init__ kV_Attempt___init__ dc_Attempt___init__ pm_Attempt___init__ cd_Attempt___init__ ct_Attempt___init__ oc_Node___init__ kV_Node___init__ dc_Node___init__ pm_Node___init__ cd_Node___init__ ct_Node___init__ oc_Node__begin_anew kV_Node__begin_anew dc_Node__begin_anew pm_Node__begin_anew cd_Node__begin_anew ct_Node__begin_anew oc_Node_upto kV_Node_upto dc_Node_upto pm_Node_upto cd_Node_upto ct_Node_upto oc_Node_members_now kV_Node_members_now dc_Node_members_now pm_Node_members_now cd_Node_members_now ct_Node_members_now oc_Node_offer kV_Node_offer dc_Node_offer pm_Node_offer cd_Node_offer ct_Node_offer oc_Node_offer_members kV_Node_offer_members dc_Node_offer_members pm_Node_offer_members cd_Node_offer_members ct_Node_offer_members oc_Node_tick kV_Node_tick dc_Node_tick pm_Node_tick cd_Node_tick ct_Node_tick oc_Node_sends kV_Node_sends dc_Node_sends pm_Node_sends cd_Node_sends ct_Node_sends oc_Node_letters kV_Node_letters dc_Node_letters pm_Node_letters cd_Node_letters ct_Node_letters oc_Node_new_votes kV_Node_new_votes dc_Node_new_votes pm_Node_new_votes cd_Node_new_votes ct_Node_new_votes oc_Node__long_patience kV_Node__long_patience dc_Node__long_patience pm_Node__long_patience cd_Node__long_patience ct_Node__long_patience oc_Node__something_waits kV_Node__something_waits dc_Node__something_waits pm_Node__something_waits cd_Node__something_waits ct_Node__something_waits oc_Node__may_go_out kV_Node__may_go_out dc_Node__may_go_out pm_Node__may_go_out cd_Node__may_go_out ct_Node__may_go_out oc_Node__end_step kV_Node__end_step dc_Node__end_step pm_Node__end_step cd_Node__end_step ct_Node__end_step oc_Node__note kV_Node__note dc_Node__note pm_Node__note cd_Node__note ct_Node__note oc_Node__send kV_Node__send dc_Node__send pm_Node__send cd_Node__send ct_Node__send oc_Node__send_to_all kV_Node__send_to_all dc_Node__send_to_all pm_Node__send_to_all cd_Node__send_to_all ct_Node__send_to_all oc_Node__send_to_others kV_Node__send_to_others dc_Node__send_to_others pm_Node__send_to_others cd_Node__send_to_others ct_Node__send_to_others oc_Node__begin_if_free kV_Node__begin_if_free dc_Node__begin_if_free pm_Node__begin_if_free cd_Node__begin_if_free ct_Node__begin_if_free oc_Node__begin kV_Node__begin dc_Node__begin pm_Node__begin cd_Node__begin ct_Node__begin oc_Diary___init__ kV_Diary___init__ dc_Diary___init__ pm_Diary___init__ cd_Diary___init__ ct_Diary___init__ oc_Diary_settled kV_Diary_settled dc_Diary_settled pm_Diary_settled cd_Diary_settled ct_Diary_settled oc__law_row kV__law_row dc__law_row pm__law_row cd__law_row ct__law_row oc__law_take kV__law_take dc__law_take pm__law_take cd__law_take ct__law_take oc__law_new kV__law_new dc__law_new pm__law_new cd__law_new ct__law_new oc__law_forget kV__law_forget dc__law_forget pm__law_forget cd__law_forget ct__law_forget oc__law_members_of kV__law_members_of dc__law_members_of pm__law_members_of cd__law_members_of ct__law_members_of oc__law_do kV__law_do dc__law_do pm__law_do cd__law_do ct__law_do oc__law_note kV__law_note dc__law_note pm__law_note cd__law_note ct__law_note oc__law_post kV__law_post dc__law_post pm__law_post cd__law_post ct__law_post oc__law_all kV__law_all dc__law_all pm__law_all cd__law_all ct__law_all oc__law_others kV__law_others dc__law_others pm__law_others cd__law_others ct__law_others oc__law_wishes kV__law_wishes dc__law_wishes pm__law_wishes cd__law_wishes ct__law_wishes oc__law_begin kV__law_begin dc__law_begin pm__law_begin cd__law_begin ct__law_begin oc__law_offer kV__law_offer dc__law_offer pm__law_offer cd__law_offer ct__law_offer oc__law_offer_members kV__law_offer_members dc__law_offer_members pm__law_offer_members cd__law_offer_members ct__law_offer_members oc__law_end kV__law_end dc__law_end pm__law_end cd__law_end ct__law_end oc__law_attempt_agrees kV__law_attempt_agrees dc__law_attempt_agrees pm__law_attempt_agrees cd__law_attempt_agrees ct__law_attempt_agrees oc__law_agrees kV__law_agrees dc__law_agrees pm__law_agrees cd__law_agrees ct__law_agrees oc__law_said kV__law_said dc__law_said pm__law_said cd__law_said ct__law_said oc__law_some_members kV__law_some_members dc__law_some_members pm__law_some_members cd__law_some_members ct__law_some_members oc__law_make kV__law_make dc__law_make pm__law_make cd__law_make ct__law_make oc__law_start kV__law_start dc__law_start pm__law_start cd__law_start ct__law_start oc__law_tick kV__law_tick dc__law_tick pm__law_tick cd__law_tick ct__law_tick oc__law_deed kV__law_deed dc__law_deed pm__law_deed cd__law_deed ct__law_deed oc_law kV_law dc_law pm_law cd_law ct_law : Value} {t_ACCEPT t_ASKING t_BATCH t_BELOW_ZERO t_CHOSEN t_FRAME_HEAD t_FROM_ZERO t_HIGH_SIGNS t_LONG_PATIENCE t_LOW_SIGNS t_MEMBERS t_MOST_BATCH t_MOST_DEPTH t_MOST_INTEGER t_MOST_ROUND t_MOST_WAITING t_NOTHING t_PROMISE t_TEXT t_TUPLE t_UP : Tok} {pz_Journal_frame_count pz_Journal_synced_frames pz_Node_upto pz_Node_members_now : List Value} {nd_Acceptor___init__ : Nat} {t_NB1 t_NB2 : Tok} {dn_NB : Option Addr} {n_NB : Nat} {sl_NB : Array (Option Value)}
    (aC_Acceptor : PySem.W.nsIn K mainGlobals "Acceptor" = some (some (.ref C_Acceptor)))
    (pg_Acceptor : PySem.W.plainGet K C_Acceptor Str.empty = true)
    (hd_Acceptor : PySem.W.hasDictIn K C_Acceptor = true)
    (po_Acceptor : PySem.W.plainOver K C_Acceptor = true)
    (sa_Acceptor : PySem.W.findIn K (.ref C_Acceptor) "__setattr__" = some (some (.builtin "object.__setattr__")))
    (mk_Acceptor : PySem.W.makesIn K C_Acceptor = true)
    (kc_Acceptor : PySem.W.keepIn K (.ref C_Acceptor) = true)
    (na_Acceptor_promised : PySem.W.findIn K (.ref C_Acceptor) "promised" = some none)
    (na_Acceptor_accepted : PySem.W.findIn K (.ref C_Acceptor) "accepted" = some none)
    (aC_Attempt : PySem.W.nsIn K mainGlobals "Attempt" = some (some (.ref C_Attempt)))
    (pg_Attempt : PySem.W.plainGet K C_Attempt Str.empty = true)
    (hd_Attempt : PySem.W.hasDictIn K C_Attempt = true)
    (po_Attempt : PySem.W.plainOver K C_Attempt = true)
    (sa_Attempt : PySem.W.findIn K (.ref C_Attempt) "__setattr__" = some (some (.builtin "object.__setattr__")))
    (mk_Attempt : PySem.W.makesIn K C_Attempt = true)
    (kc_Attempt : PySem.W.keepIn K (.ref C_Attempt) = true)
    (na_Attempt_ballot : PySem.W.findIn K (.ref C_Attempt) "ballot" = some none)
    (na_Attempt_entry : PySem.W.findIn K (.ref C_Attempt) "entry" = some none)
    (na_Attempt_members : PySem.W.findIn K (.ref C_Attempt) "members" = some none)
    (na_Attempt_stage : PySem.W.findIn K (.ref C_Attempt) "stage" = some none)
    (na_Attempt_promised_by : PySem.W.findIn K (.ref C_Attempt) "promised_by" = some none)
    (na_Attempt_voted_by : PySem.W.findIn K (.ref C_Attempt) "voted_by" = some none)
    (na_Attempt_bound : PySem.W.findIn K (.ref C_Attempt) "bound" = some none)
    (aC_Diary : PySem.W.nsIn K mainGlobals "Diary" = some (some (.ref C_Diary)))
    (pg_Diary : PySem.W.plainGet K C_Diary Str.empty = true)
    (hd_Diary : PySem.W.hasDictIn K C_Diary = true)
    (po_Diary : PySem.W.plainOver K C_Diary = true)
    (sa_Diary : PySem.W.findIn K (.ref C_Diary) "__setattr__" = some (some (.builtin "object.__setattr__")))
    (mk_Diary : PySem.W.makesIn K C_Diary = true)
    (kc_Diary : PySem.W.keepIn K (.ref C_Diary) = true)
    (na_Diary_lines : PySem.W.findIn K (.ref C_Diary) "lines" = some none)
    (aC_Journal : PySem.W.nsIn K mainGlobals "Journal" = some (some (.ref C_Journal)))
    (pg_Journal : PySem.W.plainGet K C_Journal Str.empty = true)
    (hd_Journal : PySem.W.hasDictIn K C_Journal = true)
    (po_Journal : PySem.W.plainOver K C_Journal = true)
    (sa_Journal : PySem.W.findIn K (.ref C_Journal) "__setattr__" = some (some (.builtin "object.__setattr__")))
    (mk_Journal : PySem.W.makesIn K C_Journal = true)
    (kc_Journal : PySem.W.keepIn K (.ref C_Journal) = true)
    (na_Journal__payloads : PySem.W.findIn K (.ref C_Journal) "_payloads" = some none)
    (na_Journal__sizes : PySem.W.findIn K (.ref C_Journal) "_sizes" = some none)
    (na_Journal__synced : PySem.W.findIn K (.ref C_Journal) "_synced" = some none)
    (aC_Node : PySem.W.nsIn K mainGlobals "Node" = some (some (.ref C_Node)))
    (pg_Node : PySem.W.plainGet K C_Node Str.empty = true)
    (hd_Node : PySem.W.hasDictIn K C_Node = true)
    (po_Node : PySem.W.plainOver K C_Node = true)
    (sa_Node : PySem.W.findIn K (.ref C_Node) "__setattr__" = some (some (.builtin "object.__setattr__")))
    (mk_Node : PySem.W.makesIn K C_Node = true)
    (kc_Node : PySem.W.keepIn K (.ref C_Node) = true)
    (na_Node_index : PySem.W.findIn K (.ref C_Node) "index" = some none)
    (na_Node_size : PySem.W.findIn K (.ref C_Node) "size" = some none)
    (na_Node_first_members : PySem.W.findIn K (.ref C_Node) "first_members" = some none)
    (na_Node_lazy : PySem.W.findIn K (.ref C_Node) "lazy" = some none)
    (na_Node_state : PySem.W.findIn K (.ref C_Node) "state" = some none)
    (na_Node_journal : PySem.W.findIn K (.ref C_Node) "journal" = some none)
    (na_Node_record : PySem.W.findIn K (.ref C_Node) "record" = some none)
    (na_Node__make_machine : PySem.W.findIn K (.ref C_Node) "_make_machine" = some none)
    (na_Node__untold : PySem.W.findIn K (.ref C_Node) "_untold" = some none)
    (na_Node_waiting : PySem.W.findIn K (.ref C_Node) "waiting" = some none)
    (na_Node_wanted : PySem.W.findIn K (.ref C_Node) "wanted" = some none)
    (na_Node_attempt : PySem.W.findIn K (.ref C_Node) "attempt" = some none)
    (na_Node_patience : PySem.W.findIn K (.ref C_Node) "patience" = some none)
    (na_Node_guest : PySem.W.findIn K (.ref C_Node) "guest" = some none)
    (na_Node_seen : PySem.W.findIn K (.ref C_Node) "seen" = some none)
    (na_Node_machine : PySem.W.findIn K (.ref C_Node) "machine" = some none)
    (na_Node__sends : PySem.W.findIn K (.ref C_Node) "_sends" = some none)
    (na_Node__letters : PySem.W.findIn K (.ref C_Node) "_letters" = some none)
    (aC_Record : PySem.W.nsIn K mainGlobals "Record" = some (some (.ref C_Record)))
    (pg_Record : PySem.W.plainGet K C_Record Str.empty = true)
    (hd_Record : PySem.W.hasDictIn K C_Record = true)
    (po_Record : PySem.W.plainOver K C_Record = true)
    (sa_Record : PySem.W.findIn K (.ref C_Record) "__setattr__" = some (some (.builtin "object.__setattr__")))
    (mk_Record : PySem.W.makesIn K C_Record = true)
    (kc_Record : PySem.W.keepIn K (.ref C_Record) = true)
    (na_Record_row : PySem.W.findIn K (.ref C_Record) "row" = some none)
    (na_Record_acceptor : PySem.W.findIn K (.ref C_Record) "acceptor" = some none)
    (a_Journal___init__ : PySem.W.findIn K (.ref C_Journal) "__init__" = some (some (.ref f_Journal___init__)))
    (i_Journal___init__ : PySem.W.isFn K (.ref f_Journal___init__) = true)
    (l_Journal___init__ : K.lookup f_Journal___init__ = some ⟨oc_Journal___init__, od_Journal___init__, .func (PySem.W.fnOf "__init__" "Journal.__init__" (defArgs s_Journal___init__) (defBody s_Journal___init__) (defScope s_Journal___init__) .none kV_Journal___init__ dc_Journal___init__ pm_Journal___init__ an_Journal___init__ cd_Journal___init__ ct_Journal___init__), sl_Journal___init__⟩)
    (c_Journal___init__ : PySem.W.codeIn K cd_Journal___init__ "Journal.__init__" = true)
    (k_Journal___init__ : PySem.W.keepIn K (.ref f_Journal___init__) = true)
    (a_Journal_frame_count : PySem.W.findIn K (.ref C_Journal) "frame_count" = some (some (.ref p_Journal_frame_count)))
    (pg_Journal_frame_count : PySem.W.specialIn K (.ref p_Journal_frame_count) "__get__" = some (some (.builtin "property.__get__")))
    (pt_Journal_frame_count : PySem.W.takesIn K (.ref p_Journal_frame_count) = some true)
    (pr_Journal_frame_count : PySem.W.recIn K p_Journal_frame_count "property" = some (.ref f_Journal_frame_count :: pz_Journal_frame_count))
    (l_Journal_frame_count : K.lookup f_Journal_frame_count = some ⟨oc_Journal_frame_count, od_Journal_frame_count, .func (PySem.W.fnOf "frame_count" "Journal.frame_count" (defArgs s_Journal_frame_count) (defBody s_Journal_frame_count) (defScope s_Journal_frame_count) .none kV_Journal_frame_count dc_Journal_frame_count pm_Journal_frame_count an_Journal_frame_count cd_Journal_frame_count ct_Journal_frame_count), sl_Journal_frame_count⟩)
    (c_Journal_frame_count : PySem.W.codeIn K cd_Journal_frame_count "Journal.frame_count" = true)
    (k_Journal_frame_count : PySem.W.keepIn K (.ref f_Journal_frame_count) = true)
    (a_Journal_synced_frames : PySem.W.findIn K (.ref C_Journal) "synced_frames" = some (some (.ref p_Journal_synced_frames)))
    (pg_Journal_synced_frames : PySem.W.specialIn K (.ref p_Journal_synced_frames) "__get__" = some (some (.builtin "property.__get__")))
    (pt_Journal_synced_frames : PySem.W.takesIn K (.ref p_Journal_synced_frames) = some true)
    (pr_Journal_synced_frames : PySem.W.recIn K p_Journal_synced_frames "property" = some (.ref f_Journal_synced_frames :: pz_Journal_synced_frames))
    (l_Journal_synced_frames : K.lookup f_Journal_synced_frames = some ⟨oc_Journal_synced_frames, od_Journal_synced_frames, .func (PySem.W.fnOf "synced_frames" "Journal.synced_frames" (defArgs s_Journal_synced_frames) (defBody s_Journal_synced_frames) (defScope s_Journal_synced_frames) .none kV_Journal_synced_frames dc_Journal_synced_frames pm_Journal_synced_frames an_Journal_synced_frames cd_Journal_synced_frames ct_Journal_synced_frames), sl_Journal_synced_frames⟩)
    (c_Journal_synced_frames : PySem.W.codeIn K cd_Journal_synced_frames "Journal.synced_frames" = true)
    (k_Journal_synced_frames : PySem.W.keepIn K (.ref f_Journal_synced_frames) = true)
    (a_Journal_append : PySem.W.findIn K (.ref C_Journal) "append" = some (some (.ref f_Journal_append)))
    (i_Journal_append : PySem.W.isFn K (.ref f_Journal_append) = true)
    (l_Journal_append : K.lookup f_Journal_append = some ⟨oc_Journal_append, od_Journal_append, .func (PySem.W.fnOf "append" "Journal.append" (defArgs s_Journal_append) (defBody s_Journal_append) (defScope s_Journal_append) .none kV_Journal_append dc_Journal_append pm_Journal_append an_Journal_append cd_Journal_append ct_Journal_append), sl_Journal_append⟩)
    (c_Journal_append : PySem.W.codeIn K cd_Journal_append "Journal.append" = true)
    (k_Journal_append : PySem.W.keepIn K (.ref f_Journal_append) = true)
    (a_Journal_sync : PySem.W.findIn K (.ref C_Journal) "sync" = some (some (.ref f_Journal_sync)))
    (i_Journal_sync : PySem.W.isFn K (.ref f_Journal_sync) = true)
    (l_Journal_sync : K.lookup f_Journal_sync = some ⟨oc_Journal_sync, od_Journal_sync, .func (PySem.W.fnOf "sync" "Journal.sync" (defArgs s_Journal_sync) (defBody s_Journal_sync) (defScope s_Journal_sync) .none kV_Journal_sync dc_Journal_sync pm_Journal_sync an_Journal_sync cd_Journal_sync ct_Journal_sync), sl_Journal_sync⟩)
    (c_Journal_sync : PySem.W.codeIn K cd_Journal_sync "Journal.sync" = true)
    (k_Journal_sync : PySem.W.keepIn K (.ref f_Journal_sync) = true)
    (a_Journal_payloads : PySem.W.findIn K (.ref C_Journal) "payloads" = some (some (.ref f_Journal_payloads)))
    (i_Journal_payloads : PySem.W.isFn K (.ref f_Journal_payloads) = true)
    (l_Journal_payloads : K.lookup f_Journal_payloads = some ⟨oc_Journal_payloads, od_Journal_payloads, .func (PySem.W.fnOf "payloads" "Journal.payloads" (defArgs s_Journal_payloads) (defBody s_Journal_payloads) (defScope s_Journal_payloads) .none kV_Journal_payloads dc_Journal_payloads pm_Journal_payloads an_Journal_payloads cd_Journal_payloads ct_Journal_payloads), sl_Journal_payloads⟩)
    (c_Journal_payloads : PySem.W.codeIn K cd_Journal_payloads "Journal.payloads" = true)
    (k_Journal_payloads : PySem.W.keepIn K (.ref f_Journal_payloads) = true)
    (a_members_of_slot : PySem.W.nsIn K mainGlobals "members_of_slot" = some (some (.ref f_members_of_slot)))
    (l_members_of_slot : K.lookup f_members_of_slot = some ⟨oc_members_of_slot, od_members_of_slot, .func (PySem.W.fnOf "members_of_slot" "members_of_slot" (defArgs s_members_of_slot) (defBody s_members_of_slot) (defScope s_members_of_slot) .none kV_members_of_slot dc_members_of_slot pm_members_of_slot an_members_of_slot cd_members_of_slot ct_members_of_slot), sl_members_of_slot⟩)
    (c_members_of_slot : PySem.W.codeIn K cd_members_of_slot "members_of_slot" = true)
    (k_members_of_slot : PySem.W.keepIn K (.ref f_members_of_slot) = true)
    (a_batch_of : PySem.W.nsIn K mainGlobals "batch_of" = some (some (.ref f_batch_of)))
    (l_batch_of : K.lookup f_batch_of = some ⟨oc_batch_of, od_batch_of, .func (PySem.W.fnOf "batch_of" "batch_of" (defArgs s_batch_of) (defBody s_batch_of) (defScope s_batch_of) .none kV_batch_of dc_batch_of pm_batch_of an_batch_of cd_batch_of ct_batch_of), sl_batch_of⟩)
    (c_batch_of : PySem.W.codeIn K cd_batch_of "batch_of" = true)
    (k_batch_of : PySem.W.keepIn K (.ref f_batch_of) = true)
    (a_sign_of : PySem.W.nsIn K mainGlobals "sign_of" = some (some (.ref f_sign_of)))
    (l_sign_of : K.lookup f_sign_of = some ⟨oc_sign_of, od_sign_of, .func (PySem.W.fnOf "sign_of" "sign_of" (defArgs s_sign_of) (defBody s_sign_of) (defScope s_sign_of) .none kV_sign_of dc_sign_of pm_sign_of an_sign_of cd_sign_of ct_sign_of), sl_sign_of⟩)
    (c_sign_of : PySem.W.codeIn K cd_sign_of "sign_of" = true)
    (k_sign_of : PySem.W.keepIn K (.ref f_sign_of) = true)
    (a_pack : PySem.W.nsIn K mainGlobals "pack" = some (some (.ref f_pack)))
    (l_pack : K.lookup f_pack = some ⟨oc_pack, od_pack, .func (PySem.W.fnOf "pack" "pack" (defArgs s_pack) (defBody s_pack) (defScope s_pack) .none kV_pack dc_pack pm_pack an_pack cd_pack ct_pack), sl_pack⟩)
    (c_pack : PySem.W.codeIn K cd_pack "pack" = true)
    (k_pack : PySem.W.keepIn K (.ref f_pack) = true)
    (a__add_data : PySem.W.nsIn K mainGlobals "_add_data" = some (some (.ref f__add_data)))
    (l__add_data : K.lookup f__add_data = some ⟨oc__add_data, od__add_data, .func (PySem.W.fnOf "_add_data" "_add_data" (defArgs s__add_data) (defBody s__add_data) (defScope s__add_data) .none kV__add_data dc__add_data pm__add_data an__add_data cd__add_data ct__add_data), sl__add_data⟩)
    (c__add_data : PySem.W.codeIn K cd__add_data "_add_data" = true)
    (k__add_data : PySem.W.keepIn K (.ref f__add_data) = true)
    (a__add_integer : PySem.W.nsIn K mainGlobals "_add_integer" = some (some (.ref f__add_integer)))
    (l__add_integer : K.lookup f__add_integer = some ⟨oc__add_integer, od__add_integer, .func (PySem.W.fnOf "_add_integer" "_add_integer" (defArgs s__add_integer) (defBody s__add_integer) (defScope s__add_integer) .none kV__add_integer dc__add_integer pm__add_integer an__add_integer cd__add_integer ct__add_integer), sl__add_integer⟩)
    (c__add_integer : PySem.W.codeIn K cd__add_integer "_add_integer" = true)
    (k__add_integer : PySem.W.keepIn K (.ref f__add_integer) = true)
    (a__add_sevens : PySem.W.nsIn K mainGlobals "_add_sevens" = some (some (.ref f__add_sevens)))
    (l__add_sevens : K.lookup f__add_sevens = some ⟨oc__add_sevens, od__add_sevens, .func (PySem.W.fnOf "_add_sevens" "_add_sevens" (defArgs s__add_sevens) (defBody s__add_sevens) (defScope s__add_sevens) .none kV__add_sevens dc__add_sevens pm__add_sevens an__add_sevens cd__add_sevens ct__add_sevens), sl__add_sevens⟩)
    (c__add_sevens : PySem.W.codeIn K cd__add_sevens "_add_sevens" = true)
    (k__add_sevens : PySem.W.keepIn K (.ref f__add_sevens) = true)
    (a_unpack : PySem.W.nsIn K mainGlobals "unpack" = some (some (.ref f_unpack)))
    (l_unpack : K.lookup f_unpack = some ⟨oc_unpack, od_unpack, .func (PySem.W.fnOf "unpack" "unpack" (defArgs s_unpack) (defBody s_unpack) (defScope s_unpack) .none kV_unpack dc_unpack pm_unpack an_unpack cd_unpack ct_unpack), sl_unpack⟩)
    (c_unpack : PySem.W.codeIn K cd_unpack "unpack" = true)
    (k_unpack : PySem.W.keepIn K (.ref f_unpack) = true)
    (a__read_whole : PySem.W.nsIn K mainGlobals "_read_whole" = some (some (.ref f__read_whole)))
    (l__read_whole : K.lookup f__read_whole = some ⟨oc__read_whole, od__read_whole, .func (PySem.W.fnOf "_read_whole" "_read_whole" (defArgs s__read_whole) (defBody s__read_whole) (defScope s__read_whole) .none kV__read_whole dc__read_whole pm__read_whole an__read_whole cd__read_whole ct__read_whole), sl__read_whole⟩)
    (c__read_whole : PySem.W.codeIn K cd__read_whole "_read_whole" = true)
    (k__read_whole : PySem.W.keepIn K (.ref f__read_whole) = true)
    (a__has_great_integer : PySem.W.nsIn K mainGlobals "_has_great_integer" = some (some (.ref f__has_great_integer)))
    (l__has_great_integer : K.lookup f__has_great_integer = some ⟨oc__has_great_integer, od__has_great_integer, .func (PySem.W.fnOf "_has_great_integer" "_has_great_integer" (defArgs s__has_great_integer) (defBody s__has_great_integer) (defScope s__has_great_integer) .none kV__has_great_integer dc__has_great_integer pm__has_great_integer an__has_great_integer cd__has_great_integer ct__has_great_integer), sl__has_great_integer⟩)
    (c__has_great_integer : PySem.W.codeIn K cd__has_great_integer "_has_great_integer" = true)
    (k__has_great_integer : PySem.W.keepIn K (.ref f__has_great_integer) = true)
    (a__read_data : PySem.W.nsIn K mainGlobals "_read_data" = some (some (.ref f__read_data)))
    (l__read_data : K.lookup f__read_data = some ⟨oc__read_data, od__read_data, .func (PySem.W.fnOf "_read_data" "_read_data" (defArgs s__read_data) (defBody s__read_data) (defScope s__read_data) .none kV__read_data dc__read_data pm__read_data an__read_data cd__read_data ct__read_data), sl__read_data⟩)
    (c__read_data : PySem.W.codeIn K cd__read_data "_read_data" = true)
    (k__read_data : PySem.W.keepIn K (.ref f__read_data) = true)
    (a__read_integer : PySem.W.nsIn K mainGlobals "_read_integer" = some (some (.ref f__read_integer)))
    (l__read_integer : K.lookup f__read_integer = some ⟨oc__read_integer, od__read_integer, .func (PySem.W.fnOf "_read_integer" "_read_integer" (defArgs s__read_integer) (defBody s__read_integer) (defScope s__read_integer) .none kV__read_integer dc__read_integer pm__read_integer an__read_integer cd__read_integer ct__read_integer), sl__read_integer⟩)
    (c__read_integer : PySem.W.codeIn K cd__read_integer "_read_integer" = true)
    (k__read_integer : PySem.W.keepIn K (.ref f__read_integer) = true)
    (a__read_text : PySem.W.nsIn K mainGlobals "_read_text" = some (some (.ref f__read_text)))
    (l__read_text : K.lookup f__read_text = some ⟨oc__read_text, od__read_text, .func (PySem.W.fnOf "_read_text" "_read_text" (defArgs s__read_text) (defBody s__read_text) (defScope s__read_text) .none kV__read_text dc__read_text pm__read_text an__read_text cd__read_text ct__read_text), sl__read_text⟩)
    (c__read_text : PySem.W.codeIn K cd__read_text "_read_text" = true)
    (k__read_text : PySem.W.keepIn K (.ref f__read_text) = true)
    (a__read_tuple : PySem.W.nsIn K mainGlobals "_read_tuple" = some (some (.ref f__read_tuple)))
    (l__read_tuple : K.lookup f__read_tuple = some ⟨oc__read_tuple, od__read_tuple, .func (PySem.W.fnOf "_read_tuple" "_read_tuple" (defArgs s__read_tuple) (defBody s__read_tuple) (defScope s__read_tuple) .none kV__read_tuple dc__read_tuple pm__read_tuple an__read_tuple cd__read_tuple ct__read_tuple), sl__read_tuple⟩)
    (c__read_tuple : PySem.W.codeIn K cd__read_tuple "_read_tuple" = true)
    (k__read_tuple : PySem.W.keepIn K (.ref f__read_tuple) = true)
    (a__read_sevens : PySem.W.nsIn K mainGlobals "_read_sevens" = some (some (.ref f__read_sevens)))
    (l__read_sevens : K.lookup f__read_sevens = some ⟨oc__read_sevens, od__read_sevens, .func (PySem.W.fnOf "_read_sevens" "_read_sevens" (defArgs s__read_sevens) (defBody s__read_sevens) (defScope s__read_sevens) .none kV__read_sevens dc__read_sevens pm__read_sevens an__read_sevens cd__read_sevens ct__read_sevens), sl__read_sevens⟩)
    (c__read_sevens : PySem.W.codeIn K cd__read_sevens "_read_sevens" = true)
    (k__read_sevens : PySem.W.keepIn K (.ref f__read_sevens) = true)
    (a__octet_at : PySem.W.nsIn K mainGlobals "_octet_at" = some (some (.ref f__octet_at)))
    (l__octet_at : K.lookup f__octet_at = some ⟨oc__octet_at, od__octet_at, .func (PySem.W.fnOf "_octet_at" "_octet_at" (defArgs s__octet_at) (defBody s__octet_at) (defScope s__octet_at) .none kV__octet_at dc__octet_at pm__octet_at an__octet_at cd__octet_at ct__octet_at), sl__octet_at⟩)
    (c__octet_at : PySem.W.codeIn K cd__octet_at "_octet_at" = true)
    (k__octet_at : PySem.W.keepIn K (.ref f__octet_at) = true)
    (a_next_ballot : PySem.W.nsIn K mainGlobals "next_ballot" = some (some (.ref f_next_ballot)))
    (l_next_ballot : K.lookup f_next_ballot = some ⟨oc_next_ballot, od_next_ballot, .func (PySem.W.fnOf "next_ballot" "next_ballot" (defArgs s_next_ballot) (defBody s_next_ballot) (defScope s_next_ballot) .none kV_next_ballot dc_next_ballot pm_next_ballot an_next_ballot cd_next_ballot ct_next_ballot), sl_next_ballot⟩)
    (c_next_ballot : PySem.W.codeIn K cd_next_ballot "next_ballot" = true)
    (k_next_ballot : PySem.W.keepIn K (.ref f_next_ballot) = true)
    (a_Acceptor___init__ : PySem.W.findIn K (.ref C_Acceptor) "__init__" = some (some (.ref f_Acceptor___init__)))
    (i_Acceptor___init__ : PySem.W.isFn K (.ref f_Acceptor___init__) = true)
    (l_Acceptor___init__ : K.lookup f_Acceptor___init__ = some ⟨oc_Acceptor___init__, od_Acceptor___init__, .func (PySem.W.fnOf "__init__" "Acceptor.__init__" (defArgs s_Acceptor___init__) (defBody s_Acceptor___init__) (defScope s_Acceptor___init__) (.ref dT_Acceptor___init__) kV_Acceptor___init__ dc_Acceptor___init__ pm_Acceptor___init__ an_Acceptor___init__ cd_Acceptor___init__ ct_Acceptor___init__), sl_Acceptor___init__⟩)
    (c_Acceptor___init__ : PySem.W.codeIn K cd_Acceptor___init__ "Acceptor.__init__" = true)
    (k_Acceptor___init__ : PySem.W.keepIn K (.ref f_Acceptor___init__) = true)
    (a_Acceptor_promise : PySem.W.findIn K (.ref C_Acceptor) "promise" = some (some (.ref f_Acceptor_promise)))
    (i_Acceptor_promise : PySem.W.isFn K (.ref f_Acceptor_promise) = true)
    (l_Acceptor_promise : K.lookup f_Acceptor_promise = some ⟨oc_Acceptor_promise, od_Acceptor_promise, .func (PySem.W.fnOf "promise" "Acceptor.promise" (defArgs s_Acceptor_promise) (defBody s_Acceptor_promise) (defScope s_Acceptor_promise) .none kV_Acceptor_promise dc_Acceptor_promise pm_Acceptor_promise an_Acceptor_promise cd_Acceptor_promise ct_Acceptor_promise), sl_Acceptor_promise⟩)
    (c_Acceptor_promise : PySem.W.codeIn K cd_Acceptor_promise "Acceptor.promise" = true)
    (k_Acceptor_promise : PySem.W.keepIn K (.ref f_Acceptor_promise) = true)
    (a_Acceptor_accept : PySem.W.findIn K (.ref C_Acceptor) "accept" = some (some (.ref f_Acceptor_accept)))
    (i_Acceptor_accept : PySem.W.isFn K (.ref f_Acceptor_accept) = true)
    (l_Acceptor_accept : K.lookup f_Acceptor_accept = some ⟨oc_Acceptor_accept, od_Acceptor_accept, .func (PySem.W.fnOf "accept" "Acceptor.accept" (defArgs s_Acceptor_accept) (defBody s_Acceptor_accept) (defScope s_Acceptor_accept) .none kV_Acceptor_accept dc_Acceptor_accept pm_Acceptor_accept an_Acceptor_accept cd_Acceptor_accept ct_Acceptor_accept), sl_Acceptor_accept⟩)
    (c_Acceptor_accept : PySem.W.codeIn K cd_Acceptor_accept "Acceptor.accept" = true)
    (k_Acceptor_accept : PySem.W.keepIn K (.ref f_Acceptor_accept) = true)
    (a_Record___init__ : PySem.W.findIn K (.ref C_Record) "__init__" = some (some (.ref f_Record___init__)))
    (i_Record___init__ : PySem.W.isFn K (.ref f_Record___init__) = true)
    (l_Record___init__ : K.lookup f_Record___init__ = some ⟨oc_Record___init__, od_Record___init__, .func (PySem.W.fnOf "__init__" "Record.__init__" (defArgs s_Record___init__) (defBody s_Record___init__) (defScope s_Record___init__) .none kV_Record___init__ dc_Record___init__ pm_Record___init__ an_Record___init__ cd_Record___init__ ct_Record___init__), sl_Record___init__⟩)
    (c_Record___init__ : PySem.W.codeIn K cd_Record___init__ "Record.__init__" = true)
    (k_Record___init__ : PySem.W.keepIn K (.ref f_Record___init__) = true)
    (a_Record_do : PySem.W.findIn K (.ref C_Record) "do" = some (some (.ref f_Record_do)))
    (i_Record_do : PySem.W.isFn K (.ref f_Record_do) = true)
    (l_Record_do : K.lookup f_Record_do = some ⟨oc_Record_do, od_Record_do, .func (PySem.W.fnOf "do" "Record.do" (defArgs s_Record_do) (defBody s_Record_do) (defScope s_Record_do) .none kV_Record_do dc_Record_do pm_Record_do an_Record_do cd_Record_do ct_Record_do), sl_Record_do⟩)
    (c_Record_do : PySem.W.codeIn K cd_Record_do "Record.do" = true)
    (k_Record_do : PySem.W.keepIn K (.ref f_Record_do) = true)
    (a_Attempt___init__ : PySem.W.findIn K (.ref C_Attempt) "__init__" = some (some (.ref f_Attempt___init__)))
    (i_Attempt___init__ : PySem.W.isFn K (.ref f_Attempt___init__) = true)
    (l_Attempt___init__ : K.lookup f_Attempt___init__ = some ⟨oc_Attempt___init__, od_Attempt___init__, .func (PySem.W.fnOf "__init__" "Attempt.__init__" (defArgs s_Attempt___init__) (defBody s_Attempt___init__) (defScope s_Attempt___init__) .none kV_Attempt___init__ dc_Attempt___init__ pm_Attempt___init__ an_Attempt___init__ cd_Attempt___init__ ct_Attempt___init__), sl_Attempt___init__⟩)
    (c_Attempt___init__ : PySem.W.codeIn K cd_Attempt___init__ "Attempt.__init__" = true)
    (k_Attempt___init__ : PySem.W.keepIn K (.ref f_Attempt___init__) = true)
    (a_Node___init__ : PySem.W.findIn K (.ref C_Node) "__init__" = some (some (.ref f_Node___init__)))
    (i_Node___init__ : PySem.W.isFn K (.ref f_Node___init__) = true)
    (l_Node___init__ : K.lookup f_Node___init__ = some ⟨oc_Node___init__, od_Node___init__, .func (PySem.W.fnOf "__init__" "Node.__init__" (defArgs s_Node___init__) (defBody s_Node___init__) (defScope s_Node___init__) .none kV_Node___init__ dc_Node___init__ pm_Node___init__ an_Node___init__ cd_Node___init__ ct_Node___init__), sl_Node___init__⟩)
    (c_Node___init__ : PySem.W.codeIn K cd_Node___init__ "Node.__init__" = true)
    (k_Node___init__ : PySem.W.keepIn K (.ref f_Node___init__) = true)
    (a_Node__begin_anew : PySem.W.findIn K (.ref C_Node) "_begin_anew" = some (some (.ref f_Node__begin_anew)))
    (i_Node__begin_anew : PySem.W.isFn K (.ref f_Node__begin_anew) = true)
    (l_Node__begin_anew : K.lookup f_Node__begin_anew = some ⟨oc_Node__begin_anew, od_Node__begin_anew, .func (PySem.W.fnOf "_begin_anew" "Node._begin_anew" (defArgs s_Node__begin_anew) (defBody s_Node__begin_anew) (defScope s_Node__begin_anew) .none kV_Node__begin_anew dc_Node__begin_anew pm_Node__begin_anew an_Node__begin_anew cd_Node__begin_anew ct_Node__begin_anew), sl_Node__begin_anew⟩)
    (c_Node__begin_anew : PySem.W.codeIn K cd_Node__begin_anew "Node._begin_anew" = true)
    (k_Node__begin_anew : PySem.W.keepIn K (.ref f_Node__begin_anew) = true)
    (a_Node_upto : PySem.W.findIn K (.ref C_Node) "upto" = some (some (.ref p_Node_upto)))
    (pg_Node_upto : PySem.W.specialIn K (.ref p_Node_upto) "__get__" = some (some (.builtin "property.__get__")))
    (pt_Node_upto : PySem.W.takesIn K (.ref p_Node_upto) = some true)
    (pr_Node_upto : PySem.W.recIn K p_Node_upto "property" = some (.ref f_Node_upto :: pz_Node_upto))
    (l_Node_upto : K.lookup f_Node_upto = some ⟨oc_Node_upto, od_Node_upto, .func (PySem.W.fnOf "upto" "Node.upto" (defArgs s_Node_upto) (defBody s_Node_upto) (defScope s_Node_upto) .none kV_Node_upto dc_Node_upto pm_Node_upto an_Node_upto cd_Node_upto ct_Node_upto), sl_Node_upto⟩)
    (c_Node_upto : PySem.W.codeIn K cd_Node_upto "Node.upto" = true)
    (k_Node_upto : PySem.W.keepIn K (.ref f_Node_upto) = true)
    (a_Node_members_now : PySem.W.findIn K (.ref C_Node) "members_now" = some (some (.ref p_Node_members_now)))
    (pg_Node_members_now : PySem.W.specialIn K (.ref p_Node_members_now) "__get__" = some (some (.builtin "property.__get__")))
    (pt_Node_members_now : PySem.W.takesIn K (.ref p_Node_members_now) = some true)
    (pr_Node_members_now : PySem.W.recIn K p_Node_members_now "property" = some (.ref f_Node_members_now :: pz_Node_members_now))
    (l_Node_members_now : K.lookup f_Node_members_now = some ⟨oc_Node_members_now, od_Node_members_now, .func (PySem.W.fnOf "members_now" "Node.members_now" (defArgs s_Node_members_now) (defBody s_Node_members_now) (defScope s_Node_members_now) .none kV_Node_members_now dc_Node_members_now pm_Node_members_now an_Node_members_now cd_Node_members_now ct_Node_members_now), sl_Node_members_now⟩)
    (c_Node_members_now : PySem.W.codeIn K cd_Node_members_now "Node.members_now" = true)
    (k_Node_members_now : PySem.W.keepIn K (.ref f_Node_members_now) = true)
    (a_Node_offer : PySem.W.findIn K (.ref C_Node) "offer" = some (some (.ref f_Node_offer)))
    (i_Node_offer : PySem.W.isFn K (.ref f_Node_offer) = true)
    (l_Node_offer : K.lookup f_Node_offer = some ⟨oc_Node_offer, od_Node_offer, .func (PySem.W.fnOf "offer" "Node.offer" (defArgs s_Node_offer) (defBody s_Node_offer) (defScope s_Node_offer) .none kV_Node_offer dc_Node_offer pm_Node_offer an_Node_offer cd_Node_offer ct_Node_offer), sl_Node_offer⟩)
    (c_Node_offer : PySem.W.codeIn K cd_Node_offer "Node.offer" = true)
    (k_Node_offer : PySem.W.keepIn K (.ref f_Node_offer) = true)
    (a_Node_offer_members : PySem.W.findIn K (.ref C_Node) "offer_members" = some (some (.ref f_Node_offer_members)))
    (i_Node_offer_members : PySem.W.isFn K (.ref f_Node_offer_members) = true)
    (l_Node_offer_members : K.lookup f_Node_offer_members = some ⟨oc_Node_offer_members, od_Node_offer_members, .func (PySem.W.fnOf "offer_members" "Node.offer_members" (defArgs s_Node_offer_members) (defBody s_Node_offer_members) (defScope s_Node_offer_members) .none kV_Node_offer_members dc_Node_offer_members pm_Node_offer_members an_Node_offer_members cd_Node_offer_members ct_Node_offer_members), sl_Node_offer_members⟩)
    (c_Node_offer_members : PySem.W.codeIn K cd_Node_offer_members "Node.offer_members" = true)
    (k_Node_offer_members : PySem.W.keepIn K (.ref f_Node_offer_members) = true)
    (a_Node_tick : PySem.W.findIn K (.ref C_Node) "tick" = some (some (.ref f_Node_tick)))
    (i_Node_tick : PySem.W.isFn K (.ref f_Node_tick) = true)
    (l_Node_tick : K.lookup f_Node_tick = some ⟨oc_Node_tick, od_Node_tick, .func (PySem.W.fnOf "tick" "Node.tick" (defArgs s_Node_tick) (defBody s_Node_tick) (defScope s_Node_tick) .none kV_Node_tick dc_Node_tick pm_Node_tick an_Node_tick cd_Node_tick ct_Node_tick), sl_Node_tick⟩)
    (c_Node_tick : PySem.W.codeIn K cd_Node_tick "Node.tick" = true)
    (k_Node_tick : PySem.W.keepIn K (.ref f_Node_tick) = true)
    (a_Node_sends : PySem.W.findIn K (.ref C_Node) "sends" = some (some (.ref f_Node_sends)))
    (i_Node_sends : PySem.W.isFn K (.ref f_Node_sends) = true)
    (l_Node_sends : K.lookup f_Node_sends = some ⟨oc_Node_sends, od_Node_sends, .func (PySem.W.fnOf "sends" "Node.sends" (defArgs s_Node_sends) (defBody s_Node_sends) (defScope s_Node_sends) .none kV_Node_sends dc_Node_sends pm_Node_sends an_Node_sends cd_Node_sends ct_Node_sends), sl_Node_sends⟩)
    (c_Node_sends : PySem.W.codeIn K cd_Node_sends "Node.sends" = true)
    (k_Node_sends : PySem.W.keepIn K (.ref f_Node_sends) = true)
    (a_Node_letters : PySem.W.findIn K (.ref C_Node) "letters" = some (some (.ref f_Node_letters)))
    (i_Node_letters : PySem.W.isFn K (.ref f_Node_letters) = true)
    (l_Node_letters : K.lookup f_Node_letters = some ⟨oc_Node_letters, od_Node_letters, .func (PySem.W.fnOf "letters" "Node.letters" (defArgs s_Node_letters) (defBody s_Node_letters) (defScope s_Node_letters) .none kV_Node_letters dc_Node_letters pm_Node_letters an_Node_letters cd_Node_letters ct_Node_letters), sl_Node_letters⟩)
    (c_Node_letters : PySem.W.codeIn K cd_Node_letters "Node.letters" = true)
    (k_Node_letters : PySem.W.keepIn K (.ref f_Node_letters) = true)
    (a_Node_new_votes : PySem.W.findIn K (.ref C_Node) "new_votes" = some (some (.ref f_Node_new_votes)))
    (i_Node_new_votes : PySem.W.isFn K (.ref f_Node_new_votes) = true)
    (l_Node_new_votes : K.lookup f_Node_new_votes = some ⟨oc_Node_new_votes, od_Node_new_votes, .func (PySem.W.fnOf "new_votes" "Node.new_votes" (defArgs s_Node_new_votes) (defBody s_Node_new_votes) (defScope s_Node_new_votes) .none kV_Node_new_votes dc_Node_new_votes pm_Node_new_votes an_Node_new_votes cd_Node_new_votes ct_Node_new_votes), sl_Node_new_votes⟩)
    (c_Node_new_votes : PySem.W.codeIn K cd_Node_new_votes "Node.new_votes" = true)
    (k_Node_new_votes : PySem.W.keepIn K (.ref f_Node_new_votes) = true)
    (a_Node__long_patience : PySem.W.findIn K (.ref C_Node) "_long_patience" = some (some (.ref f_Node__long_patience)))
    (i_Node__long_patience : PySem.W.isFn K (.ref f_Node__long_patience) = true)
    (l_Node__long_patience : K.lookup f_Node__long_patience = some ⟨oc_Node__long_patience, od_Node__long_patience, .func (PySem.W.fnOf "_long_patience" "Node._long_patience" (defArgs s_Node__long_patience) (defBody s_Node__long_patience) (defScope s_Node__long_patience) .none kV_Node__long_patience dc_Node__long_patience pm_Node__long_patience an_Node__long_patience cd_Node__long_patience ct_Node__long_patience), sl_Node__long_patience⟩)
    (c_Node__long_patience : PySem.W.codeIn K cd_Node__long_patience "Node._long_patience" = true)
    (k_Node__long_patience : PySem.W.keepIn K (.ref f_Node__long_patience) = true)
    (a_Node__something_waits : PySem.W.findIn K (.ref C_Node) "_something_waits" = some (some (.ref f_Node__something_waits)))
    (i_Node__something_waits : PySem.W.isFn K (.ref f_Node__something_waits) = true)
    (l_Node__something_waits : K.lookup f_Node__something_waits = some ⟨oc_Node__something_waits, od_Node__something_waits, .func (PySem.W.fnOf "_something_waits" "Node._something_waits" (defArgs s_Node__something_waits) (defBody s_Node__something_waits) (defScope s_Node__something_waits) .none kV_Node__something_waits dc_Node__something_waits pm_Node__something_waits an_Node__something_waits cd_Node__something_waits ct_Node__something_waits), sl_Node__something_waits⟩)
    (c_Node__something_waits : PySem.W.codeIn K cd_Node__something_waits "Node._something_waits" = true)
    (k_Node__something_waits : PySem.W.keepIn K (.ref f_Node__something_waits) = true)
    (a_Node__may_go_out : PySem.W.findIn K (.ref C_Node) "_may_go_out" = some (some (.ref f_Node__may_go_out)))
    (i_Node__may_go_out : PySem.W.isFn K (.ref f_Node__may_go_out) = true)
    (l_Node__may_go_out : K.lookup f_Node__may_go_out = some ⟨oc_Node__may_go_out, od_Node__may_go_out, .func (PySem.W.fnOf "_may_go_out" "Node._may_go_out" (defArgs s_Node__may_go_out) (defBody s_Node__may_go_out) (defScope s_Node__may_go_out) .none kV_Node__may_go_out dc_Node__may_go_out pm_Node__may_go_out an_Node__may_go_out cd_Node__may_go_out ct_Node__may_go_out), sl_Node__may_go_out⟩)
    (c_Node__may_go_out : PySem.W.codeIn K cd_Node__may_go_out "Node._may_go_out" = true)
    (k_Node__may_go_out : PySem.W.keepIn K (.ref f_Node__may_go_out) = true)
    (a_Node__end_step : PySem.W.findIn K (.ref C_Node) "_end_step" = some (some (.ref f_Node__end_step)))
    (i_Node__end_step : PySem.W.isFn K (.ref f_Node__end_step) = true)
    (l_Node__end_step : K.lookup f_Node__end_step = some ⟨oc_Node__end_step, od_Node__end_step, .func (PySem.W.fnOf "_end_step" "Node._end_step" (defArgs s_Node__end_step) (defBody s_Node__end_step) (defScope s_Node__end_step) .none kV_Node__end_step dc_Node__end_step pm_Node__end_step an_Node__end_step cd_Node__end_step ct_Node__end_step), sl_Node__end_step⟩)
    (c_Node__end_step : PySem.W.codeIn K cd_Node__end_step "Node._end_step" = true)
    (k_Node__end_step : PySem.W.keepIn K (.ref f_Node__end_step) = true)
    (a_Node__note : PySem.W.findIn K (.ref C_Node) "_note" = some (some (.ref f_Node__note)))
    (i_Node__note : PySem.W.isFn K (.ref f_Node__note) = true)
    (l_Node__note : K.lookup f_Node__note = some ⟨oc_Node__note, od_Node__note, .func (PySem.W.fnOf "_note" "Node._note" (defArgs s_Node__note) (defBody s_Node__note) (defScope s_Node__note) .none kV_Node__note dc_Node__note pm_Node__note an_Node__note cd_Node__note ct_Node__note), sl_Node__note⟩)
    (c_Node__note : PySem.W.codeIn K cd_Node__note "Node._note" = true)
    (k_Node__note : PySem.W.keepIn K (.ref f_Node__note) = true)
    (a_Node__send : PySem.W.findIn K (.ref C_Node) "_send" = some (some (.ref f_Node__send)))
    (i_Node__send : PySem.W.isFn K (.ref f_Node__send) = true)
    (l_Node__send : K.lookup f_Node__send = some ⟨oc_Node__send, od_Node__send, .func (PySem.W.fnOf "_send" "Node._send" (defArgs s_Node__send) (defBody s_Node__send) (defScope s_Node__send) .none kV_Node__send dc_Node__send pm_Node__send an_Node__send cd_Node__send ct_Node__send), sl_Node__send⟩)
    (c_Node__send : PySem.W.codeIn K cd_Node__send "Node._send" = true)
    (k_Node__send : PySem.W.keepIn K (.ref f_Node__send) = true)
    (a_Node__send_to_all : PySem.W.findIn K (.ref C_Node) "_send_to_all" = some (some (.ref f_Node__send_to_all)))
    (i_Node__send_to_all : PySem.W.isFn K (.ref f_Node__send_to_all) = true)
    (l_Node__send_to_all : K.lookup f_Node__send_to_all = some ⟨oc_Node__send_to_all, od_Node__send_to_all, .func (PySem.W.fnOf "_send_to_all" "Node._send_to_all" (defArgs s_Node__send_to_all) (defBody s_Node__send_to_all) (defScope s_Node__send_to_all) .none kV_Node__send_to_all dc_Node__send_to_all pm_Node__send_to_all an_Node__send_to_all cd_Node__send_to_all ct_Node__send_to_all), sl_Node__send_to_all⟩)
    (c_Node__send_to_all : PySem.W.codeIn K cd_Node__send_to_all "Node._send_to_all" = true)
    (k_Node__send_to_all : PySem.W.keepIn K (.ref f_Node__send_to_all) = true)
    (a_Node__send_to_others : PySem.W.findIn K (.ref C_Node) "_send_to_others" = some (some (.ref f_Node__send_to_others)))
    (i_Node__send_to_others : PySem.W.isFn K (.ref f_Node__send_to_others) = true)
    (l_Node__send_to_others : K.lookup f_Node__send_to_others = some ⟨oc_Node__send_to_others, od_Node__send_to_others, .func (PySem.W.fnOf "_send_to_others" "Node._send_to_others" (defArgs s_Node__send_to_others) (defBody s_Node__send_to_others) (defScope s_Node__send_to_others) .none kV_Node__send_to_others dc_Node__send_to_others pm_Node__send_to_others an_Node__send_to_others cd_Node__send_to_others ct_Node__send_to_others), sl_Node__send_to_others⟩)
    (c_Node__send_to_others : PySem.W.codeIn K cd_Node__send_to_others "Node._send_to_others" = true)
    (k_Node__send_to_others : PySem.W.keepIn K (.ref f_Node__send_to_others) = true)
    (a_Node__begin_if_free : PySem.W.findIn K (.ref C_Node) "_begin_if_free" = some (some (.ref f_Node__begin_if_free)))
    (i_Node__begin_if_free : PySem.W.isFn K (.ref f_Node__begin_if_free) = true)
    (l_Node__begin_if_free : K.lookup f_Node__begin_if_free = some ⟨oc_Node__begin_if_free, od_Node__begin_if_free, .func (PySem.W.fnOf "_begin_if_free" "Node._begin_if_free" (defArgs s_Node__begin_if_free) (defBody s_Node__begin_if_free) (defScope s_Node__begin_if_free) .none kV_Node__begin_if_free dc_Node__begin_if_free pm_Node__begin_if_free an_Node__begin_if_free cd_Node__begin_if_free ct_Node__begin_if_free), sl_Node__begin_if_free⟩)
    (c_Node__begin_if_free : PySem.W.codeIn K cd_Node__begin_if_free "Node._begin_if_free" = true)
    (k_Node__begin_if_free : PySem.W.keepIn K (.ref f_Node__begin_if_free) = true)
    (a_Node__begin : PySem.W.findIn K (.ref C_Node) "_begin" = some (some (.ref f_Node__begin)))
    (i_Node__begin : PySem.W.isFn K (.ref f_Node__begin) = true)
    (l_Node__begin : K.lookup f_Node__begin = some ⟨oc_Node__begin, od_Node__begin, .func (PySem.W.fnOf "_begin" "Node._begin" (defArgs s_Node__begin) (defBody s_Node__begin) (defScope s_Node__begin) .none kV_Node__begin dc_Node__begin pm_Node__begin an_Node__begin cd_Node__begin ct_Node__begin), sl_Node__begin⟩)
    (c_Node__begin : PySem.W.codeIn K cd_Node__begin "Node._begin" = true)
    (k_Node__begin : PySem.W.keepIn K (.ref f_Node__begin) = true)
    (a_Diary___init__ : PySem.W.findIn K (.ref C_Diary) "__init__" = some (some (.ref f_Diary___init__)))
    (i_Diary___init__ : PySem.W.isFn K (.ref f_Diary___init__) = true)
    (l_Diary___init__ : K.lookup f_Diary___init__ = some ⟨oc_Diary___init__, od_Diary___init__, .func (PySem.W.fnOf "__init__" "Diary.__init__" (defArgs s_Diary___init__) (defBody s_Diary___init__) (defScope s_Diary___init__) .none kV_Diary___init__ dc_Diary___init__ pm_Diary___init__ an_Diary___init__ cd_Diary___init__ ct_Diary___init__), sl_Diary___init__⟩)
    (c_Diary___init__ : PySem.W.codeIn K cd_Diary___init__ "Diary.__init__" = true)
    (k_Diary___init__ : PySem.W.keepIn K (.ref f_Diary___init__) = true)
    (a_Diary_settled : PySem.W.findIn K (.ref C_Diary) "settled" = some (some (.ref f_Diary_settled)))
    (i_Diary_settled : PySem.W.isFn K (.ref f_Diary_settled) = true)
    (l_Diary_settled : K.lookup f_Diary_settled = some ⟨oc_Diary_settled, od_Diary_settled, .func (PySem.W.fnOf "settled" "Diary.settled" (defArgs s_Diary_settled) (defBody s_Diary_settled) (defScope s_Diary_settled) .none kV_Diary_settled dc_Diary_settled pm_Diary_settled an_Diary_settled cd_Diary_settled ct_Diary_settled), sl_Diary_settled⟩)
    (c_Diary_settled : PySem.W.codeIn K cd_Diary_settled "Diary.settled" = true)
    (k_Diary_settled : PySem.W.keepIn K (.ref f_Diary_settled) = true)
    (a__law_row : PySem.W.nsIn K mainGlobals "_law_row" = some (some (.ref f__law_row)))
    (l__law_row : K.lookup f__law_row = some ⟨oc__law_row, od__law_row, .func (PySem.W.fnOf "_law_row" "_law_row" (defArgs s__law_row) (defBody s__law_row) (defScope s__law_row) .none kV__law_row dc__law_row pm__law_row an__law_row cd__law_row ct__law_row), sl__law_row⟩)
    (c__law_row : PySem.W.codeIn K cd__law_row "_law_row" = true)
    (k__law_row : PySem.W.keepIn K (.ref f__law_row) = true)
    (a__law_take : PySem.W.nsIn K mainGlobals "_law_take" = some (some (.ref f__law_take)))
    (l__law_take : K.lookup f__law_take = some ⟨oc__law_take, od__law_take, .func (PySem.W.fnOf "_law_take" "_law_take" (defArgs s__law_take) (defBody s__law_take) (defScope s__law_take) .none kV__law_take dc__law_take pm__law_take an__law_take cd__law_take ct__law_take), sl__law_take⟩)
    (c__law_take : PySem.W.codeIn K cd__law_take "_law_take" = true)
    (k__law_take : PySem.W.keepIn K (.ref f__law_take) = true)
    (a__law_new : PySem.W.nsIn K mainGlobals "_law_new" = some (some (.ref f__law_new)))
    (l__law_new : K.lookup f__law_new = some ⟨oc__law_new, od__law_new, .func (PySem.W.fnOf "_law_new" "_law_new" (defArgs s__law_new) (defBody s__law_new) (defScope s__law_new) .none kV__law_new dc__law_new pm__law_new an__law_new cd__law_new ct__law_new), sl__law_new⟩)
    (c__law_new : PySem.W.codeIn K cd__law_new "_law_new" = true)
    (k__law_new : PySem.W.keepIn K (.ref f__law_new) = true)
    (a__law_forget : PySem.W.nsIn K mainGlobals "_law_forget" = some (some (.ref f__law_forget)))
    (l__law_forget : K.lookup f__law_forget = some ⟨oc__law_forget, od__law_forget, .func (PySem.W.fnOf "_law_forget" "_law_forget" (defArgs s__law_forget) (defBody s__law_forget) (defScope s__law_forget) .none kV__law_forget dc__law_forget pm__law_forget an__law_forget cd__law_forget ct__law_forget), sl__law_forget⟩)
    (c__law_forget : PySem.W.codeIn K cd__law_forget "_law_forget" = true)
    (k__law_forget : PySem.W.keepIn K (.ref f__law_forget) = true)
    (a__law_members_of : PySem.W.nsIn K mainGlobals "_law_members_of" = some (some (.ref f__law_members_of)))
    (l__law_members_of : K.lookup f__law_members_of = some ⟨oc__law_members_of, od__law_members_of, .func (PySem.W.fnOf "_law_members_of" "_law_members_of" (defArgs s__law_members_of) (defBody s__law_members_of) (defScope s__law_members_of) .none kV__law_members_of dc__law_members_of pm__law_members_of an__law_members_of cd__law_members_of ct__law_members_of), sl__law_members_of⟩)
    (c__law_members_of : PySem.W.codeIn K cd__law_members_of "_law_members_of" = true)
    (k__law_members_of : PySem.W.keepIn K (.ref f__law_members_of) = true)
    (a__law_do : PySem.W.nsIn K mainGlobals "_law_do" = some (some (.ref f__law_do)))
    (l__law_do : K.lookup f__law_do = some ⟨oc__law_do, od__law_do, .func (PySem.W.fnOf "_law_do" "_law_do" (defArgs s__law_do) (defBody s__law_do) (defScope s__law_do) .none kV__law_do dc__law_do pm__law_do an__law_do cd__law_do ct__law_do), sl__law_do⟩)
    (c__law_do : PySem.W.codeIn K cd__law_do "_law_do" = true)
    (k__law_do : PySem.W.keepIn K (.ref f__law_do) = true)
    (a__law_note : PySem.W.nsIn K mainGlobals "_law_note" = some (some (.ref f__law_note)))
    (l__law_note : K.lookup f__law_note = some ⟨oc__law_note, od__law_note, .func (PySem.W.fnOf "_law_note" "_law_note" (defArgs s__law_note) (defBody s__law_note) (defScope s__law_note) .none kV__law_note dc__law_note pm__law_note an__law_note cd__law_note ct__law_note), sl__law_note⟩)
    (c__law_note : PySem.W.codeIn K cd__law_note "_law_note" = true)
    (k__law_note : PySem.W.keepIn K (.ref f__law_note) = true)
    (a__law_post : PySem.W.nsIn K mainGlobals "_law_post" = some (some (.ref f__law_post)))
    (l__law_post : K.lookup f__law_post = some ⟨oc__law_post, od__law_post, .func (PySem.W.fnOf "_law_post" "_law_post" (defArgs s__law_post) (defBody s__law_post) (defScope s__law_post) .none kV__law_post dc__law_post pm__law_post an__law_post cd__law_post ct__law_post), sl__law_post⟩)
    (c__law_post : PySem.W.codeIn K cd__law_post "_law_post" = true)
    (k__law_post : PySem.W.keepIn K (.ref f__law_post) = true)
    (a__law_all : PySem.W.nsIn K mainGlobals "_law_all" = some (some (.ref f__law_all)))
    (l__law_all : K.lookup f__law_all = some ⟨oc__law_all, od__law_all, .func (PySem.W.fnOf "_law_all" "_law_all" (defArgs s__law_all) (defBody s__law_all) (defScope s__law_all) .none kV__law_all dc__law_all pm__law_all an__law_all cd__law_all ct__law_all), sl__law_all⟩)
    (c__law_all : PySem.W.codeIn K cd__law_all "_law_all" = true)
    (k__law_all : PySem.W.keepIn K (.ref f__law_all) = true)
    (a__law_others : PySem.W.nsIn K mainGlobals "_law_others" = some (some (.ref f__law_others)))
    (l__law_others : K.lookup f__law_others = some ⟨oc__law_others, od__law_others, .func (PySem.W.fnOf "_law_others" "_law_others" (defArgs s__law_others) (defBody s__law_others) (defScope s__law_others) .none kV__law_others dc__law_others pm__law_others an__law_others cd__law_others ct__law_others), sl__law_others⟩)
    (c__law_others : PySem.W.codeIn K cd__law_others "_law_others" = true)
    (k__law_others : PySem.W.keepIn K (.ref f__law_others) = true)
    (a__law_wishes : PySem.W.nsIn K mainGlobals "_law_wishes" = some (some (.ref f__law_wishes)))
    (l__law_wishes : K.lookup f__law_wishes = some ⟨oc__law_wishes, od__law_wishes, .func (PySem.W.fnOf "_law_wishes" "_law_wishes" (defArgs s__law_wishes) (defBody s__law_wishes) (defScope s__law_wishes) .none kV__law_wishes dc__law_wishes pm__law_wishes an__law_wishes cd__law_wishes ct__law_wishes), sl__law_wishes⟩)
    (c__law_wishes : PySem.W.codeIn K cd__law_wishes "_law_wishes" = true)
    (k__law_wishes : PySem.W.keepIn K (.ref f__law_wishes) = true)
    (a__law_begin : PySem.W.nsIn K mainGlobals "_law_begin" = some (some (.ref f__law_begin)))
    (l__law_begin : K.lookup f__law_begin = some ⟨oc__law_begin, od__law_begin, .func (PySem.W.fnOf "_law_begin" "_law_begin" (defArgs s__law_begin) (defBody s__law_begin) (defScope s__law_begin) .none kV__law_begin dc__law_begin pm__law_begin an__law_begin cd__law_begin ct__law_begin), sl__law_begin⟩)
    (c__law_begin : PySem.W.codeIn K cd__law_begin "_law_begin" = true)
    (k__law_begin : PySem.W.keepIn K (.ref f__law_begin) = true)
    (a__law_offer : PySem.W.nsIn K mainGlobals "_law_offer" = some (some (.ref f__law_offer)))
    (l__law_offer : K.lookup f__law_offer = some ⟨oc__law_offer, od__law_offer, .func (PySem.W.fnOf "_law_offer" "_law_offer" (defArgs s__law_offer) (defBody s__law_offer) (defScope s__law_offer) .none kV__law_offer dc__law_offer pm__law_offer an__law_offer cd__law_offer ct__law_offer), sl__law_offer⟩)
    (c__law_offer : PySem.W.codeIn K cd__law_offer "_law_offer" = true)
    (k__law_offer : PySem.W.keepIn K (.ref f__law_offer) = true)
    (a__law_offer_members : PySem.W.nsIn K mainGlobals "_law_offer_members" = some (some (.ref f__law_offer_members)))
    (l__law_offer_members : K.lookup f__law_offer_members = some ⟨oc__law_offer_members, od__law_offer_members, .func (PySem.W.fnOf "_law_offer_members" "_law_offer_members" (defArgs s__law_offer_members) (defBody s__law_offer_members) (defScope s__law_offer_members) .none kV__law_offer_members dc__law_offer_members pm__law_offer_members an__law_offer_members cd__law_offer_members ct__law_offer_members), sl__law_offer_members⟩)
    (c__law_offer_members : PySem.W.codeIn K cd__law_offer_members "_law_offer_members" = true)
    (k__law_offer_members : PySem.W.keepIn K (.ref f__law_offer_members) = true)
    (a__law_end : PySem.W.nsIn K mainGlobals "_law_end" = some (some (.ref f__law_end)))
    (l__law_end : K.lookup f__law_end = some ⟨oc__law_end, od__law_end, .func (PySem.W.fnOf "_law_end" "_law_end" (defArgs s__law_end) (defBody s__law_end) (defScope s__law_end) .none kV__law_end dc__law_end pm__law_end an__law_end cd__law_end ct__law_end), sl__law_end⟩)
    (c__law_end : PySem.W.codeIn K cd__law_end "_law_end" = true)
    (k__law_end : PySem.W.keepIn K (.ref f__law_end) = true)
    (a__law_attempt_agrees : PySem.W.nsIn K mainGlobals "_law_attempt_agrees" = some (some (.ref f__law_attempt_agrees)))
    (l__law_attempt_agrees : K.lookup f__law_attempt_agrees = some ⟨oc__law_attempt_agrees, od__law_attempt_agrees, .func (PySem.W.fnOf "_law_attempt_agrees" "_law_attempt_agrees" (defArgs s__law_attempt_agrees) (defBody s__law_attempt_agrees) (defScope s__law_attempt_agrees) .none kV__law_attempt_agrees dc__law_attempt_agrees pm__law_attempt_agrees an__law_attempt_agrees cd__law_attempt_agrees ct__law_attempt_agrees), sl__law_attempt_agrees⟩)
    (c__law_attempt_agrees : PySem.W.codeIn K cd__law_attempt_agrees "_law_attempt_agrees" = true)
    (k__law_attempt_agrees : PySem.W.keepIn K (.ref f__law_attempt_agrees) = true)
    (a__law_agrees : PySem.W.nsIn K mainGlobals "_law_agrees" = some (some (.ref f__law_agrees)))
    (l__law_agrees : K.lookup f__law_agrees = some ⟨oc__law_agrees, od__law_agrees, .func (PySem.W.fnOf "_law_agrees" "_law_agrees" (defArgs s__law_agrees) (defBody s__law_agrees) (defScope s__law_agrees) .none kV__law_agrees dc__law_agrees pm__law_agrees an__law_agrees cd__law_agrees ct__law_agrees), sl__law_agrees⟩)
    (c__law_agrees : PySem.W.codeIn K cd__law_agrees "_law_agrees" = true)
    (k__law_agrees : PySem.W.keepIn K (.ref f__law_agrees) = true)
    (a__law_said : PySem.W.nsIn K mainGlobals "_law_said" = some (some (.ref f__law_said)))
    (l__law_said : K.lookup f__law_said = some ⟨oc__law_said, od__law_said, .func (PySem.W.fnOf "_law_said" "_law_said" (defArgs s__law_said) (defBody s__law_said) (defScope s__law_said) .none kV__law_said dc__law_said pm__law_said an__law_said cd__law_said ct__law_said), sl__law_said⟩)
    (c__law_said : PySem.W.codeIn K cd__law_said "_law_said" = true)
    (k__law_said : PySem.W.keepIn K (.ref f__law_said) = true)
    (a__law_some_members : PySem.W.nsIn K mainGlobals "_law_some_members" = some (some (.ref f__law_some_members)))
    (l__law_some_members : K.lookup f__law_some_members = some ⟨oc__law_some_members, od__law_some_members, .func (PySem.W.fnOf "_law_some_members" "_law_some_members" (defArgs s__law_some_members) (defBody s__law_some_members) (defScope s__law_some_members) .none kV__law_some_members dc__law_some_members pm__law_some_members an__law_some_members cd__law_some_members ct__law_some_members), sl__law_some_members⟩)
    (c__law_some_members : PySem.W.codeIn K cd__law_some_members "_law_some_members" = true)
    (k__law_some_members : PySem.W.keepIn K (.ref f__law_some_members) = true)
    (a__law_make : PySem.W.nsIn K mainGlobals "_law_make" = some (some (.ref f__law_make)))
    (l__law_make : K.lookup f__law_make = some ⟨oc__law_make, od__law_make, .func (PySem.W.fnOf "_law_make" "_law_make" (defArgs s__law_make) (defBody s__law_make) (defScope s__law_make) .none kV__law_make dc__law_make pm__law_make an__law_make cd__law_make ct__law_make), sl__law_make⟩)
    (c__law_make : PySem.W.codeIn K cd__law_make "_law_make" = true)
    (k__law_make : PySem.W.keepIn K (.ref f__law_make) = true)
    (a__law_start : PySem.W.nsIn K mainGlobals "_law_start" = some (some (.ref f__law_start)))
    (l__law_start : K.lookup f__law_start = some ⟨oc__law_start, od__law_start, .func (PySem.W.fnOf "_law_start" "_law_start" (defArgs s__law_start) (defBody s__law_start) (defScope s__law_start) .none kV__law_start dc__law_start pm__law_start an__law_start cd__law_start ct__law_start), sl__law_start⟩)
    (c__law_start : PySem.W.codeIn K cd__law_start "_law_start" = true)
    (k__law_start : PySem.W.keepIn K (.ref f__law_start) = true)
    (a__law_tick : PySem.W.nsIn K mainGlobals "_law_tick" = some (some (.ref f__law_tick)))
    (l__law_tick : K.lookup f__law_tick = some ⟨oc__law_tick, od__law_tick, .func (PySem.W.fnOf "_law_tick" "_law_tick" (defArgs s__law_tick) (defBody s__law_tick) (defScope s__law_tick) .none kV__law_tick dc__law_tick pm__law_tick an__law_tick cd__law_tick ct__law_tick), sl__law_tick⟩)
    (c__law_tick : PySem.W.codeIn K cd__law_tick "_law_tick" = true)
    (k__law_tick : PySem.W.keepIn K (.ref f__law_tick) = true)
    (a__law_deed : PySem.W.nsIn K mainGlobals "_law_deed" = some (some (.ref f__law_deed)))
    (l__law_deed : K.lookup f__law_deed = some ⟨oc__law_deed, od__law_deed, .func (PySem.W.fnOf "_law_deed" "_law_deed" (defArgs s__law_deed) (defBody s__law_deed) (defScope s__law_deed) .none kV__law_deed dc__law_deed pm__law_deed an__law_deed cd__law_deed ct__law_deed), sl__law_deed⟩)
    (c__law_deed : PySem.W.codeIn K cd__law_deed "_law_deed" = true)
    (k__law_deed : PySem.W.keepIn K (.ref f__law_deed) = true)
    (a_law : PySem.W.nsIn K mainGlobals "law" = some (some (.ref f_law)))
    (l_law : K.lookup f_law = some ⟨oc_law, od_law, .func (PySem.W.fnOf "law" "law" (defArgs s_law) (defBody s_law) (defScope s_law) .none kV_law dc_law pm_law an_law cd_law ct_law), sl_law⟩)
    (c_law : PySem.W.codeIn K cd_law "law" = true)
    (k_law : PySem.W.keepIn K (.ref f_law) = true)
    (z_ACCEPT : PySem.W.nsIn K mainGlobals "ACCEPT" = some (some (.str "accept" t_ACCEPT)))
    (z_ASKING : PySem.W.nsIn K mainGlobals "ASKING" = some (some (.str "asking" t_ASKING)))
    (z_BATCH : PySem.W.nsIn K mainGlobals "BATCH" = some (some (.str "batch" t_BATCH)))
    (z_BELOW_ZERO : PySem.W.nsIn K mainGlobals "BELOW_ZERO" = some (some (.int 2 t_BELOW_ZERO)))
    (z_CHOSEN : PySem.W.nsIn K mainGlobals "CHOSEN" = some (some (.str "chosen" t_CHOSEN)))
    (z_FRAME_HEAD : PySem.W.nsIn K mainGlobals "FRAME_HEAD" = some (some (.int 6 t_FRAME_HEAD)))
    (z_FROM_ZERO : PySem.W.nsIn K mainGlobals "FROM_ZERO" = some (some (.int 1 t_FROM_ZERO)))
    (z_HIGH_SIGNS : PySem.W.nsIn K mainGlobals "HIGH_SIGNS" = some (some (.str "&'()*+,-./0123456789:;<=>?@ABCDEFGHIJKLMNOPQRSTUVWXYZ[\\]^_`abcdefghijklmnopqrstuvwxyz{|}~" t_HIGH_SIGNS)))
    (z_LONG_PATIENCE : PySem.W.nsIn K mainGlobals "LONG_PATIENCE" = some (some (.int 6 t_LONG_PATIENCE)))
    (z_LOW_SIGNS : PySem.W.nsIn K mainGlobals "LOW_SIGNS" = some (some (.str " !\"#$" t_LOW_SIGNS)))
    (z_MEMBERS : PySem.W.nsIn K mainGlobals "MEMBERS" = some (some (.str "members" t_MEMBERS)))
    (z_MOST_BATCH : PySem.W.nsIn K mainGlobals "MOST_BATCH" = some (some (.int 8 t_MOST_BATCH)))
    (z_MOST_DEPTH : PySem.W.nsIn K mainGlobals "MOST_DEPTH" = some (some (.int 40 t_MOST_DEPTH)))
    (z_MOST_INTEGER : PySem.W.nsIn K mainGlobals "MOST_INTEGER" = some (some (.int 1000000000000000000 t_MOST_INTEGER)))
    (z_MOST_ROUND : PySem.W.nsIn K mainGlobals "MOST_ROUND" = some (some (.int 9999 t_MOST_ROUND)))
    (z_MOST_WAITING : PySem.W.nsIn K mainGlobals "MOST_WAITING" = some (some (.int 16 t_MOST_WAITING)))
    (z_NOTHING : PySem.W.nsIn K mainGlobals "NOTHING" = some (some (.int 0 t_NOTHING)))
    (z_NO_BALLOT : PySem.W.nsIn K mainGlobals "NO_BALLOT" = some (some (.ref a_NO_BALLOT)))
    (zl_NO_BALLOT : K.lookup a_NO_BALLOT = some ⟨.type "tuple", dn_NB, .seq #[.int 0 t_NB1, .int 0 t_NB2] n_NB, sl_NB⟩)
    (z_PROMISE : PySem.W.nsIn K mainGlobals "PROMISE" = some (some (.str "promise" t_PROMISE)))
    (z_TEXT : PySem.W.nsIn K mainGlobals "TEXT" = some (some (.int 3 t_TEXT)))
    (z_TUPLE : PySem.W.nsIn K mainGlobals "TUPLE" = some (some (.int 4 t_TUPLE)))
    (z_UP : PySem.W.nsIn K mainGlobals "UP" = some (some (.str "up" t_UP)))
    (lT_Acceptor___init__ : K.lookup dT_Acceptor___init__ = some ⟨.type "tuple", dn_Acceptor___init__, .seq #[.ref a_NO_BALLOT, .none] nd_Acceptor___init__, sd_Acceptor___init__⟩)
    (z_any : PySem.W.nsIn K mainGlobals "any" = some none)
    (z_bool : PySem.W.nsIn K mainGlobals "bool" = some none)
    (z_int : PySem.W.nsIn K mainGlobals "int" = some none)
    (z_isinstance : PySem.W.nsIn K mainGlobals "isinstance" = some none)
    (z_len : PySem.W.nsIn K mainGlobals "len" = some none)
    (z_list : PySem.W.nsIn K mainGlobals "list" = some none)
    (z_max : PySem.W.nsIn K mainGlobals "max" = some none)
    (z_ord : PySem.W.nsIn K mainGlobals "ord" = some none)
    (z_range : PySem.W.nsIn K mainGlobals "range" = some none)
    (z_reversed : PySem.W.nsIn K mainGlobals "reversed" = some none)
    (z_str : PySem.W.nsIn K mainGlobals "str" = some none)
    (z_tuple : PySem.W.nsIn K mainGlobals "tuple" = some none)
    : ∃ fd : FuncData, (∀ (s : Shared) (v : Value), BindsTo s fd ⟨[v], []⟩ [("script", v)]) ∧ ∀ base : Heap, K.In base → base.Ns mainGlobals mg → FnOk l.prog w K mg base CX0 90 fa fd ["script"] (sp_law K) := by
  have e := hfa.symm.trans (PySem.W.mg_of X G a_law)
  cases e
  have F_Journal___init__ := fun_mk (st := s_Journal___init__) l_Journal___init__ c_Journal___init__ k_Journal___init__
  have b_Journal___init__ := F_Journal___init__.binds (ps := ["self"]) fun _ _ _ _ _ _ us hl => match us, hl with | [_], _ => rfl
  have F_Journal_frame_count := fun_mk (st := s_Journal_frame_count) l_Journal_frame_count c_Journal_frame_count k_Journal_frame_count
  have b_Journal_frame_count := F_Journal_frame_count.binds (ps := ["self"]) fun _ _ _ _ _ _ us hl => match us, hl with | [_], _ => rfl
  have F_Journal_synced_frames := fun_mk (st := s_Journal_synced_frames) l_Journal_synced_frames c_Journal_synced_frames k_Journal_synced_frames
  have b_Journal_synced_frames := F_Journal_synced_frames.binds (ps := ["self"]) fun _ _ _ _ _ _ us hl => match us, hl with | [_], _ => rfl
  have F_Journal_append := fun_mk (st := s_Journal_append) l_Journal_append c_Journal_append k_Journal_append
  have b_Journal_append := F_Journal_append.binds (ps := ["self", "payload"]) fun _ _ _ _ _ _ us hl => match us, hl with | [_, _], _ => rfl
  have F_Journal_sync := fun_mk (st := s_Journal_sync) l_Journal_sync c_Journal_sync k_Journal_sync
  have b_Journal_sync := F_Journal_sync.binds (ps := ["self"]) fun _ _ _ _ _ _ us hl => match us, hl with | [_], _ => rfl
  have F_Journal_payloads := fun_mk (st := s_Journal_payloads) l_Journal_payloads c_Journal_payloads k_Journal_payloads
  have b_Journal_payloads := F_Journal_payloads.binds (ps := ["self"]) fun _ _ _ _ _ _ us hl => match us, hl with | [_], _ => rfl
  have F_members_of_slot := fun_mk (st := s_members_of_slot) l_members_of_slot c_members_of_slot k_members_of_slot
  have b_members_of_slot := F_members_of_slot.binds (ps := ["first_members", "row", "slot"]) fun _ _ _ _ _ _ us hl => match us, hl with | [_, _, _], _ => rfl
  have F_batch_of := fun_mk (st := s_batch_of) l_batch_of c_batch_of k_batch_of
  have b_batch_of := F_batch_of.binds (ps := ["commands"]) fun _ _ _ _ _ _ us hl => match us, hl with | [_], _ => rfl
  have F_sign_of := fun_mk (st := s_sign_of) l_sign_of c_sign_of k_sign_of
  have b_sign_of := F_sign_of.binds (ps := ["code"]) fun _ _ _ _ _ _ us hl => match us, hl with | [_], _ => rfl
  have F_pack := fun_mk (st := s_pack) l_pack c_pack k_pack
  have b_pack := F_pack.binds (ps := ["data"]) fun _ _ _ _ _ _ us hl => match us, hl with | [_], _ => rfl
  have F__add_data := fun_mk (st := s__add_data) l__add_data c__add_data k__add_data
  have b__add_data := F__add_data.binds (ps := ["octets", "data"]) fun _ _ _ _ _ _ us hl => match us, hl with | [_, _], _ => rfl
  have F__add_integer := fun_mk (st := s__add_integer) l__add_integer c__add_integer k__add_integer
  have b__add_integer := F__add_integer.binds (ps := ["octets", "number"]) fun _ _ _ _ _ _ us hl => match us, hl with | [_, _], _ => rfl
  have F__add_sevens := fun_mk (st := s__add_sevens) l__add_sevens c__add_sevens k__add_sevens
  have b__add_sevens := F__add_sevens.binds (ps := ["octets", "number"]) fun _ _ _ _ _ _ us hl => match us, hl with | [_, _], _ => rfl
  have F_unpack := fun_mk (st := s_unpack) l_unpack c_unpack k_unpack
  have b_unpack := F_unpack.binds (ps := ["octets"]) fun _ _ _ _ _ _ us hl => match us, hl with | [_], _ => rfl
  have F__read_whole := fun_mk (st := s__read_whole) l__read_whole c__read_whole k__read_whole
  have b__read_whole := F__read_whole.binds (ps := ["octets", "room"]) fun _ _ _ _ _ _ us hl => match us, hl with | [_, _], _ => rfl
  have F__has_great_integer := fun_mk (st := s__has_great_integer) l__has_great_integer c__has_great_integer k__has_great_integer
  have b__has_great_integer := F__has_great_integer.binds (ps := ["data"]) fun _ _ _ _ _ _ us hl => match us, hl with | [_], _ => rfl
  have F__read_data := fun_mk (st := s__read_data) l__read_data c__read_data k__read_data
  have b__read_data := F__read_data.binds (ps := ["octets", "at", "room"]) fun _ _ _ _ _ _ us hl => match us, hl with | [_, _, _], _ => rfl
  have F__read_integer := fun_mk (st := s__read_integer) l__read_integer c__read_integer k__read_integer
  have b__read_integer := F__read_integer.binds (ps := ["octets", "at"]) fun _ _ _ _ _ _ us hl => match us, hl with | [_, _], _ => rfl
  have F__read_text := fun_mk (st := s__read_text) l__read_text c__read_text k__read_text
  have b__read_text := F__read_text.binds (ps := ["octets", "at"]) fun _ _ _ _ _ _ us hl => match us, hl with | [_, _], _ => rfl
  have F__read_tuple := fun_mk (st := s__read_tuple) l__read_tuple c__read_tuple k__read_tuple
  have b__read_tuple := F__read_tuple.binds (ps := ["octets", "at", "room"]) fun _ _ _ _ _ _ us hl => match us, hl with | [_, _, _], _ => rfl
  have F__read_sevens := fun_mk (st := s__read_sevens) l__read_sevens c__read_sevens k__read_sevens
  have b__read_sevens := F__read_sevens.binds (ps := ["octets", "at"]) fun _ _ _ _ _ _ us hl => match us, hl with | [_, _], _ => rfl
  have F__octet_at := fun_mk (st := s__octet_at) l__octet_at c__octet_at k__octet_at
  have b__octet_at := F__octet_at.binds (ps := ["octets", "at"]) fun _ _ _ _ _ _ us hl => match us, hl with | [_, _], _ => rfl
  have F_next_ballot := fun_mk (st := s_next_ballot) l_next_ballot c_next_ballot k_next_ballot
  have b_next_ballot := F_next_ballot.binds (ps := ["after", "index"]) fun _ _ _ _ _ _ us hl => match us, hl with | [_, _], _ => rfl
  have F_Acceptor___init__ := Xk.funD_mk (st := s_Acceptor___init__) (dvs := [.ref a_NO_BALLOT, .non]) l_Acceptor___init__ c_Acceptor___init__ k_Acceptor___init__ (by simp) lT_Acceptor___init__ rfl (its := [.ref a_NO_BALLOT, .none]) (.cons rfl (.cons rfl Paired.nil))
  obtain ⟨D0_Acceptor___init__, V0_Acceptor___init__, b0_Acceptor___init__⟩ := F_Acceptor___init__.binds1 (ps := ["self", "promised", "accepted"]) 1 0 (by simp) rfl fun _ _ _ _ _ _ _ us its h1 h2 => match us, h1, its, h2 with | [_], _, [_, _], _ => ⟨_, rfl, rfl⟩
  obtain ⟨D1_Acceptor___init__, V1_Acceptor___init__, b1_Acceptor___init__⟩ := F_Acceptor___init__.binds1 (ps := ["self", "promised", "accepted"]) 2 1 (by simp) rfl fun _ _ _ _ _ _ _ us its h1 h2 => match us, h1, its, h2 with | [_, _], _, [_, _], _ => ⟨_, rfl, rfl⟩
  obtain ⟨D2_Acceptor___init__, V2_Acceptor___init__, b2_Acceptor___init__⟩ := F_Acceptor___init__.binds1 (ps := ["self", "promised", "accepted"]) 3 2 (by simp) rfl fun _ _ _ _ _ _ _ us its h1 h2 => match us, h1, its, h2 with | [_, _, _], _, [_, _], _ => ⟨_, rfl, rfl⟩
  have F_Acceptor_promise := fun_mk (st := s_Acceptor_promise) l_Acceptor_promise c_Acceptor_promise k_Acceptor_promise
  have b_Acceptor_promise := F_Acceptor_promise.binds (ps := ["self", "ballot"]) fun _ _ _ _ _ _ us hl => match us, hl with | [_, _], _ => rfl
  have F_Acceptor_accept := fun_mk (st := s_Acceptor_accept) l_Acceptor_accept c_Acceptor_accept k_Acceptor_accept
  have b_Acceptor_accept := F_Acceptor_accept.binds (ps := ["self", "ballot", "entry"]) fun _ _ _ _ _ _ us hl => match us, hl with | [_, _, _], _ => rfl
  have F_Record___init__ := fun_mk (st := s_Record___init__) l_Record___init__ c_Record___init__ k_Record___init__
  have b_Record___init__ := F_Record___init__.binds (ps := ["self"]) fun _ _ _ _ _ _ us hl => match us, hl with | [_], _ => rfl
  have F_Record_do := fun_mk (st := s_Record_do) l_Record_do c_Record_do k_Record_do
  have b_Record_do := F_Record_do.binds (ps := ["self", "update"]) fun _ _ _ _ _ _ us hl => match us, hl with | [_, _], _ => rfl
  have F_Attempt___init__ := fun_mk (st := s_Attempt___init__) l_Attempt___init__ c_Attempt___init__ k_Attempt___init__
  have b_Attempt___init__ := F_Attempt___init__.binds (ps := ["self", "ballot", "entry", "members"]) fun _ _ _ _ _ _ us hl => match us, hl with | [_, _, _, _], _ => rfl
  have F_Node___init__ := fun_mk (st := s_Node___init__) l_Node___init__ c_Node___init__ k_Node___init__
  have b_Node___init__ := F_Node___init__.binds (ps := ["self", "index", "size", "first_members", "make_machine", "lazy"]) fun _ _ _ _ _ _ us hl => match us, hl with | [_, _, _, _, _, _], _ => rfl
  have F_Node__begin_anew := fun_mk (st := s_Node__begin_anew) l_Node__begin_anew c_Node__begin_anew k_Node__begin_anew
  have b_Node__begin_anew := F_Node__begin_anew.binds (ps := ["self"]) fun _ _ _ _ _ _ us hl => match us, hl with | [_], _ => rfl
  have F_Node_upto := fun_mk (st := s_Node_upto) l_Node_upto c_Node_upto k_Node_upto
  have b_Node_upto := F_Node_upto.binds (ps := ["self"]) fun _ _ _ _ _ _ us hl => match us, hl with | [_], _ => rfl
  have F_Node_members_now := fun_mk (st := s_Node_members_now) l_Node_members_now c_Node_members_now k_Node_members_now
  have b_Node_members_now := F_Node_members_now.binds (ps := ["self"]) fun _ _ _ _ _ _ us hl => match us, hl with | [_], _ => rfl
  have F_Node_offer := fun_mk (st := s_Node_offer) l_Node_offer c_Node_offer k_Node_offer
  have b_Node_offer := F_Node_offer.binds (ps := ["self", "command"]) fun _ _ _ _ _ _ us hl => match us, hl with | [_, _], _ => rfl
  have F_Node_offer_members := fun_mk (st := s_Node_offer_members) l_Node_offer_members c_Node_offer_members k_Node_offer_members
  have b_Node_offer_members := F_Node_offer_members.binds (ps := ["self", "members"]) fun _ _ _ _ _ _ us hl => match us, hl with | [_, _], _ => rfl
  have F_Node_tick := fun_mk (st := s_Node_tick) l_Node_tick c_Node_tick k_Node_tick
  have b_Node_tick := F_Node_tick.binds (ps := ["self"]) fun _ _ _ _ _ _ us hl => match us, hl with | [_], _ => rfl
  have F_Node_sends := fun_mk (st := s_Node_sends) l_Node_sends c_Node_sends k_Node_sends
  have b_Node_sends := F_Node_sends.binds (ps := ["self"]) fun _ _ _ _ _ _ us hl => match us, hl with | [_], _ => rfl
  have F_Node_letters := fun_mk (st := s_Node_letters) l_Node_letters c_Node_letters k_Node_letters
  have b_Node_letters := F_Node_letters.binds (ps := ["self"]) fun _ _ _ _ _ _ us hl => match us, hl with | [_], _ => rfl
  have F_Node_new_votes := fun_mk (st := s_Node_new_votes) l_Node_new_votes c_Node_new_votes k_Node_new_votes
  have b_Node_new_votes := F_Node_new_votes.binds (ps := ["self"]) fun _ _ _ _ _ _ us hl => match us, hl with | [_], _ => rfl
  have F_Node__long_patience := fun_mk (st := s_Node__long_patience) l_Node__long_patience c_Node__long_patience k_Node__long_patience
  have b_Node__long_patience := F_Node__long_patience.binds (ps := ["self"]) fun _ _ _ _ _ _ us hl => match us, hl with | [_], _ => rfl
  have F_Node__something_waits := fun_mk (st := s_Node__something_waits) l_Node__something_waits c_Node__something_waits k_Node__something_waits
  have b_Node__something_waits := F_Node__something_waits.binds (ps := ["self"]) fun _ _ _ _ _ _ us hl => match us, hl with | [_], _ => rfl
  have F_Node__may_go_out := fun_mk (st := s_Node__may_go_out) l_Node__may_go_out c_Node__may_go_out k_Node__may_go_out
  have b_Node__may_go_out := F_Node__may_go_out.binds (ps := ["self"]) fun _ _ _ _ _ _ us hl => match us, hl with | [_], _ => rfl
  have F_Node__end_step := fun_mk (st := s_Node__end_step) l_Node__end_step c_Node__end_step k_Node__end_step
  have b_Node__end_step := F_Node__end_step.binds (ps := ["self"]) fun _ _ _ _ _ _ us hl => match us, hl with | [_], _ => rfl
  have F_Node__note := fun_mk (st := s_Node__note) l_Node__note c_Node__note k_Node__note
  have b_Node__note := F_Node__note.binds (ps := ["self", "update"]) fun _ _ _ _ _ _ us hl => match us, hl with | [_, _], _ => rfl
  have F_Node__send := fun_mk (st := s_Node__send) l_Node__send c_Node__send k_Node__send
  have b_Node__send := F_Node__send.binds (ps := ["self", "index", "body"]) fun _ _ _ _ _ _ us hl => match us, hl with | [_, _, _], _ => rfl
  have F_Node__send_to_all := fun_mk (st := s_Node__send_to_all) l_Node__send_to_all c_Node__send_to_all k_Node__send_to_all
  have b_Node__send_to_all := F_Node__send_to_all.binds (ps := ["self", "body"]) fun _ _ _ _ _ _ us hl => match us, hl with | [_, _], _ => rfl
  have F_Node__send_to_others := fun_mk (st := s_Node__send_to_others) l_Node__send_to_others c_Node__send_to_others k_Node__send_to_others
  have b_Node__send_to_others := F_Node__send_to_others.binds (ps := ["self", "body"]) fun _ _ _ _ _ _ us hl => match us, hl with | [_, _], _ => rfl
  have F_Node__begin_if_free := fun_mk (st := s_Node__begin_if_free) l_Node__begin_if_free c_Node__begin_if_free k_Node__begin_if_free
  have b_Node__begin_if_free := F_Node__begin_if_free.binds (ps := ["self"]) fun _ _ _ _ _ _ us hl => match us, hl with | [_], _ => rfl
  have F_Node__begin := fun_mk (st := s_Node__begin) l_Node__begin c_Node__begin k_Node__begin
  have b_Node__begin := F_Node__begin.binds (ps := ["self"]) fun _ _ _ _ _ _ us hl => match us, hl with | [_], _ => rfl
  have F_Diary___init__ := fun_mk (st := s_Diary___init__) l_Diary___init__ c_Diary___init__ k_Diary___init__
  have b_Diary___init__ := F_Diary___init__.binds (ps := ["self"]) fun _ _ _ _ _ _ us hl => match us, hl with | [_], _ => rfl
  have F_Diary_settled := fun_mk (st := s_Diary_settled) l_Diary_settled c_Diary_settled k_Diary_settled
  have b_Diary_settled := F_Diary_settled.binds (ps := ["self", "command"]) fun _ _ _ _ _ _ us hl => match us, hl with | [_, _], _ => rfl
  have F__law_row := fun_mk (st := s__law_row) l__law_row c__law_row k__law_row
  have b__law_row := F__law_row.binds (ps := ["script", "k"]) fun _ _ _ _ _ _ us hl => match us, hl with | [_, _], _ => rfl
  have F__law_take := fun_mk (st := s__law_take) l__law_take c__law_take k__law_take
  have b__law_take := F__law_take.binds (ps := ["box", "size"]) fun _ _ _ _ _ _ us hl => match us, hl with | [_, _], _ => rfl
  have F__law_new := fun_mk (st := s__law_new) l__law_new c__law_new k__law_new
  have b__law_new := F__law_new.binds (ps := ["index", "size", "first", "lazy"]) fun _ _ _ _ _ _ us hl => match us, hl with | [_, _, _, _], _ => rfl
  have F__law_forget := fun_mk (st := s__law_forget) l__law_forget c__law_forget k__law_forget
  have b__law_forget := F__law_forget.binds (ps := ["m"]) fun _ _ _ _ _ _ us hl => match us, hl with | [_], _ => rfl
  have F__law_members_of := fun_mk (st := s__law_members_of) l__law_members_of c__law_members_of k__law_members_of
  have b__law_members_of := F__law_members_of.binds (ps := ["m"]) fun _ _ _ _ _ _ us hl => match us, hl with | [_], _ => rfl
  have F__law_do := fun_mk (st := s__law_do) l__law_do c__law_do k__law_do
  have b__law_do := F__law_do.binds (ps := ["m", "update"]) fun _ _ _ _ _ _ us hl => match us, hl with | [_, _], _ => rfl
  have F__law_note := fun_mk (st := s__law_note) l__law_note c__law_note k__law_note
  have b__law_note := F__law_note.binds (ps := ["m", "update"]) fun _ _ _ _ _ _ us hl => match us, hl with | [_, _], _ => rfl
  have F__law_post := fun_mk (st := s__law_post) l__law_post c__law_post k__law_post
  have b__law_post := F__law_post.binds (ps := ["m", "receivers", "body"]) fun _ _ _ _ _ _ us hl => match us, hl with | [_, _, _], _ => rfl
  have F__law_all := fun_mk (st := s__law_all) l__law_all c__law_all k__law_all
  have b__law_all := F__law_all.binds (ps := ["m"]) fun _ _ _ _ _ _ us hl => match us, hl with | [_], _ => rfl
  have F__law_others := fun_mk (st := s__law_others) l__law_others c__law_others k__law_others
  have b__law_others := F__law_others.binds (ps := ["m"]) fun _ _ _ _ _ _ us hl => match us, hl with | [_], _ => rfl
  have F__law_wishes := fun_mk (st := s__law_wishes) l__law_wishes c__law_wishes k__law_wishes
  have b__law_wishes := F__law_wishes.binds (ps := ["m"]) fun _ _ _ _ _ _ us hl => match us, hl with | [_], _ => rfl
  have F__law_begin := fun_mk (st := s__law_begin) l__law_begin c__law_begin k__law_begin
  have b__law_begin := F__law_begin.binds (ps := ["m"]) fun _ _ _ _ _ _ us hl => match us, hl with | [_], _ => rfl
  have F__law_offer := fun_mk (st := s__law_offer) l__law_offer c__law_offer k__law_offer
  have b__law_offer := F__law_offer.binds (ps := ["m", "command"]) fun _ _ _ _ _ _ us hl => match us, hl with | [_, _], _ => rfl
  have F__law_offer_members := fun_mk (st := s__law_offer_members) l__law_offer_members c__law_offer_members k__law_offer_members
  have b__law_offer_members := F__law_offer_members.binds (ps := ["m", "members"]) fun _ _ _ _ _ _ us hl => match us, hl with | [_, _], _ => rfl
  have F__law_end := fun_mk (st := s__law_end) l__law_end c__law_end k__law_end
  have b__law_end := F__law_end.binds (ps := ["m"]) fun _ _ _ _ _ _ us hl => match us, hl with | [_], _ => rfl
  have F__law_attempt_agrees := fun_mk (st := s__law_attempt_agrees) l__law_attempt_agrees c__law_attempt_agrees k__law_attempt_agrees
  have b__law_attempt_agrees := F__law_attempt_agrees.binds (ps := ["attempt", "model"]) fun _ _ _ _ _ _ us hl => match us, hl with | [_, _], _ => rfl
  have F__law_agrees := fun_mk (st := s__law_agrees) l__law_agrees c__law_agrees k__law_agrees
  have b__law_agrees := F__law_agrees.binds (ps := ["node", "m"]) fun _ _ _ _ _ _ us hl => match us, hl with | [_, _], _ => rfl
  have F__law_said := fun_mk (st := s__law_said) l__law_said c__law_said k__law_said
  have b__law_said := F__law_said.binds (ps := ["node", "m"]) fun _ _ _ _ _ _ us hl => match us, hl with | [_, _], _ => rfl
  have F__law_some_members := fun_mk (st := s__law_some_members) l__law_some_members c__law_some_members k__law_some_members
  have b__law_some_members := F__law_some_members.binds (ps := ["box", "size"]) fun _ _ _ _ _ _ us hl => match us, hl with | [_, _], _ => rfl
  have F__law_make := fun_mk (st := s__law_make) l__law_make c__law_make k__law_make
  have b__law_make := F__law_make.binds (ps := []) fun _ _ _ _ _ _ us hl => match us, hl with | [], _ => rfl
  have F__law_start := fun_mk (st := s__law_start) l__law_start c__law_start k__law_start
  have b__law_start := F__law_start.binds (ps := ["script", "lazy"]) fun _ _ _ _ _ _ us hl => match us, hl with | [_, _], _ => rfl
  have F__law_tick := fun_mk (st := s__law_tick) l__law_tick c__law_tick k__law_tick
  have b__law_tick := F__law_tick.binds (ps := ["m"]) fun _ _ _ _ _ _ us hl => match us, hl with | [_], _ => rfl
  have F__law_deed := fun_mk (st := s__law_deed) l__law_deed c__law_deed k__law_deed
  have b__law_deed := F__law_deed.binds (ps := ["node", "m", "box"]) fun _ _ _ _ _ _ us hl => match us, hl with | [_, _, _], _ => rfl
  have F_law := fun_mk (st := s_law) l_law c_law k_law
  have b_law := F_law.binds (ps := ["script"]) fun _ _ _ _ _ _ us hl => match us, hl with | [_], _ => rfl
  let T : Txt K mg := ⟨C_Acceptor, ⟨pg_Acceptor, hd_Acceptor, po_Acceptor, sa_Acceptor⟩, PySem.W.mg_of X G aC_Acceptor, na_Acceptor_promised, na_Acceptor_accepted, C_Attempt, ⟨pg_Attempt, hd_Attempt, po_Attempt, sa_Attempt⟩, PySem.W.mg_of X G aC_Attempt, na_Attempt_ballot, na_Attempt_entry, na_Attempt_members, na_Attempt_stage, na_Attempt_promised_by, na_Attempt_voted_by, na_Attempt_bound, C_Diary, ⟨pg_Diary, hd_Diary, po_Diary, sa_Diary⟩, PySem.W.mg_of X G aC_Diary, na_Diary_lines, C_Journal, ⟨pg_Journal, hd_Journal, po_Journal, sa_Journal⟩, PySem.W.mg_of X G aC_Journal, na_Journal__payloads, na_Journal__sizes, na_Journal__synced, C_Node, ⟨pg_Node, hd_Node, po_Node, sa_Node⟩, PySem.W.mg_of X G aC_Node, na_Node_index, na_Node_size, na_Node_first_members, na_Node_lazy, na_Node_state, na_Node_journal, na_Node_record, na_Node__make_machine, na_Node__untold, na_Node_waiting, na_Node_wanted, na_Node_attempt, na_Node_patience, na_Node_guest, na_Node_seen, na_Node_machine, na_Node__sends, na_Node__letters, C_Record, ⟨pg_Record, hd_Record, po_Record, sa_Record⟩, PySem.W.mg_of X G aC_Record, na_Record_row, na_Record_acceptor, t_ACCEPT, PySem.W.mg_of X G z_ACCEPT, t_ASKING, PySem.W.mg_of X G z_ASKING, t_BATCH, PySem.W.mg_of X G z_BATCH, t_BELOW_ZERO, PySem.W.mg_of X G z_BELOW_ZERO, t_CHOSEN, PySem.W.mg_of X G z_CHOSEN, t_FRAME_HEAD, PySem.W.mg_of X G z_FRAME_HEAD, t_FROM_ZERO, PySem.W.mg_of X G z_FROM_ZERO, t_HIGH_SIGNS, PySem.W.mg_of X G z_HIGH_SIGNS, t_LONG_PATIENCE, PySem.W.mg_of X G z_LONG_PATIENCE, t_LOW_SIGNS, PySem.W.mg_of X G z_LOW_SIGNS, t_MEMBERS, PySem.W.mg_of X G z_MEMBERS, t_MOST_BATCH, PySem.W.mg_of X G z_MOST_BATCH, t_MOST_DEPTH, PySem.W.mg_of X G z_MOST_DEPTH, t_MOST_INTEGER, PySem.W.mg_of X G z_MOST_INTEGER, t_MOST_ROUND, PySem.W.mg_of X G z_MOST_ROUND, t_MOST_WAITING, PySem.W.mg_of X G z_MOST_WAITING, t_NOTHING, PySem.W.mg_of X G z_NOTHING, a_NO_BALLOT, PySem.W.mg_of X G z_NO_BALLOT, (fun H => Or.inr ⟨_, _, _, zl_NO_BALLOT, rfl, rfl, (by show 2 ≤ sizeLine; decide), .cons ⟨_, rfl⟩ (.cons ⟨_, rfl⟩ .nil)⟩), t_PROMISE, PySem.W.mg_of X G z_PROMISE, t_TEXT, PySem.W.mg_of X G z_TEXT, t_TUPLE, PySem.W.mg_of X G z_TUPLE, t_UP, PySem.W.mg_of X G z_UP, f_Journal___init__, _, F_Journal___init__, b_Journal___init__, ⟨mk_Journal, a_Journal___init__, i_Journal___init__, kc_Journal⟩, f_Journal_frame_count, _, F_Journal_frame_count, b_Journal_frame_count, p_Journal_frame_count, ⟨a_Journal_frame_count, pg_Journal_frame_count, pt_Journal_frame_count, pz_Journal_frame_count, pr_Journal_frame_count⟩, f_Journal_synced_frames, _, F_Journal_synced_frames, b_Journal_synced_frames, p_Journal_synced_frames, ⟨a_Journal_synced_frames, pg_Journal_synced_frames, pt_Journal_synced_frames, pz_Journal_synced_frames, pr_Journal_synced_frames⟩, f_Journal_append, _, F_Journal_append, b_Journal_append, ⟨a_Journal_append, i_Journal_append, k_Journal_append⟩, f_Journal_sync, _, F_Journal_sync, b_Journal_sync, ⟨a_Journal_sync, i_Journal_sync, k_Journal_sync⟩, f_Journal_payloads, _, F_Journal_payloads, b_Journal_payloads, ⟨a_Journal_payloads, i_Journal_payloads, k_Journal_payloads⟩, f_members_of_slot, _, F_members_of_slot, b_members_of_slot, PySem.W.mg_of X G a_members_of_slot, f_batch_of, _, F_batch_of, b_batch_of, PySem.W.mg_of X G a_batch_of, f_sign_of, _, F_sign_of, b_sign_of, PySem.W.mg_of X G a_sign_of, f_pack, _, F_pack, b_pack, PySem.W.mg_of X G a_pack, f__add_data, _, F__add_data, b__add_data, PySem.W.mg_of X G a__add_data, f__add_integer, _, F__add_integer, b__add_integer, PySem.W.mg_of X G a__add_integer, f__add_sevens, _, F__add_sevens, b__add_sevens, PySem.W.mg_of X G a__add_sevens, f_unpack, _, F_unpack, b_unpack, PySem.W.mg_of X G a_unpack, f__read_whole, _, F__read_whole, b__read_whole, PySem.W.mg_of X G a__read_whole, f__has_great_integer, _, F__has_great_integer, b__has_great_integer, PySem.W.mg_of X G a__has_great_integer, f__read_data, _, F__read_data, b__read_data, PySem.W.mg_of X G a__read_data, f__read_integer, _, F__read_integer, b__read_integer, PySem.W.mg_of X G a__read_integer, f__read_text, _, F__read_text, b__read_text, PySem.W.mg_of X G a__read_text, f__read_tuple, _, F__read_tuple, b__read_tuple, PySem.W.mg_of X G a__read_tuple, f__read_sevens, _, F__read_sevens, b__read_sevens, PySem.W.mg_of X G a__read_sevens, f__octet_at, _, F__octet_at, b__octet_at, PySem.W.mg_of X G a__octet_at, f_next_ballot, _, F_next_ballot, b_next_ballot, PySem.W.mg_of X G a_next_ballot, f_Acceptor___init__, _, F_Acceptor___init__, D0_Acceptor___init__, V0_Acceptor___init__, b0_Acceptor___init__, D1_Acceptor___init__, V1_Acceptor___init__, b1_Acceptor___init__, D2_Acceptor___init__, V2_Acceptor___init__, b2_Acceptor___init__, ⟨mk_Acceptor, a_Acceptor___init__, i_Acceptor___init__, kc_Acceptor⟩, f_Acceptor_promise, _, F_Acceptor_promise, b_Acceptor_promise, ⟨a_Acceptor_promise, i_Acceptor_promise, k_Acceptor_promise⟩, f_Acceptor_accept, _, F_Acceptor_accept, b_Acceptor_accept, ⟨a_Acceptor_accept, i_Acceptor_accept, k_Acceptor_accept⟩, f_Record___init__, _, F_Record___init__, b_Record___init__, ⟨mk_Record, a_Record___init__, i_Record___init__, kc_Record⟩, f_Record_do, _, F_Record_do, b_Record_do, ⟨a_Record_do, i_Record_do, k_Record_do⟩, f_Attempt___init__, _, F_Attempt___init__, b_Attempt___init__, ⟨mk_Attempt, a_Attempt___init__, i_Attempt___init__, kc_Attempt⟩, f_Node___init__, _, F_Node___init__, b_Node___init__, ⟨mk_Node, a_Node___init__, i_Node___init__, kc_Node⟩, f_Node__begin_anew, _, F_Node__begin_anew, b_Node__begin_anew, ⟨a_Node__begin_anew, i_Node__begin_anew, k_Node__begin_anew⟩, f_Node_upto, _, F_Node_upto, b_Node_upto, p_Node_upto, ⟨a_Node_upto, pg_Node_upto, pt_Node_upto, pz_Node_upto, pr_Node_upto⟩, f_Node_members_now, _, F_Node_members_now, b_Node_members_now, p_Node_members_now, ⟨a_Node_members_now, pg_Node_members_now, pt_Node_members_now, pz_Node_members_now, pr_Node_members_now⟩, f_Node_offer, _, F_Node_offer, b_Node_offer, ⟨a_Node_offer, i_Node_offer, k_Node_offer⟩, f_Node_offer_members, _, F_Node_offer_members, b_Node_offer_members, ⟨a_Node_offer_members, i_Node_offer_members, k_Node_offer_members⟩, f_Node_tick, _, F_Node_tick, b_Node_tick, ⟨a_Node_tick, i_Node_tick, k_Node_tick⟩, f_Node_sends, _, F_Node_sends, b_Node_sends, ⟨a_Node_sends, i_Node_sends, k_Node_sends⟩, f_Node_letters, _, F_Node_letters, b_Node_letters, ⟨a_Node_letters, i_Node_letters, k_Node_letters⟩, f_Node_new_votes, _, F_Node_new_votes, b_Node_new_votes, ⟨a_Node_new_votes, i_Node_new_votes, k_Node_new_votes⟩, f_Node__long_patience, _, F_Node__long_patience, b_Node__long_patience, ⟨a_Node__long_patience, i_Node__long_patience, k_Node__long_patience⟩, f_Node__something_waits, _, F_Node__something_waits, b_Node__something_waits, ⟨a_Node__something_waits, i_Node__something_waits, k_Node__something_waits⟩, f_Node__may_go_out, _, F_Node__may_go_out, b_Node__may_go_out, ⟨a_Node__may_go_out, i_Node__may_go_out, k_Node__may_go_out⟩, f_Node__end_step, _, F_Node__end_step, b_Node__end_step, ⟨a_Node__end_step, i_Node__end_step, k_Node__end_step⟩, f_Node__note, _, F_Node__note, b_Node__note, ⟨a_Node__note, i_Node__note, k_Node__note⟩, f_Node__send, _, F_Node__send, b_Node__send, ⟨a_Node__send, i_Node__send, k_Node__send⟩, f_Node__send_to_all, _, F_Node__send_to_all, b_Node__send_to_all, ⟨a_Node__send_to_all, i_Node__send_to_all, k_Node__send_to_all⟩, f_Node__send_to_others, _, F_Node__send_to_others, b_Node__send_to_others, ⟨a_Node__send_to_others, i_Node__send_to_others, k_Node__send_to_others⟩, f_Node__begin_if_free, _, F_Node__begin_if_free, b_Node__begin_if_free, ⟨a_Node__begin_if_free, i_Node__begin_if_free, k_Node__begin_if_free⟩, f_Node__begin, _, F_Node__begin, b_Node__begin, ⟨a_Node__begin, i_Node__begin, k_Node__begin⟩, f_Diary___init__, _, F_Diary___init__, b_Diary___init__, ⟨mk_Diary, a_Diary___init__, i_Diary___init__, kc_Diary⟩, f_Diary_settled, _, F_Diary_settled, b_Diary_settled, ⟨a_Diary_settled, i_Diary_settled, k_Diary_settled⟩, f__law_row, _, F__law_row, b__law_row, PySem.W.mg_of X G a__law_row, f__law_take, _, F__law_take, b__law_take, PySem.W.mg_of X G a__law_take, f__law_new, _, F__law_new, b__law_new, PySem.W.mg_of X G a__law_new, f__law_forget, _, F__law_forget, b__law_forget, PySem.W.mg_of X G a__law_forget, f__law_members_of, _, F__law_members_of, b__law_members_of, PySem.W.mg_of X G a__law_members_of, f__law_do, _, F__law_do, b__law_do, PySem.W.mg_of X G a__law_do, f__law_note, _, F__law_note, b__law_note, PySem.W.mg_of X G a__law_note, f__law_post, _, F__law_post, b__law_post, PySem.W.mg_of X G a__law_post, f__law_all, _, F__law_all, b__law_all, PySem.W.mg_of X G a__law_all, f__law_others, _, F__law_others, b__law_others, PySem.W.mg_of X G a__law_others, f__law_wishes, _, F__law_wishes, b__law_wishes, PySem.W.mg_of X G a__law_wishes, f__law_begin, _, F__law_begin, b__law_begin, PySem.W.mg_of X G a__law_begin, f__law_offer, _, F__law_offer, b__law_offer, PySem.W.mg_of X G a__law_offer, f__law_offer_members, _, F__law_offer_members, b__law_offer_members, PySem.W.mg_of X G a__law_offer_members, f__law_end, _, F__law_end, b__law_end, PySem.W.mg_of X G a__law_end, f__law_attempt_agrees, _, F__law_attempt_agrees, b__law_attempt_agrees, PySem.W.mg_of X G a__law_attempt_agrees, f__law_agrees, _, F__law_agrees, b__law_agrees, PySem.W.mg_of X G a__law_agrees, f__law_said, _, F__law_said, b__law_said, PySem.W.mg_of X G a__law_said, f__law_some_members, _, F__law_some_members, b__law_some_members, PySem.W.mg_of X G a__law_some_members, f__law_make, _, F__law_make, b__law_make, PySem.W.mg_of X G a__law_make, f__law_start, _, F__law_start, b__law_start, PySem.W.mg_of X G a__law_start, f__law_tick, _, F__law_tick, b__law_tick, PySem.W.mg_of X G a__law_tick, f__law_deed, _, F__law_deed, b__law_deed, PySem.W.mg_of X G a__law_deed, fa, _, F_law, b_law, PySem.W.mg_of X G a_law, PySem.W.mg_none_of X G z_any, PySem.W.mg_none_of X G z_bool, PySem.W.mg_none_of X G z_int, PySem.W.mg_none_of X G z_isinstance, PySem.W.mg_none_of X G z_len, PySem.W.mg_none_of X G z_list, PySem.W.mg_none_of X G z_max, PySem.W.mg_none_of X G z_ord, PySem.W.mg_none_of X G z_range, PySem.W.mg_none_of X G z_reversed, PySem.W.mg_none_of X G z_str, PySem.W.mg_none_of X G z_tuple⟩
  exact ⟨PySem.W.fnOf "law" "law" (defArgs s_law) (defBody s_law) (defScope s_law) .none kV_law dc_law pm_law an_law cd_law ct_law, fun s v => .of_eq rfl, fun base _ _ => ok_law T⟩
theorem hfacts {l : PySem.W.OpenLaw} {w : World} {K : PySem.W.Frag} {h : Heap} {mg : Str → Option Value} {fa : Addr} (X : K.In h) (G : h.Ns mainGlobals mg) (hfa : mg "law" = some (.ref fa)) (c : Xk.obH (cks0 ++ (cks1 ++ cks2)) (dfs0 ++ (dfs1 ++ dfs2)) K = Xk.wtH (dfs0 ++ (dfs1 ++ dfs2)))
    : ∃ fd : FuncData, (∀ (s : Shared) (v : Value), BindsTo s fd ⟨[v], []⟩ [("script", v)]) ∧ ∀ base : Heap, K.In base → base.Ns mainGlobals mg → FnOk l.prog w K mg base CX0 90 fa fd ["script"] (sp_law K) := by
  obtain ⟨c0, r0⟩ := Xk.obH_split c
  obtain ⟨c1, r1⟩ := Xk.obH_split r0
  have c2 := r1
  have aC_Acceptor : PySem.W.nsIn K mainGlobals "Acceptor" = some (some (.ref (He.ga K "Acceptor"))) := He.eqO_ok (Xk.ck_at c0 0)
  have pg_Acceptor : PySem.W.plainGet K (He.ga K "Acceptor") Str.empty = true := Xk.ck_at c0 1
  have hd_Acceptor : PySem.W.hasDictIn K (He.ga K "Acceptor") = true := Xk.ck_at c0 2
  have po_Acceptor : PySem.W.plainOver K (He.ga K "Acceptor") = true := Xk.ck_at c0 3
  have sa_Acceptor : PySem.W.findIn K (.ref (He.ga K "Acceptor")) "__setattr__" = some (some (.builtin "object.__setattr__")) := He.eqO_ok (Xk.ck_at c0 4)
  have mk_Acceptor : PySem.W.makesIn K (He.ga K "Acceptor") = true := Xk.ck_at c0 5
  have kc_Acceptor : PySem.W.keepIn K (.ref (He.ga K "Acceptor")) = true := Xk.ck_at c0 6
  have na_Acceptor_promised : PySem.W.findIn K (.ref (He.ga K "Acceptor")) "promised" = some none := He.eqO_ok (Xk.ck_at c0 7)
  have na_Acceptor_accepted : PySem.W.findIn K (.ref (He.ga K "Acceptor")) "accepted" = some none := He.eqO_ok (Xk.ck_at c0 8)
  have aC_Attempt : PySem.W.nsIn K mainGlobals "Attempt" = some (some (.ref (He.ga K "Attempt"))) := He.eqO_ok (Xk.ck_at c0 9)
  have pg_Attempt : PySem.W.plainGet K (He.ga K "Attempt") Str.empty = true := Xk.ck_at c0 10
  have hd_Attempt : PySem.W.hasDictIn K (He.ga K "Attempt") = true := Xk.ck_at c0 11
  have po_Attempt : PySem.W.plainOver K (He.ga K "Attempt") = true := Xk.ck_at c0 12
  have sa_Attempt : PySem.W.findIn K (.ref (He.ga K "Attempt")) "__setattr__" = some (some (.builtin "object.__setattr__")) := He.eqO_ok (Xk.ck_at c0 13)
  have mk_Attempt : PySem.W.makesIn K (He.ga K "Attempt") = true := Xk.ck_at c0 14
  have kc_Attempt : PySem.W.keepIn K (.ref (He.ga K "Attempt")) = true := Xk.ck_at c0 15
  have na_Attempt_ballot : PySem.W.findIn K (.ref (He.ga K "Attempt")) "ballot" = some none := He.eqO_ok (Xk.ck_at c0 16)
  have na_Attempt_entry : PySem.W.findIn K (.ref (He.ga K "Attempt")) "entry" = some none := He.eqO_ok (Xk.ck_at c0 17)
  have na_Attempt_members : PySem.W.findIn K (.ref (He.ga K "Attempt")) "members" = some none := He.eqO_ok (Xk.ck_at c0 18)
  have na_Attempt_stage : PySem.W.findIn K (.ref (He.ga K "Attempt")) "stage" = some none := He.eqO_ok (Xk.ck_at c0 19)
  have na_Attempt_promised_by : PySem.W.findIn K (.ref (He.ga K "Attempt")) "promised_by" = some none := He.eqO_ok (Xk.ck_at c0 20)
  have na_Attempt_voted_by : PySem.W.findIn K (.ref (He.ga K "Attempt")) "voted_by" = some none := He.eqO_ok (Xk.ck_at c0 21)
  have na_Attempt_bound : PySem.W.findIn K (.ref (He.ga K "Attempt")) "bound" = some none := He.eqO_ok (Xk.ck_at c0 22)
  have aC_Diary : PySem.W.nsIn K mainGlobals "Diary" = some (some (.ref (He.ga K "Diary"))) := He.eqO_ok (Xk.ck_at c0 23)
  have pg_Diary : PySem.W.plainGet K (He.ga K "Diary") Str.empty = true := Xk.ck_at c0 24
  have hd_Diary : PySem.W.hasDictIn K (He.ga K "Diary") = true := Xk.ck_at c0 25
  have po_Diary : PySem.W.plainOver K (He.ga K "Diary") = true := Xk.ck_at c0 26
  have sa_Diary : PySem.W.findIn K (.ref (He.ga K "Diary")) "__setattr__" = some (some (.builtin "object.__setattr__")) := He.eqO_ok (Xk.ck_at c0 27)
  have mk_Diary : PySem.W.makesIn K (He.ga K "Diary") = true := Xk.ck_at c0 28
  have kc_Diary : PySem.W.keepIn K (.ref (He.ga K "Diary")) = true := Xk.ck_at c0 29
  have na_Diary_lines : PySem.W.findIn K (.ref (He.ga K "Diary")) "lines" = some none := He.eqO_ok (Xk.ck_at c0 30)
  have aC_Journal : PySem.W.nsIn K mainGlobals "Journal" = some (some (.ref (He.ga K "Journal"))) := He.eqO_ok (Xk.ck_at c0 31)
  have pg_Journal : PySem.W.plainGet K (He.ga K "Journal") Str.empty = true := Xk.ck_at c0 32
  have hd_Journal : PySem.W.hasDictIn K (He.ga K "Journal") = true := Xk.ck_at c0 33
  have po_Journal : PySem.W.plainOver K (He.ga K "Journal") = true := Xk.ck_at c0 34
  have sa_Journal : PySem.W.findIn K (.ref (He.ga K "Journal")) "__setattr__" = some (some (.builtin "object.__setattr__")) := He.eqO_ok (Xk.ck_at c0 35)
  have mk_Journal : PySem.W.makesIn K (He.ga K "Journal") = true := Xk.ck_at c0 36
  have kc_Journal : PySem.W.keepIn K (.ref (He.ga K "Journal")) = true := Xk.ck_at c0 37
  have na_Journal__payloads : PySem.W.findIn K (.ref (He.ga K "Journal")) "_payloads" = some none := He.eqO_ok (Xk.ck_at c0 38)
  have na_Journal__sizes : PySem.W.findIn K (.ref (He.ga K "Journal")) "_sizes" = some none := He.eqO_ok (Xk.ck_at c0 39)
  have na_Journal__synced : PySem.W.findIn K (.ref (He.ga K "Journal")) "_synced" = some none := He.eqO_ok (Xk.ck_at c0 40)
  have aC_Node : PySem.W.nsIn K mainGlobals "Node" = some (some (.ref (He.ga K "Node"))) := He.eqO_ok (Xk.ck_at c0 41)
  have pg_Node : PySem.W.plainGet K (He.ga K "Node") Str.empty = true := Xk.ck_at c0 42
  have hd_Node : PySem.W.hasDictIn K (He.ga K "Node") = true := Xk.ck_at c0 43
  have po_Node : PySem.W.plainOver K (He.ga K "Node") = true := Xk.ck_at c0 44
  have sa_Node : PySem.W.findIn K (.ref (He.ga K "Node")) "__setattr__" = some (some (.builtin "object.__setattr__")) := He.eqO_ok (Xk.ck_at c0 45)
  have mk_Node : PySem.W.makesIn K (He.ga K "Node") = true := Xk.ck_at c0 46
  have kc_Node : PySem.W.keepIn K (.ref (He.ga K "Node")) = true := Xk.ck_at c0 47
  have na_Node_index : PySem.W.findIn K (.ref (He.ga K "Node")) "index" = some none := He.eqO_ok (Xk.ck_at c0 48)
  have na_Node_size : PySem.W.findIn K (.ref (He.ga K "Node")) "size" = some none := He.eqO_ok (Xk.ck_at c0 49)
  have na_Node_first_members : PySem.W.findIn K (.ref (He.ga K "Node")) "first_members" = some none := He.eqO_ok (Xk.ck_at c0 50)
  have na_Node_lazy : PySem.W.findIn K (.ref (He.ga K "Node")) "lazy" = some none := He.eqO_ok (Xk.ck_at c0 51)
  have na_Node_state : PySem.W.findIn K (.ref (He.ga K "Node")) "state" = some none := He.eqO_ok (Xk.ck_at c0 52)
  have na_Node_journal : PySem.W.findIn K (.ref (He.ga K "Node")) "journal" = some none := He.eqO_ok (Xk.ck_at c0 53)
  have na_Node_record : PySem.W.findIn K (.ref (He.ga K "Node")) "record" = some none := He.eqO_ok (Xk.ck_at c0 54)
  have na_Node__make_machine : PySem.W.findIn K (.ref (He.ga K "Node")) "_make_machine" = some none := He.eqO_ok (Xk.ck_at c0 55)
  have na_Node__untold : PySem.W.findIn K (.ref (He.ga K "Node")) "_untold" = some none := He.eqO_ok (Xk.ck_at c0 56)
  have na_Node_waiting : PySem.W.findIn K (.ref (He.ga K "Node")) "waiting" = some none := He.eqO_ok (Xk.ck_at c0 57)
  have na_Node_wanted : PySem.W.findIn K (.ref (He.ga K "Node")) "wanted" = some none := He.eqO_ok (Xk.ck_at c0 58)
  have na_Node_attempt : PySem.W.findIn K (.ref (He.ga K "Node")) "attempt" = some none := He.eqO_ok (Xk.ck_at c0 59)
  have na_Node_patience : PySem.W.findIn K (.ref (He.ga K "Node")) "patience" = some none := He.eqO_ok (Xk.ck_at c0 60)
  have na_Node_guest : PySem.W.findIn K (.ref (He.ga K "Node")) "guest" = some none := He.eqO_ok (Xk.ck_at c0 61)
  have na_Node_seen : PySem.W.findIn K (.ref (He.ga K "Node")) "seen" = some none := He.eqO_ok (Xk.ck_at c0 62)
  have na_Node_machine : PySem.W.findIn K (.ref (He.ga K "Node")) "machine" = some none := He.eqO_ok (Xk.ck_at c0 63)
  have na_Node__sends : PySem.W.findIn K (.ref (He.ga K "Node")) "_sends" = some none := He.eqO_ok (Xk.ck_at c0 64)
  have na_Node__letters : PySem.W.findIn K (.ref (He.ga K "Node")) "_letters" = some none := He.eqO_ok (Xk.ck_at c0 65)
  have aC_Record : PySem.W.nsIn K mainGlobals "Record" = some (some (.ref (He.ga K "Record"))) := He.eqO_ok (Xk.ck_at c0 66)
  have pg_Record : PySem.W.plainGet K (He.ga K "Record") Str.empty = true := Xk.ck_at c0 67
  have hd_Record : PySem.W.hasDictIn K (He.ga K "Record") = true := Xk.ck_at c0 68
  have po_Record : PySem.W.plainOver K (He.ga K "Record") = true := Xk.ck_at c0 69
  have sa_Record : PySem.W.findIn K (.ref (He.ga K "Record")) "__setattr__" = some (some (.builtin "object.__setattr__")) := He.eqO_ok (Xk.ck_at c0 70)
  have mk_Record : PySem.W.makesIn K (He.ga K "Record") = true := Xk.ck_at c0 71
  have kc_Record : PySem.W.keepIn K (.ref (He.ga K "Record")) = true := Xk.ck_at c0 72
  have na_Record_row : PySem.W.findIn K (.ref (He.ga K "Record")) "row" = some none := He.eqO_ok (Xk.ck_at c0 73)
  have na_Record_acceptor : PySem.W.findIn K (.ref (He.ga K "Record")) "acceptor" = some none := He.eqO_ok (Xk.ck_at c0 74)
  have a_Journal___init__ : PySem.W.findIn K (.ref (He.ga K "Journal")) "__init__" = some (some (.ref (He.ma K (He.ga K "Journal") "__init__"))) := He.eqO_ok (Xk.ck_at c0 75)
  have i_Journal___init__ : PySem.W.isFn K (.ref (He.ma K (He.ga K "Journal") "__init__")) = true := Xk.ck_at c1 0
  have a_Journal_frame_count : PySem.W.findIn K (.ref (He.ga K "Journal")) "frame_count" = some (some (.ref (He.ma K (He.ga K "Journal") "frame_count"))) := He.eqO_ok (Xk.ck_at c1 1)
  have pg_Journal_frame_count : PySem.W.specialIn K (.ref (He.ma K (He.ga K "Journal") "frame_count")) "__get__" = some (some (.builtin "property.__get__")) := He.eqO_ok (Xk.ck_at c1 2)
  have pt_Journal_frame_count : PySem.W.takesIn K (.ref (He.ma K (He.ga K "Journal") "frame_count")) = some true := Xk.opt_ok (Xk.ck_at c1 3)
  obtain ⟨_, pr_Journal_frame_count⟩ := Xk.rcIs_ok (Xk.ck_at c1 4)
  have a_Journal_synced_frames : PySem.W.findIn K (.ref (He.ga K "Journal")) "synced_frames" = some (some (.ref (He.ma K (He.ga K "Journal") "synced_frames"))) := He.eqO_ok (Xk.ck_at c1 5)
  have pg_Journal_synced_frames : PySem.W.specialIn K (.ref (He.ma K (He.ga K "Journal") "synced_frames")) "__get__" = some (some (.builtin "property.__get__")) := He.eqO_ok (Xk.ck_at c1 6)
  have pt_Journal_synced_frames : PySem.W.takesIn K (.ref (He.ma K (He.ga K "Journal") "synced_frames")) = some true := Xk.opt_ok (Xk.ck_at c1 7)
  obtain ⟨_, pr_Journal_synced_frames⟩ := Xk.rcIs_ok (Xk.ck_at c1 8)
  have a_Journal_append : PySem.W.findIn K (.ref (He.ga K "Journal")) "append" = some (some (.ref (He.ma K (He.ga K "Journal") "append"))) := He.eqO_ok (Xk.ck_at c1 9)
  have i_Journal_append : PySem.W.isFn K (.ref (He.ma K (He.ga K "Journal") "append")) = true := Xk.ck_at c1 10
  have a_Journal_sync : PySem.W.findIn K (.ref (He.ga K "Journal")) "sync" = some (some (.ref (He.ma K (He.ga K "Journal") "sync"))) := He.eqO_ok (Xk.ck_at c1 11)
  have i_Journal_sync : PySem.W.isFn K (.ref (He.ma K (He.ga K "Journal") "sync")) = true := Xk.ck_at c1 12
  have a_Journal_payloads : PySem.W.findIn K (.ref (He.ga K "Journal")) "payloads" = some (some (.ref (He.ma K (He.ga K "Journal") "payloads"))) := He.eqO_ok (Xk.ck_at c1 13)
  have i_Journal_payloads : PySem.W.isFn K (.ref (He.ma K (He.ga K "Journal") "payloads")) = true := Xk.ck_at c1 14
  have a_members_of_slot : PySem.W.nsIn K mainGlobals "members_of_slot" = some (some (.ref (He.ga K "members_of_slot"))) := He.eqO_ok (Xk.ck_at c1 15)
  have a_batch_of : PySem.W.nsIn K mainGlobals "batch_of" = some (some (.ref (He.ga K "batch_of"))) := He.eqO_ok (Xk.ck_at c1 16)
  have a_sign_of : PySem.W.nsIn K mainGlobals "sign_of" = some (some (.ref (He.ga K "sign_of"))) := He.eqO_ok (Xk.ck_at c1 17)
  have a_pack : PySem.W.nsIn K mainGlobals "pack" = some (some (.ref (He.ga K "pack"))) := He.eqO_ok (Xk.ck_at c1 18)
  have a__add_data : PySem.W.nsIn K mainGlobals "_add_data" = some (some (.ref (He.ga K "_add_data"))) := He.eqO_ok (Xk.ck_at c1 19)
  have a__add_integer : PySem.W.nsIn K mainGlobals "_add_integer" = some (some (.ref (He.ga K "_add_integer"))) := He.eqO_ok (Xk.ck_at c1 20)
  have a__add_sevens : PySem.W.nsIn K mainGlobals "_add_sevens" = some (some (.ref (He.ga K "_add_sevens"))) := He.eqO_ok (Xk.ck_at c1 21)
  have a_unpack : PySem.W.nsIn K mainGlobals "unpack" = some (some (.ref (He.ga K "unpack"))) := He.eqO_ok (Xk.ck_at c1 22)
  have a__read_whole : PySem.W.nsIn K mainGlobals "_read_whole" = some (some (.ref (He.ga K "_read_whole"))) := He.eqO_ok (Xk.ck_at c1 23)
  have a__has_great_integer : PySem.W.nsIn K mainGlobals "_has_great_integer" = some (some (.ref (He.ga K "_has_great_integer"))) := He.eqO_ok (Xk.ck_at c1 24)
  have a__read_data : PySem.W.nsIn K mainGlobals "_read_data" = some (some (.ref (He.ga K "_read_data"))) := He.eqO_ok (Xk.ck_at c1 25)
  have a__read_integer : PySem.W.nsIn K mainGlobals "_read_integer" = some (some (.ref (He.ga K "_read_integer"))) := He.eqO_ok (Xk.ck_at c1 26)
  have a__read_text : PySem.W.nsIn K mainGlobals "_read_text" = some (some (.ref (He.ga K "_read_text"))) := He.eqO_ok (Xk.ck_at c1 27)
  have a__read_tuple : PySem.W.nsIn K mainGlobals "_read_tuple" = some (some (.ref (He.ga K "_read_tuple"))) := He.eqO_ok (Xk.ck_at c1 28)
  have a__read_sevens : PySem.W.nsIn K mainGlobals "_read_sevens" = some (some (.ref (He.ga K "_read_sevens"))) := He.eqO_ok (Xk.ck_at c1 29)
  have a__octet_at : PySem.W.nsIn K mainGlobals "_octet_at" = some (some (.ref (He.ga K "_octet_at"))) := He.eqO_ok (Xk.ck_at c1 30)
  have a_next_ballot : PySem.W.nsIn K mainGlobals "next_ballot" = some (some (.ref (He.ga K "next_ballot"))) := He.eqO_ok (Xk.ck_at c1 31)
  have a_Acceptor___init__ : PySem.W.findIn K (.ref (He.ga K "Acceptor")) "__init__" = some (some (.ref (He.ma K (He.ga K "Acceptor") "__init__"))) := He.eqO_ok (Xk.ck_at c1 32)
  have i_Acceptor___init__ : PySem.W.isFn K (.ref (He.ma K (He.ga K "Acceptor") "__init__")) = true := Xk.ck_at c1 33
  have a_Acceptor_promise : PySem.W.findIn K (.ref (He.ga K "Acceptor")) "promise" = some (some (.ref (He.ma K (He.ga K "Acceptor") "promise"))) := He.eqO_ok (Xk.ck_at c1 34)
  have i_Acceptor_promise : PySem.W.isFn K (.ref (He.ma K (He.ga K "Acceptor") "promise")) = true := Xk.ck_at c1 35
  have a_Acceptor_accept : PySem.W.findIn K (.ref (He.ga K "Acceptor")) "accept" = some (some (.ref (He.ma K (He.ga K "Acceptor") "accept"))) := He.eqO_ok (Xk.ck_at c1 36)
  have i_Acceptor_accept : PySem.W.isFn K (.ref (He.ma K (He.ga K "Acceptor") "accept")) = true := Xk.ck_at c1 37
  have a_Record___init__ : PySem.W.findIn K (.ref (He.ga K "Record")) "__init__" = some (some (.ref (He.ma K (He.ga K "Record") "__init__"))) := He.eqO_ok (Xk.ck_at c1 38)
  have i_Record___init__ : PySem.W.isFn K (.ref (He.ma K (He.ga K "Record") "__init__")) = true := Xk.ck_at c1 39
  have a_Record_do : PySem.W.findIn K (.ref (He.ga K "Record")) "do" = some (some (.ref (He.ma K (He.ga K "Record") "do"))) := He.eqO_ok (Xk.ck_at c1 40)
  have i_Record_do : PySem.W.isFn K (.ref (He.ma K (He.ga K "Record") "do")) = true := Xk.ck_at c1 41
  have a_Attempt___init__ : PySem.W.findIn K (.ref (He.ga K "Attempt")) "__init__" = some (some (.ref (He.ma K (He.ga K "Attempt") "__init__"))) := He.eqO_ok (Xk.ck_at c1 42)
  have i_Attempt___init__ : PySem.W.isFn K (.ref (He.ma K (He.ga K "Attempt") "__init__")) = true := Xk.ck_at c1 43
  have a_Node___init__ : PySem.W.findIn K (.ref (He.ga K "Node")) "__init__" = some (some (.ref (He.ma K (He.ga K "Node") "__init__"))) := He.eqO_ok (Xk.ck_at c1 44)
  have i_Node___init__ : PySem.W.isFn K (.ref (He.ma K (He.ga K "Node") "__init__")) = true := Xk.ck_at c1 45
  have a_Node__begin_anew : PySem.W.findIn K (.ref (He.ga K "Node")) "_begin_anew" = some (some (.ref (He.ma K (He.ga K "Node") "_begin_anew"))) := He.eqO_ok (Xk.ck_at c1 46)
  have i_Node__begin_anew : PySem.W.isFn K (.ref (He.ma K (He.ga K "Node") "_begin_anew")) = true := Xk.ck_at c1 47
  have a_Node_upto : PySem.W.findIn K (.ref (He.ga K "Node")) "upto" = some (some (.ref (He.ma K (He.ga K "Node") "upto"))) := He.eqO_ok (Xk.ck_at c1 48)
  have pg_Node_upto : PySem.W.specialIn K (.ref (He.ma K (He.ga K "Node") "upto")) "__get__" = some (some (.builtin "property.__get__")) := He.eqO_ok (Xk.ck_at c1 49)
  have pt_Node_upto : PySem.W.takesIn K (.ref (He.ma K (He.ga K "Node") "upto")) = some true := Xk.opt_ok (Xk.ck_at c1 50)
  obtain ⟨_, pr_Node_upto⟩ := Xk.rcIs_ok (Xk.ck_at c1 51)
  have a_Node_members_now : PySem.W.findIn K (.ref (He.ga K "Node")) "members_now" = some (some (.ref (He.ma K (He.ga K "Node") "members_now"))) := He.eqO_ok (Xk.ck_at c1 52)
  have pg_Node_members_now : PySem.W.specialIn K (.ref (He.ma K (He.ga K "Node") "members_now")) "__get__" = some (some (.builtin "property.__get__")) := He.eqO_ok (Xk.ck_at c1 53)
  have pt_Node_members_now : PySem.W.takesIn K (.ref (He.ma K (He.ga K "Node") "members_now")) = some true := Xk.opt_ok (Xk.ck_at c1 54)
  obtain ⟨_, pr_Node_members_now⟩ := Xk.rcIs_ok (Xk.ck_at c1 55)
  have a_Node_offer : PySem.W.findIn K (.ref (He.ga K "Node")) "offer" = some (some (.ref (He.ma K (He.ga K "Node") "offer"))) := He.eqO_ok (Xk.ck_at c1 56)
  have i_Node_offer : PySem.W.isFn K (.ref (He.ma K (He.ga K "Node") "offer")) = true := Xk.ck_at c1 57
  have a_Node_offer_members : PySem.W.findIn K (.ref (He.ga K "Node")) "offer_members" = some (some (.ref (He.ma K (He.ga K "Node") "offer_members"))) := He.eqO_ok (Xk.ck_at c1 58)
  have i_Node_offer_members : PySem.W.isFn K (.ref (He.ma K (He.ga K "Node") "offer_members")) = true := Xk.ck_at c1 59
  have a_Node_tick : PySem.W.findIn K (.ref (He.ga K "Node")) "tick" = some (some (.ref (He.ma K (He.ga K "Node") "tick"))) := He.eqO_ok (Xk.ck_at c1 60)
  have i_Node_tick : PySem.W.isFn K (.ref (He.ma K (He.ga K "Node") "tick")) = true := Xk.ck_at c1 61
  have a_Node_sends : PySem.W.findIn K (.ref (He.ga K "Node")) "sends" = some (some (.ref (He.ma K (He.ga K "Node") "sends"))) := He.eqO_ok (Xk.ck_at c1 62)
  have i_Node_sends : PySem.W.isFn K (.ref (He.ma K (He.ga K "Node") "sends")) = true := Xk.ck_at c1 63
  have a_Node_letters : PySem.W.findIn K (.ref (He.ga K "Node")) "letters" = some (some (.ref (He.ma K (He.ga K "Node") "letters"))) := He.eqO_ok (Xk.ck_at c1 64)
  have i_Node_letters : PySem.W.isFn K (.ref (He.ma K (He.ga K "Node") "letters")) = true := Xk.ck_at c1 65
  have a_Node_new_votes : PySem.W.findIn K (.ref (He.ga K "Node")) "new_votes" = some (some (.ref (He.ma K (He.ga K "Node") "new_votes"))) := He.eqO_ok (Xk.ck_at c1 66)
  have i_Node_new_votes : PySem.W.isFn K (.ref (He.ma K (He.ga K "Node") "new_votes")) = true := Xk.ck_at c1 67
  have a_Node__long_patience : PySem.W.findIn K (.ref (He.ga K "Node")) "_long_patience" = some (some (.ref (He.ma K (He.ga K "Node") "_long_patience"))) := He.eqO_ok (Xk.ck_at c1 68)
  have i_Node__long_patience : PySem.W.isFn K (.ref (He.ma K (He.ga K "Node") "_long_patience")) = true := Xk.ck_at c1 69
  have a_Node__something_waits : PySem.W.findIn K (.ref (He.ga K "Node")) "_something_waits" = some (some (.ref (He.ma K (He.ga K "Node") "_something_waits"))) := He.eqO_ok (Xk.ck_at c1 70)
  have i_Node__something_waits : PySem.W.isFn K (.ref (He.ma K (He.ga K "Node") "_something_waits")) = true := Xk.ck_at c1 71
  have a_Node__may_go_out : PySem.W.findIn K (.ref (He.ga K "Node")) "_may_go_out" = some (some (.ref (He.ma K (He.ga K "Node") "_may_go_out"))) := He.eqO_ok (Xk.ck_at c1 72)
  have i_Node__may_go_out : PySem.W.isFn K (.ref (He.ma K (He.ga K "Node") "_may_go_out")) = true := Xk.ck_at c1 73
  have a_Node__end_step : PySem.W.findIn K (.ref (He.ga K "Node")) "_end_step" = some (some (.ref (He.ma K (He.ga K "Node") "_end_step"))) := He.eqO_ok (Xk.ck_at c1 74)
  have i_Node__end_step : PySem.W.isFn K (.ref (He.ma K (He.ga K "Node") "_end_step")) = true := Xk.ck_at c1 75
  have a_Node__note : PySem.W.findIn K (.ref (He.ga K "Node")) "_note" = some (some (.ref (He.ma K (He.ga K "Node") "_note"))) := He.eqO_ok (Xk.ck_at c2 0)
  have i_Node__note : PySem.W.isFn K (.ref (He.ma K (He.ga K "Node") "_note")) = true := Xk.ck_at c2 1
  have a_Node__send : PySem.W.findIn K (.ref (He.ga K "Node")) "_send" = some (some (.ref (He.ma K (He.ga K "Node") "_send"))) := He.eqO_ok (Xk.ck_at c2 2)
  have i_Node__send : PySem.W.isFn K (.ref (He.ma K (He.ga K "Node") "_send")) = true := Xk.ck_at c2 3
  have a_Node__send_to_all : PySem.W.findIn K (.ref (He.ga K "Node")) "_send_to_all" = some (some (.ref (He.ma K (He.ga K "Node") "_send_to_all"))) := He.eqO_ok (Xk.ck_at c2 4)
  have i_Node__send_to_all : PySem.W.isFn K (.ref (He.ma K (He.ga K "Node") "_send_to_all")) = true := Xk.ck_at c2 5
  have a_Node__send_to_others : PySem.W.findIn K (.ref (He.ga K "Node")) "_send_to_others" = some (some (.ref (He.ma K (He.ga K "Node") "_send_to_others"))) := He.eqO_ok (Xk.ck_at c2 6)
  have i_Node__send_to_others : PySem.W.isFn K (.ref (He.ma K (He.ga K "Node") "_send_to_others")) = true := Xk.ck_at c2 7
  have a_Node__begin_if_free : PySem.W.findIn K (.ref (He.ga K "Node")) "_begin_if_free" = some (some (.ref (He.ma K (He.ga K "Node") "_begin_if_free"))) := He.eqO_ok (Xk.ck_at c2 8)
  have i_Node__begin_if_free : PySem.W.isFn K (.ref (He.ma K (He.ga K "Node") "_begin_if_free")) = true := Xk.ck_at c2 9
  have a_Node__begin : PySem.W.findIn K (.ref (He.ga K "Node")) "_begin" = some (some (.ref (He.ma K (He.ga K "Node") "_begin"))) := He.eqO_ok (Xk.ck_at c2 10)
  have i_Node__begin : PySem.W.isFn K (.ref (He.ma K (He.ga K "Node") "_begin")) = true := Xk.ck_at c2 11
  have a_Diary___init__ : PySem.W.findIn K (.ref (He.ga K "Diary")) "__init__" = some (some (.ref (He.ma K (He.ga K "Diary") "__init__"))) := He.eqO_ok (Xk.ck_at c2 12)
  have i_Diary___init__ : PySem.W.isFn K (.ref (He.ma K (He.ga K "Diary") "__init__")) = true := Xk.ck_at c2 13
  have a_Diary_settled : PySem.W.findIn K (.ref (He.ga K "Diary")) "settled" = some (some (.ref (He.ma K (He.ga K "Diary") "settled"))) := He.eqO_ok (Xk.ck_at c2 14)
  have i_Diary_settled : PySem.W.isFn K (.ref (He.ma K (He.ga K "Diary") "settled")) = true := Xk.ck_at c2 15
  have a__law_row : PySem.W.nsIn K mainGlobals "_law_row" = some (some (.ref (He.ga K "_law_row"))) := He.eqO_ok (Xk.ck_at c2 16)
  have a__law_take : PySem.W.nsIn K mainGlobals "_law_take" = some (some (.ref (He.ga K "_law_take"))) := He.eqO_ok (Xk.ck_at c2 17)
  have a__law_new : PySem.W.nsIn K mainGlobals "_law_new" = some (some (.ref (He.ga K "_law_new"))) := He.eqO_ok (Xk.ck_at c2 18)
  have a__law_forget : PySem.W.nsIn K mainGlobals "_law_forget" = some (some (.ref (He.ga K "_law_forget"))) := He.eqO_ok (Xk.ck_at c2 19)
  have a__law_members_of : PySem.W.nsIn K mainGlobals "_law_members_of" = some (some (.ref (He.ga K "_law_members_of"))) := He.eqO_ok (Xk.ck_at c2 20)
  have a__law_do : PySem.W.nsIn K mainGlobals "_law_do" = some (some (.ref (He.ga K "_law_do"))) := He.eqO_ok (Xk.ck_at c2 21)
  have a__law_note : PySem.W.nsIn K mainGlobals "_law_note" = some (some (.ref (He.ga K "_law_note"))) := He.eqO_ok (Xk.ck_at c2 22)
  have a__law_post : PySem.W.nsIn K mainGlobals "_law_post" = some (some (.ref (He.ga K "_law_post"))) := He.eqO_ok (Xk.ck_at c2 23)
  have a__law_all : PySem.W.nsIn K mainGlobals "_law_all" = some (some (.ref (He.ga K "_law_all"))) := He.eqO_ok (Xk.ck_at c2 24)
  have a__law_others : PySem.W.nsIn K mainGlobals "_law_others" = some (some (.ref (He.ga K "_law_others"))) := He.eqO_ok (Xk.ck_at c2 25)
  have a__law_wishes : PySem.W.nsIn K mainGlobals "_law_wishes" = some (some (.ref (He.ga K "_law_wishes"))) := He.eqO_ok (Xk.ck_at c2 26)
  have a__law_begin : PySem.W.nsIn K mainGlobals "_law_begin" = some (some (.ref (He.ga K "_law_begin"))) := He.eqO_ok (Xk.ck_at c2 27)
  have a__law_offer : PySem.W.nsIn K mainGlobals "_law_offer" = some (some (.ref (He.ga K "_law_offer"))) := He.eqO_ok (Xk.ck_at c2 28)
  have a__law_offer_members : PySem.W.nsIn K mainGlobals "_law_offer_members" = some (some (.ref (He.ga K "_law_offer_members"))) := He.eqO_ok (Xk.ck_at c2 29)
  have a__law_end : PySem.W.nsIn K mainGlobals "_law_end" = some (some (.ref (He.ga K "_law_end"))) := He.eqO_ok (Xk.ck_at c2 30)
  have a__law_attempt_agrees : PySem.W.nsIn K mainGlobals "_law_attempt_agrees" = some (some (.ref (He.ga K "_law_attempt_agrees"))) := He.eqO_ok (Xk.ck_at c2 31)
  have a__law_agrees : PySem.W.nsIn K mainGlobals "_law_agrees" = some (some (.ref (He.ga K "_law_agrees"))) := He.eqO_ok (Xk.ck_at c2 32)
  have a__law_said : PySem.W.nsIn K mainGlobals "_law_said" = some (some (.ref (He.ga K "_law_said"))) := He.eqO_ok (Xk.ck_at c2 33)
  have a__law_some_members : PySem.W.nsIn K mainGlobals "_law_some_members" = some (some (.ref (He.ga K "_law_some_members"))) := He.eqO_ok (Xk.ck_at c2 34)
  have a__law_make : PySem.W.nsIn K mainGlobals "_law_make" = some (some (.ref (He.ga K "_law_make"))) := He.eqO_ok (Xk.ck_at c2 35)
  have a__law_start : PySem.W.nsIn K mainGlobals "_law_start" = some (some (.ref (He.ga K "_law_start"))) := He.eqO_ok (Xk.ck_at c2 36)
  have a__law_tick : PySem.W.nsIn K mainGlobals "_law_tick" = some (some (.ref (He.ga K "_law_tick"))) := He.eqO_ok (Xk.ck_at c2 37)
  have a__law_deed : PySem.W.nsIn K mainGlobals "_law_deed" = some (some (.ref (He.ga K "_law_deed"))) := He.eqO_ok (Xk.ck_at c2 38)
  have a_law : PySem.W.nsIn K mainGlobals "law" = some (some (.ref (He.ga K "law"))) := He.eqO_ok (Xk.ck_at c2 39)
  obtain ⟨_, z_ACCEPT⟩ := Xk.strIs_ok (Xk.ck_at c2 40)
  obtain ⟨_, z_ASKING⟩ := Xk.strIs_ok (Xk.ck_at c2 41)
  obtain ⟨_, z_BATCH⟩ := Xk.strIs_ok (Xk.ck_at c2 42)
  obtain ⟨_, z_BELOW_ZERO⟩ := Xk.intIs_ok (Xk.ck_at c2 43)
  obtain ⟨_, z_CHOSEN⟩ := Xk.strIs_ok (Xk.ck_at c2 44)
  obtain ⟨_, z_FRAME_HEAD⟩ := Xk.intIs_ok (Xk.ck_at c2 45)
  obtain ⟨_, z_FROM_ZERO⟩ := Xk.intIs_ok (Xk.ck_at c2 46)
  obtain ⟨_, z_HIGH_SIGNS⟩ := Xk.strIs_ok (Xk.ck_at c2 47)
  obtain ⟨_, z_LONG_PATIENCE⟩ := Xk.intIs_ok (Xk.ck_at c2 48)
  obtain ⟨_, z_LOW_SIGNS⟩ := Xk.strIs_ok (Xk.ck_at c2 49)
  obtain ⟨_, z_MEMBERS⟩ := Xk.strIs_ok (Xk.ck_at c2 50)
  obtain ⟨_, z_MOST_BATCH⟩ := Xk.intIs_ok (Xk.ck_at c2 51)
  obtain ⟨_, z_MOST_DEPTH⟩ := Xk.intIs_ok (Xk.ck_at c2 52)
  obtain ⟨_, z_MOST_INTEGER⟩ := Xk.intIs_ok (Xk.ck_at c2 53)
  obtain ⟨_, z_MOST_ROUND⟩ := Xk.intIs_ok (Xk.ck_at c2 54)
  obtain ⟨_, z_MOST_WAITING⟩ := Xk.intIs_ok (Xk.ck_at c2 55)
  obtain ⟨_, z_NOTHING⟩ := Xk.intIs_ok (Xk.ck_at c2 56)
  have z_NO_BALLOT : PySem.W.nsIn K mainGlobals "NO_BALLOT" = some (some (.ref (He.ga K "NO_BALLOT"))) := He.eqO_ok (Xk.ck_at c2 57)
  obtain ⟨_, _, _, _, _, zl_NO_BALLOT⟩ := Xk.tupI_ok (Xk.ck_at c2 58 (f := fun K => Xk.tupI 0 0 (He.ga K "NO_BALLOT") K))
  obtain ⟨_, z_PROMISE⟩ := Xk.strIs_ok (Xk.ck_at c2 59)
  obtain ⟨_, z_TEXT⟩ := Xk.intIs_ok (Xk.ck_at c2 60)
  obtain ⟨_, z_TUPLE⟩ := Xk.intIs_ok (Xk.ck_at c2 61)
  obtain ⟨_, z_UP⟩ := Xk.strIs_ok (Xk.ck_at c2 62)
  obtain ⟨dv_Acceptor___init__, _, _, _, lT_Acceptor___init__⟩ := Xk.tupRN_ok (Xk.ck_at c2 63 (f := fun K => Xk.tupRN hd_Acceptor___init__ (He.ga K "NO_BALLOT") K))
  have z_any : PySem.W.nsIn K mainGlobals "any" = some none := He.eqO_ok (Xk.ck_at c2 64)
  have z_bool : PySem.W.nsIn K mainGlobals "bool" = some none := He.eqO_ok (Xk.ck_at c2 65)
  have z_int : PySem.W.nsIn K mainGlobals "int" = some none := He.eqO_ok (Xk.ck_at c2 66)
  have z_isinstance : PySem.W.nsIn K mainGlobals "isinstance" = some none := He.eqO_ok (Xk.ck_at c2 67)
  have z_len : PySem.W.nsIn K mainGlobals "len" = some none := He.eqO_ok (Xk.ck_at c2 68)
  have z_list : PySem.W.nsIn K mainGlobals "list" = some none := He.eqO_ok (Xk.ck_at c2 69)
  have z_max : PySem.W.nsIn K mainGlobals "max" = some none := He.eqO_ok (Xk.ck_at c2 70)
  have z_ord : PySem.W.nsIn K mainGlobals "ord" = some none := He.eqO_ok (Xk.ck_at c2 71)
  have z_range : PySem.W.nsIn K mainGlobals "range" = some none := He.eqO_ok (Xk.ck_at c2 72)
  have z_reversed : PySem.W.nsIn K mainGlobals "reversed" = some none := He.eqO_ok (Xk.ck_at c2 73)
  have z_str : PySem.W.nsIn K mainGlobals "str" = some none := He.eqO_ok (Xk.ck_at c2 74)
  have z_tuple : PySem.W.nsIn K mainGlobals "tuple" = some none := He.eqO_ok (Xk.ck_at c2 75)
  obtain ⟨_, _, _, _, _, _, _, _, _, l_Journal___init__, c_Journal___init__, k_Journal___init__⟩ := Xk.Df.get0 (Xk.df_at c0 0 (d := hd_Journal___init__)).1 (Xk.df_at c0 0 (d := hd_Journal___init__)).2 rfl
  obtain ⟨_, _, _, _, _, _, _, _, _, l_Journal_frame_count, c_Journal_frame_count, k_Journal_frame_count⟩ := Xk.Df.get0 (Xk.df_at c0 1 (d := hd_Journal_frame_count)).1 (Xk.df_at c0 1 (d := hd_Journal_frame_count)).2 rfl
  obtain ⟨_, _, _, _, _, _, _, _, _, l_Journal_synced_frames, c_Journal_synced_frames, k_Journal_synced_frames⟩ := Xk.Df.get0 (Xk.df_at c0 2 (d := hd_Journal_synced_frames)).1 (Xk.df_at c0 2 (d := hd_Journal_synced_frames)).2 rfl
  obtain ⟨_, _, _, _, _, _, _, _, _, l_Journal_append, c_Journal_append, k_Journal_append⟩ := Xk.Df.get0 (Xk.df_at c0 3 (d := hd_Journal_append)).1 (Xk.df_at c0 3 (d := hd_Journal_append)).2 rfl
  obtain ⟨_, _, _, _, _, _, _, _, _, l_Journal_sync, c_Journal_sync, k_Journal_sync⟩ := Xk.Df.get0 (Xk.df_at c0 4 (d := hd_Journal_sync)).1 (Xk.df_at c0 4 (d := hd_Journal_sync)).2 rfl
  obtain ⟨_, _, _, _, _, _, _, _, _, l_Journal_payloads, c_Journal_payloads, k_Journal_payloads⟩ := Xk.Df.get0 (Xk.df_at c0 5 (d := hd_Journal_payloads)).1 (Xk.df_at c0 5 (d := hd_Journal_payloads)).2 rfl
  obtain ⟨_, _, _, _, _, _, _, _, _, l_members_of_slot, c_members_of_slot, k_members_of_slot⟩ := Xk.Df.get0 (Xk.df_at c0 6 (d := hd_members_of_slot)).1 (Xk.df_at c0 6 (d := hd_members_of_slot)).2 rfl
  obtain ⟨_, _, _, _, _, _, _, _, _, l_batch_of, c_batch_of, k_batch_of⟩ := Xk.Df.get0 (Xk.df_at c0 7 (d := hd_batch_of)).1 (Xk.df_at c0 7 (d := hd_batch_of)).2 rfl
  obtain ⟨_, _, _, _, _, _, _, _, _, l_sign_of, c_sign_of, k_sign_of⟩ := Xk.Df.get0 (Xk.df_at c0 8 (d := hd_sign_of)).1 (Xk.df_at c0 8 (d := hd_sign_of)).2 rfl
  obtain ⟨_, _, _, _, _, _, _, _, _, l_pack, c_pack, k_pack⟩ := Xk.Df.get0 (Xk.df_at c0 9 (d := hd_pack)).1 (Xk.df_at c0 9 (d := hd_pack)).2 rfl
  obtain ⟨_, _, _, _, _, _, _, _, _, l__add_data, c__add_data, k__add_data⟩ := Xk.Df.get0 (Xk.df_at c0 10 (d := hd__add_data)).1 (Xk.df_at c0 10 (d := hd__add_data)).2 rfl
  obtain ⟨_, _, _, _, _, _, _, _, _, l__add_integer, c__add_integer, k__add_integer⟩ := Xk.Df.get0 (Xk.df_at c0 11 (d := hd__add_integer)).1 (Xk.df_at c0 11 (d := hd__add_integer)).2 rfl
  obtain ⟨_, _, _, _, _, _, _, _, _, l__add_sevens, c__add_sevens, k__add_sevens⟩ := Xk.Df.get0 (Xk.df_at c0 12 (d := hd__add_sevens)).1 (Xk.df_at c0 12 (d := hd__add_sevens)).2 rfl
  obtain ⟨_, _, _, _, _, _, _, _, _, l_unpack, c_unpack, k_unpack⟩ := Xk.Df.get0 (Xk.df_at c0 13 (d := hd_unpack)).1 (Xk.df_at c0 13 (d := hd_unpack)).2 rfl
  obtain ⟨_, _, _, _, _, _, _, _, _, l__read_whole, c__read_whole, k__read_whole⟩ := Xk.Df.get0 (Xk.df_at c0 14 (d := hd__read_whole)).1 (Xk.df_at c0 14 (d := hd__read_whole)).2 rfl
  obtain ⟨_, _, _, _, _, _, _, _, _, l__has_great_integer, c__has_great_integer, k__has_great_integer⟩ := Xk.Df.get0 (Xk.df_at c0 15 (d := hd__has_great_integer)).1 (Xk.df_at c0 15 (d := hd__has_great_integer)).2 rfl
  obtain ⟨_, _, _, _, _, _, _, _, _, l__read_data, c__read_data, k__read_data⟩ := Xk.Df.get0 (Xk.df_at c0 16 (d := hd__read_data)).1 (Xk.df_at c0 16 (d := hd__read_data)).2 rfl
  obtain ⟨_, _, _, _, _, _, _, _, _, l__read_integer, c__read_integer, k__read_integer⟩ := Xk.Df.get0 (Xk.df_at c0 17 (d := hd__read_integer)).1 (Xk.df_at c0 17 (d := hd__read_integer)).2 rfl
  obtain ⟨_, _, _, _, _, _, _, _, _, l__read_text, c__read_text, k__read_text⟩ := Xk.Df.get0 (Xk.df_at c0 18 (d := hd__read_text)).1 (Xk.df_at c0 18 (d := hd__read_text)).2 rfl
  obtain ⟨_, _, _, _, _, _, _, _, _, l__read_tuple, c__read_tuple, k__read_tuple⟩ := Xk.Df.get0 (Xk.df_at c0 19 (d := hd__read_tuple)).1 (Xk.df_at c0 19 (d := hd__read_tuple)).2 rfl
  obtain ⟨_, _, _, _, _, _, _, _, _, l__read_sevens, c__read_sevens, k__read_sevens⟩ := Xk.Df.get0 (Xk.df_at c0 20 (d := hd__read_sevens)).1 (Xk.df_at c0 20 (d := hd__read_sevens)).2 rfl
  obtain ⟨_, _, _, _, _, _, _, _, _, l__octet_at, c__octet_at, k__octet_at⟩ := Xk.Df.get0 (Xk.df_at c0 21 (d := hd__octet_at)).1 (Xk.df_at c0 21 (d := hd__octet_at)).2 rfl
  obtain ⟨_, _, _, _, _, _, _, _, _, l_next_ballot, c_next_ballot, k_next_ballot⟩ := Xk.Df.get0 (Xk.df_at c0 22 (d := hd_next_ballot)).1 (Xk.df_at c0 22 (d := hd_next_ballot)).2 rfl
  obtain ⟨_, _, _, _, _, _, _, _, _, l_Acceptor___init__, c_Acceptor___init__, k_Acceptor___init__, _⟩ := Xk.Df.get (Xk.df_at c0 23 (d := hd_Acceptor___init__)).1 (Xk.df_at c0 23 (d := hd_Acceptor___init__)).2
  rw [dv_Acceptor___init__] at l_Acceptor___init__
  obtain ⟨_, _, _, _, _, _, _, _, _, l_Acceptor_promise, c_Acceptor_promise, k_Acceptor_promise⟩ := Xk.Df.get0 (Xk.df_at c0 24 (d := hd_Acceptor_promise)).1 (Xk.df_at c0 24 (d := hd_Acceptor_promise)).2 rfl
  obtain ⟨_, _, _, _, _, _, _, _, _, l_Acceptor_accept, c_Acceptor_accept, k_Acceptor_accept⟩ := Xk.Df.get0 (Xk.df_at c1 0 (d := hd_Acceptor_accept)).1 (Xk.df_at c1 0 (d := hd_Acceptor_accept)).2 rfl
  obtain ⟨_, _, _, _, _, _, _, _, _, l_Record___init__, c_Record___init__, k_Record___init__⟩ := Xk.Df.get0 (Xk.df_at c1 1 (d := hd_Record___init__)).1 (Xk.df_at c1 1 (d := hd_Record___init__)).2 rfl
  obtain ⟨_, _, _, _, _, _, _, _, _, l_Record_do, c_Record_do, k_Record_do⟩ := Xk.Df.get0 (Xk.df_at c1 2 (d := hd_Record_do)).1 (Xk.df_at c1 2 (d := hd_Record_do)).2 rfl
  obtain ⟨_, _, _, _, _, _, _, _, _, l_Attempt___init__, c_Attempt___init__, k_Attempt___init__⟩ := Xk.Df.get0 (Xk.df_at c1 3 (d := hd_Attempt___init__)).1 (Xk.df_at c1 3 (d := hd_Attempt___init__)).2 rfl
  obtain ⟨_, _, _, _, _, _, _, _, _, l_Node___init__, c_Node___init__, k_Node___init__⟩ := Xk.Df.get0 (Xk.df_at c1 4 (d := hd_Node___init__)).1 (Xk.df_at c1 4 (d := hd_Node___init__)).2 rfl
  obtain ⟨_, _, _, _, _, _, _, _, _, l_Node__begin_anew, c_Node__begin_anew, k_Node__begin_anew⟩ := Xk.Df.get0 (Xk.df_at c1 5 (d := hd_Node__begin_anew)).1 (Xk.df_at c1 5 (d := hd_Node__begin_anew)).2 rfl
  obtain ⟨_, _, _, _, _, _, _, _, _, l_Node_upto, c_Node_upto, k_Node_upto⟩ := Xk.Df.get0 (Xk.df_at c1 6 (d := hd_Node_upto)).1 (Xk.df_at c1 6 (d := hd_Node_upto)).2 rfl
  obtain ⟨_, _, _, _, _, _, _, _, _, l_Node_members_now, c_Node_members_now, k_Node_members_now⟩ := Xk.Df.get0 (Xk.df_at c1 7 (d := hd_Node_members_now)).1 (Xk.df_at c1 7 (d := hd_Node_members_now)).2 rfl
  obtain ⟨_, _, _, _, _, _, _, _, _, l_Node_offer, c_Node_offer, k_Node_offer⟩ := Xk.Df.get0 (Xk.df_at c1 8 (d := hd_Node_offer)).1 (Xk.df_at c1 8 (d := hd_Node_offer)).2 rfl
  obtain ⟨_, _, _, _, _, _, _, _, _, l_Node_offer_members, c_Node_offer_members, k_Node_offer_members⟩ := Xk.Df.get0 (Xk.df_at c1 9 (d := hd_Node_offer_members)).1 (Xk.df_at c1 9 (d := hd_Node_offer_members)).2 rfl
  obtain ⟨_, _, _, _, _, _, _, _, _, l_Node_tick, c_Node_tick, k_Node_tick⟩ := Xk.Df.get0 (Xk.df_at c1 10 (d := hd_Node_tick)).1 (Xk.df_at c1 10 (d := hd_Node_tick)).2 rfl
  obtain ⟨_, _, _, _, _, _, _, _, _, l_Node_sends, c_Node_sends, k_Node_sends⟩ := Xk.Df.get0 (Xk.df_at c1 11 (d := hd_Node_sends)).1 (Xk.df_at c1 11 (d := hd_Node_sends)).2 rfl
  obtain ⟨_, _, _, _, _, _, _, _, _, l_Node_letters, c_Node_letters, k_Node_letters⟩ := Xk.Df.get0 (Xk.df_at c1 12 (d := hd_Node_letters)).1 (Xk.df_at c1 12 (d := hd_Node_letters)).2 rfl
  obtain ⟨_, _, _, _, _, _, _, _, _, l_Node_new_votes, c_Node_new_votes, k_Node_new_votes⟩ := Xk.Df.get0 (Xk.df_at c1 13 (d := hd_Node_new_votes)).1 (Xk.df_at c1 13 (d := hd_Node_new_votes)).2 rfl
  obtain ⟨_, _, _, _, _, _, _, _, _, l_Node__long_patience, c_Node__long_patience, k_Node__long_patience⟩ := Xk.Df.get0 (Xk.df_at c1 14 (d := hd_Node__long_patience)).1 (Xk.df_at c1 14 (d := hd_Node__long_patience)).2 rfl
  obtain ⟨_, _, _, _, _, _, _, _, _, l_Node__something_waits, c_Node__something_waits, k_Node__something_waits⟩ := Xk.Df.get0 (Xk.df_at c1 15 (d := hd_Node__something_waits)).1 (Xk.df_at c1 15 (d := hd_Node__something_waits)).2 rfl
  obtain ⟨_, _, _, _, _, _, _, _, _, l_Node__may_go_out, c_Node__may_go_out, k_Node__may_go_out⟩ := Xk.Df.get0 (Xk.df_at c1 16 (d := hd_Node__may_go_out)).1 (Xk.df_at c1 16 (d := hd_Node__may_go_out)).2 rfl
  obtain ⟨_, _, _, _, _, _, _, _, _, l_Node__end_step, c_Node__end_step, k_Node__end_step⟩ := Xk.Df.get0 (Xk.df_at c1 17 (d := hd_Node__end_step)).1 (Xk.df_at c1 17 (d := hd_Node__end_step)).2 rfl
  obtain ⟨_, _, _, _, _, _, _, _, _, l_Node__note, c_Node__note, k_Node__note⟩ := Xk.Df.get0 (Xk.df_at c1 18 (d := hd_Node__note)).1 (Xk.df_at c1 18 (d := hd_Node__note)).2 rfl
  obtain ⟨_, _, _, _, _, _, _, _, _, l_Node__send, c_Node__send, k_Node__send⟩ := Xk.Df.get0 (Xk.df_at c1 19 (d := hd_Node__send)).1 (Xk.df_at c1 19 (d := hd_Node__send)).2 rfl
  obtain ⟨_, _, _, _, _, _, _, _, _, l_Node__send_to_all, c_Node__send_to_all, k_Node__send_to_all⟩ := Xk.Df.get0 (Xk.df_at c1 20 (d := hd_Node__send_to_all)).1 (Xk.df_at c1 20 (d := hd_Node__send_to_all)).2 rfl
  obtain ⟨_, _, _, _, _, _, _, _, _, l_Node__send_to_others, c_Node__send_to_others, k_Node__send_to_others⟩ := Xk.Df.get0 (Xk.df_at c1 21 (d := hd_Node__send_to_others)).1 (Xk.df_at c1 21 (d := hd_Node__send_to_others)).2 rfl
  obtain ⟨_, _, _, _, _, _, _, _, _, l_Node__begin_if_free, c_Node__begin_if_free, k_Node__begin_if_free⟩ := Xk.Df.get0 (Xk.df_at c1 22 (d := hd_Node__begin_if_free)).1 (Xk.df_at c1 22 (d := hd_Node__begin_if_free)).2 rfl
  obtain ⟨_, _, _, _, _, _, _, _, _, l_Node__begin, c_Node__begin, k_Node__begin⟩ := Xk.Df.get0 (Xk.df_at c1 23 (d := hd_Node__begin)).1 (Xk.df_at c1 23 (d := hd_Node__begin)).2 rfl
  obtain ⟨_, _, _, _, _, _, _, _, _, l_Diary___init__, c_Diary___init__, k_Diary___init__⟩ := Xk.Df.get0 (Xk.df_at c1 24 (d := hd_Diary___init__)).1 (Xk.df_at c1 24 (d := hd_Diary___init__)).2 rfl
  obtain ⟨_, _, _, _, _, _, _, _, _, l_Diary_settled, c_Diary_settled, k_Diary_settled⟩ := Xk.Df.get0 (Xk.df_at c2 0 (d := hd_Diary_settled)).1 (Xk.df_at c2 0 (d := hd_Diary_settled)).2 rfl
  obtain ⟨_, _, _, _, _, _, _, _, _, l__law_row, c__law_row, k__law_row⟩ := Xk.Df.get0 (Xk.df_at c2 1 (d := hd__law_row)).1 (Xk.df_at c2 1 (d := hd__law_row)).2 rfl
  obtain ⟨_, _, _, _, _, _, _, _, _, l__law_take, c__law_take, k__law_take⟩ := Xk.Df.get0 (Xk.df_at c2 2 (d := hd__law_take)).1 (Xk.df_at c2 2 (d := hd__law_take)).2 rfl
  obtain ⟨_, _, _, _, _, _, _, _, _, l__law_new, c__law_new, k__law_new⟩ := Xk.Df.get0 (Xk.df_at c2 3 (d := hd__law_new)).1 (Xk.df_at c2 3 (d := hd__law_new)).2 rfl
  obtain ⟨_, _, _, _, _, _, _, _, _, l__law_forget, c__law_forget, k__law_forget⟩ := Xk.Df.get0 (Xk.df_at c2 4 (d := hd__law_forget)).1 (Xk.df_at c2 4 (d := hd__law_forget)).2 rfl
  obtain ⟨_, _, _, _, _, _, _, _, _, l__law_members_of, c__law_members_of, k__law_members_of⟩ := Xk.Df.get0 (Xk.df_at c2 5 (d := hd__law_members_of)).1 (Xk.df_at c2 5 (d := hd__law_members_of)).2 rfl
  obtain ⟨_, _, _, _, _, _, _, _, _, l__law_do, c__law_do, k__law_do⟩ := Xk.Df.get0 (Xk.df_at c2 6 (d := hd__law_do)).1 (Xk.df_at c2 6 (d := hd__law_do)).2 rfl
  obtain ⟨_, _, _, _, _, _, _, _, _, l__law_note, c__law_note, k__law_note⟩ := Xk.Df.get0 (Xk.df_at c2 7 (d := hd__law_note)).1 (Xk.df_at c2 7 (d := hd__law_note)).2 rfl
  obtain ⟨_, _, _, _, _, _, _, _, _, l__law_post, c__law_post, k__law_post⟩ := Xk.Df.get0 (Xk.df_at c2 8 (d := hd__law_post)).1 (Xk.df_at c2 8 (d := hd__law_post)).2 rfl
  obtain ⟨_, _, _, _, _, _, _, _, _, l__law_all, c__law_all, k__law_all⟩ := Xk.Df.get0 (Xk.df_at c2 9 (d := hd__law_all)).1 (Xk.df_at c2 9 (d := hd__law_all)).2 rfl
  obtain ⟨_, _, _, _, _, _, _, _, _, l__law_others, c__law_others, k__law_others⟩ := Xk.Df.get0 (Xk.df_at c2 10 (d := hd__law_others)).1 (Xk.df_at c2 10 (d := hd__law_others)).2 rfl
  obtain ⟨_, _, _, _, _, _, _, _, _, l__law_wishes, c__law_wishes, k__law_wishes⟩ := Xk.Df.get0 (Xk.df_at c2 11 (d := hd__law_wishes)).1 (Xk.df_at c2 11 (d := hd__law_wishes)).2 rfl
  obtain ⟨_, _, _, _, _, _, _, _, _, l__law_begin, c__law_begin, k__law_begin⟩ := Xk.Df.get0 (Xk.df_at c2 12 (d := hd__law_begin)).1 (Xk.df_at c2 12 (d := hd__law_begin)).2 rfl
  obtain ⟨_, _, _, _, _, _, _, _, _, l__law_offer, c__law_offer, k__law_offer⟩ := Xk.Df.get0 (Xk.df_at c2 13 (d := hd__law_offer)).1 (Xk.df_at c2 13 (d := hd__law_offer)).2 rfl
  obtain ⟨_, _, _, _, _, _, _, _, _, l__law_offer_members, c__law_offer_members, k__law_offer_members⟩ := Xk.Df.get0 (Xk.df_at c2 14 (d := hd__law_offer_members)).1 (Xk.df_at c2 14 (d := hd__law_offer_members)).2 rfl
  obtain ⟨_, _, _, _, _, _, _, _, _, l__law_end, c__law_end, k__law_end⟩ := Xk.Df.get0 (Xk.df_at c2 15 (d := hd__law_end)).1 (Xk.df_at c2 15 (d := hd__law_end)).2 rfl
  obtain ⟨_, _, _, _, _, _, _, _, _, l__law_attempt_agrees, c__law_attempt_agrees, k__law_attempt_agrees⟩ := Xk.Df.get0 (Xk.df_at c2 16 (d := hd__law_attempt_agrees)).1 (Xk.df_at c2 16 (d := hd__law_attempt_agrees)).2 rfl
  obtain ⟨_, _, _, _, _, _, _, _, _, l__law_agrees, c__law_agrees, k__law_agrees⟩ := Xk.Df.get0 (Xk.df_at c2 17 (d := hd__law_agrees)).1 (Xk.df_at c2 17 (d := hd__law_agrees)).2 rfl
  obtain ⟨_, _, _, _, _, _, _, _, _, l__law_said, c__law_said, k__law_said⟩ := Xk.Df.get0 (Xk.df_at c2 18 (d := hd__law_said)).1 (Xk.df_at c2 18 (d := hd__law_said)).2 rfl
  obtain ⟨_, _, _, _, _, _, _, _, _, l__law_some_members, c__law_some_members, k__law_some_members⟩ := Xk.Df.get0 (Xk.df_at c2 19 (d := hd__law_some_members)).1 (Xk.df_at c2 19 (d := hd__law_some_members)).2 rfl
  obtain ⟨_, _, _, _, _, _, _, _, _, l__law_make, c__law_make, k__law_make⟩ := Xk.Df.get0 (Xk.df_at c2 20 (d := hd__law_make)).1 (Xk.df_at c2 20 (d := hd__law_make)).2 rfl
  obtain ⟨_, _, _, _, _, _, _, _, _, l__law_start, c__law_start, k__law_start⟩ := Xk.Df.get0 (Xk.df_at c2 21 (d := hd__law_start)).1 (Xk.df_at c2 21 (d := hd__law_start)).2 rfl
  obtain ⟨_, _, _, _, _, _, _, _, _, l__law_tick, c__law_tick, k__law_tick⟩ := Xk.Df.get0 (Xk.df_at c2 22 (d := hd__law_tick)).1 (Xk.df_at c2 22 (d := hd__law_tick)).2 rfl
  obtain ⟨_, _, _, _, _, _, _, _, _, l__law_deed, c__law_deed, k__law_deed⟩ := Xk.Df.get0 (Xk.df_at c2 23 (d := hd__law_deed)).1 (Xk.df_at c2 23 (d := hd__law_deed)).2 rfl
  obtain ⟨_, _, _, _, _, _, _, _, _, l_law, c_law, k_law⟩ := Xk.Df.get0 (Xk.df_at c2 24 (d := hd_law)).1 (Xk.df_at c2 24 (d := hd_law)).2 rfl
  have efa : mg "law" = some (.ref (He.ga K "law")) := PySem.W.mg_of X G a_law
  rw [hfa] at efa
  cases efa
  exact all_mk X G hfa aC_Acceptor pg_Acceptor hd_Acceptor po_Acceptor sa_Acceptor mk_Acceptor kc_Acceptor na_Acceptor_promised na_Acceptor_accepted aC_Attempt pg_Attempt hd_Attempt po_Attempt sa_Attempt mk_Attempt kc_Attempt na_Attempt_ballot na_Attempt_entry na_Attempt_members na_Attempt_stage na_Attempt_promised_by na_Attempt_voted_by na_Attempt_bound aC_Diary pg_Diary hd_Diary po_Diary sa_Diary mk_Diary kc_Diary na_Diary_lines aC_Journal pg_Journal hd_Journal po_Journal sa_Journal mk_Journal kc_Journal na_Journal__payloads na_Journal__sizes na_Journal__synced aC_Node pg_Node hd_Node po_Node sa_Node mk_Node kc_Node na_Node_index na_Node_size na_Node_first_members na_Node_lazy na_Node_state na_Node_journal na_Node_record na_Node__make_machine na_Node__untold na_Node_waiting na_Node_wanted na_Node_attempt na_Node_patience na_Node_guest na_Node_seen na_Node_machine na_Node__sends na_Node__letters aC_Record pg_Record hd_Record po_Record sa_Record mk_Record kc_Record na_Record_row na_Record_acceptor a_Journal___init__ i_Journal___init__ l_Journal___init__ c_Journal___init__ k_Journal___init__ a_Journal_frame_count pg_Journal_frame_count pt_Journal_frame_count pr_Journal_frame_count l_Journal_frame_count c_Journal_frame_count k_Journal_frame_count a_Journal_synced_frames pg_Journal_synced_frames pt_Journal_synced_frames pr_Journal_synced_frames l_Journal_synced_frames c_Journal_synced_frames k_Journal_synced_frames a_Journal_append i_Journal_append l_Journal_append c_Journal_append k_Journal_append a_Journal_sync i_Journal_sync l_Journal_sync c_Journal_sync k_Journal_sync a_Journal_payloads i_Journal_payloads l_Journal_payloads c_Journal_payloads k_Journal_payloads a_members_of_slot l_members_of_slot c_members_of_slot k_members_of_slot a_batch_of l_batch_of c_batch_of k_batch_of a_sign_of l_sign_of c_sign_of k_sign_of a_pack l_pack c_pack k_pack a__add_data l__add_data c__add_data k__add_data a__add_integer l__add_integer c__add_integer k__add_integer a__add_sevens l__add_sevens c__add_sevens k__add_sevens a_unpack l_unpack c_unpack k_unpack a__read_whole l__read_whole c__read_whole k__read_whole a__has_great_integer l__has_great_integer c__has_great_integer k__has_great_integer a__read_data l__read_data c__read_data k__read_data a__read_integer l__read_integer c__read_integer k__read_integer a__read_text l__read_text c__read_text k__read_text a__read_tuple l__read_tuple c__read_tuple k__read_tuple a__read_sevens l__read_sevens c__read_sevens k__read_sevens a__octet_at l__octet_at c__octet_at k__octet_at a_next_ballot l_next_ballot c_next_ballot k_next_ballot a_Acceptor___init__ i_Acceptor___init__ l_Acceptor___init__ c_Acceptor___init__ k_Acceptor___init__ a_Acceptor_promise i_Acceptor_promise l_Acceptor_promise c_Acceptor_promise k_Acceptor_promise a_Acceptor_accept i_Acceptor_accept l_Acceptor_accept c_Acceptor_accept k_Acceptor_accept a_Record___init__ i_Record___init__ l_Record___init__ c_Record___init__ k_Record___init__ a_Record_do i_Record_do l_Record_do c_Record_do k_Record_do a_Attempt___init__ i_Attempt___init__ l_Attempt___init__ c_Attempt___init__ k_Attempt___init__ a_Node___init__ i_Node___init__ l_Node___init__ c_Node___init__ k_Node___init__ a_Node__begin_anew i_Node__begin_anew l_Node__begin_anew c_Node__begin_anew k_Node__begin_anew a_Node_upto pg_Node_upto pt_Node_upto pr_Node_upto l_Node_upto c_Node_upto k_Node_upto a_Node_members_now pg_Node_members_now pt_Node_members_now pr_Node_members_now l_Node_members_now c_Node_members_now k_Node_members_now a_Node_offer i_Node_offer l_Node_offer c_Node_offer k_Node_offer a_Node_offer_members i_Node_offer_members l_Node_offer_members c_Node_offer_members k_Node_offer_members a_Node_tick i_Node_tick l_Node_tick c_Node_tick k_Node_tick a_Node_sends i_Node_sends l_Node_sends c_Node_sends k_Node_sends a_Node_letters i_Node_letters l_Node_letters c_Node_letters k_Node_letters a_Node_new_votes i_Node_new_votes l_Node_new_votes c_Node_new_votes k_Node_new_votes a_Node__long_patience i_Node__long_patience l_Node__long_patience c_Node__long_patience k_Node__long_patience a_Node__something_waits i_Node__something_waits l_Node__something_waits c_Node__something_waits k_Node__something_waits a_Node__may_go_out i_Node__may_go_out l_Node__may_go_out c_Node__may_go_out k_Node__may_go_out a_Node__end_step i_Node__end_step l_Node__end_step c_Node__end_step k_Node__end_step a_Node__note i_Node__note l_Node__note c_Node__note k_Node__note a_Node__send i_Node__send l_Node__send c_Node__send k_Node__send a_Node__send_to_all i_Node__send_to_all l_Node__send_to_all c_Node__send_to_all k_Node__send_to_all a_Node__send_to_others i_Node__send_to_others l_Node__send_to_others c_Node__send_to_others k_Node__send_to_others a_Node__begin_if_free i_Node__begin_if_free l_Node__begin_if_free c_Node__begin_if_free k_Node__begin_if_free a_Node__begin i_Node__begin l_Node__begin c_Node__begin k_Node__begin a_Diary___init__ i_Diary___init__ l_Diary___init__ c_Diary___init__ k_Diary___init__ a_Diary_settled i_Diary_settled l_Diary_settled c_Diary_settled k_Diary_settled a__law_row l__law_row c__law_row k__law_row a__law_take l__law_take c__law_take k__law_take a__law_new l__law_new c__law_new k__law_new a__law_forget l__law_forget c__law_forget k__law_forget a__law_members_of l__law_members_of c__law_members_of k__law_members_of a__law_do l__law_do c__law_do k__law_do a__law_note l__law_note c__law_note k__law_note a__law_post l__law_post c__law_post k__law_post a__law_all l__law_all c__law_all k__law_all a__law_others l__law_others c__law_others k__law_others a__law_wishes l__law_wishes c__law_wishes k__law_wishes a__law_begin l__law_begin c__law_begin k__law_begin a__law_offer l__law_offer c__law_offer k__law_offer a__law_offer_members l__law_offer_members c__law_offer_members k__law_offer_members a__law_end l__law_end c__law_end k__law_end a__law_attempt_agrees l__law_attempt_agrees c__law_attempt_agrees k__law_attempt_agrees a__law_agrees l__law_agrees c__law_agrees k__law_agrees a__law_said l__law_said c__law_said k__law_said a__law_some_members l__law_some_members c__law_some_members k__law_some_members a__law_make l__law_make c__law_make k__law_make a__law_start l__law_start c__law_start k__law_start a__law_tick l__law_tick c__law_tick k__law_tick a__law_deed l__law_deed c__law_deed k__law_deed a_law l_law c_law k_law z_ACCEPT z_ASKING z_BATCH z_BELOW_ZERO z_CHOSEN z_FRAME_HEAD z_FROM_ZERO z_HIGH_SIGNS z_LONG_PATIENCE z_LOW_SIGNS z_MEMBERS z_MOST_BATCH z_MOST_DEPTH z_MOST_INTEGER z_MOST_ROUND z_MOST_WAITING z_NOTHING z_NO_BALLOT zl_NO_BALLOT z_PROMISE z_TEXT z_TUPLE z_UP lT_Acceptor___init__ z_any z_bool z_int z_isinstance z_len z_list z_max z_ord z_range z_reversed z_str z_tuple
end K40
open PySem PySem.W PySem.Calls PyProof.Rows
set_option maxRecDepth 100000 in
set_option maxHeartbeats 0 in
theorem PySem.Challenge.cw_crosskeep_k40_a_node_begins_holds : PySem.Challenge.rw_crosskeep_k40_a_node_begins.Holds := by
  refine K40.hpre ?hc
  case hc =>
    refine L2.walk_ofE (l := PySem.Challenge.rw_crosskeep_k40_a_node_begins) (n := 63) (k := 90) (x := "script") (CX := L2.CX0) rfl (by decide) (by kernel_rfl) ⟨rfl, by decide, by decide⟩ ?F (fun _ _ _ _ z => z)
    intro w mg fa h Y G hm
    obtain ⟨K, KX, c⟩ := Y
    have hmg : mg ("law" : PySem.Str) = some (.ref fa) := by
      have e : (HandSHeadRun.topDef K40.hR.prog 95).name = ("law" : PySem.Str) := by kernel_rfl
      rw [← e]
      exact hm
    obtain ⟨fd, hb, hF⟩ := K40.hfacts (l := PySem.Challenge.rw_crosskeep_k40_a_node_begins) (w := w) KX G hmg c
    exact ⟨K, fd, K40.sp_law K, KX, hb, fun H a ns hl _ hS => ⟨a, ns, rfl, hS, hl, fun _ => rfl⟩, hF⟩

import PyProof.Rows.All
import Wide.All
import OpenK.AllK
import Wide.FinOn
import HandS.ForMost
import HandS.TryOnly
import HandS.IsInst
import HandS.Evl
import HandS.Wide
import HandS.TupAny
import HandS.SortInts
import HandS.Style
import HandS.Strs
import HandS.SetFor
import HandS.Conv
import HandS.More
import HandS.Walk
import HandS.WideBits
import HandS.Property
import HandS.TupLe
import HandS.Defaults
import HandS.Deep
import HandS.RevRange
import PyProof.StrOps2
import HandS.TupMul
import HandS.DictComp
import KE.GoesMore
import KE.SortKeyHeap
import KE.DataCmp
import PyProof.DictMoreH
import HandS.SetKeys
import HandS.Conv
import KE.DataMinMax
import HandS.TupLen
import PySem.Challenge.RW_crosskeep_k71_clients_and_their_history
set_option Elab.async false
set_option linter.all false
set_option maxRecDepth 100000
set_option maxHeartbeats 4000000

/-! ## readings, one step at a time (a layer of our own over the hand layer) -/
namespace Xk
open PySem PySem.Spec PyProof.Rows L2

section
variable {K : PySem.W.Frag} {σ : L2.St} {H H0 H1 H2 : Hp} {Q : VK} {ta tb tc te : TE} {t u : TT} {D : Ends} {tz tu tw : TS} {g : TG} {x y z v : V} {i j : Int} {b : Bool}

/-! ### values -/
theorem rel_ref {a : Addr} : RelV (.ref a) (.ref a) := rfl
theorem rel_ty {T : String} : RelV (.ty T) (.type T) := rfl
theorem rel_int {tk : Tok} : RelV (.int i) (.int i tk) := ⟨tk, rfl⟩
theorem rel_str {s : Str} {tk : Tok} : RelV (.str s) (.str s tk) := ⟨tk, rfl⟩

/-! ### heaps -/
/-- nothing stands at p -/
structure Fr (p : Addr) (H : Hp) : Prop where
  is : H p = none
theorem same_fr {p : Addr} {o : HO} (h : Fr p H) : Same H (upd H p o) := fun c x e => by
  rw [upd_ne (ne_of_none e h.is)]
  exact e
theorem same_new {p : Addr} {o : HO} (h : H p = none) : Same H (upd H p o) := fun c x e => by
  rw [upd_ne (ne_of_none e h)]
  exact e
theorem same_mut {p : Addr} {o : HO} (e : Same H H1) (h : Fr p H) : Same H (upd H1 p o) := fun c x ha => by
  rw [upd_ne (ne_of_none ha h.is)]
  exact e c x ha
theorem same_at {a : Addr} {o : HO} (e : Same H H1) (h : H a = some o) : H1 a = some o := e a o h
theorem free_back {p : Addr} (h : Fr p H1) (e : Same H H1) : Fr p H := ⟨Same.free e h.is⟩
theorem ne_new {a p : Addr} {o : HO} (h' : Fr p H) (h : H a = some o) : a ≠ p := ne_of_none h h'.is
theorem sq_of {a : Addr} {xs : List V} (h : H a = some (.lst xs)) : SqL K H a xs := Or.inl (Or.inl h)
theorem st_of {a : Addr} {xs : List V} (h : H a = some (.tup xs)) : SqT K H a xs := Or.inl (Or.inl h)
theorem sq_same {a : Addr} {xs : List V} (h : SqL K H a xs) (e : Same H H1) : SqL K H1 a xs := e.seq h
theorem st_same {a : Addr} {xs : List V} (h : SqT K H a xs) (e : Same H H1) : SqT K H1 a xs := by
  rcases h with (h | ⟨o, h⟩) | h
  · exact .inl (.inl (e _ _ h))
  · exact .inl (.inr ⟨o, e _ _ h⟩)
  · exact .inr h
theorem size_ok {n : Nat} (h : n ≤ 100000) : n ≤ sizeLine := Nat.le_trans h (by decide)
theorem size_lt {n : Nat} (h : n < 100000) : n < sizeLine := Nat.lt_of_lt_of_le h (by decide)

/-- all that was tracked but at p is as it was -/
def But (p : Addr) (H H' : Hp) : Prop := ∀ b o, b ≠ p → H b = some o → H' b = some o
theorem But.refl (p : Addr) (H : Hp) : But p H H := fun _ _ _ h => h
theorem but_same {p : Addr} (e : Same H H1) : But p H H1 := fun b o _ h => e b o h
theorem but_trans {p : Addr} (e : But p H H1) (e' : But p H1 H2) : But p H H2 := fun b o n h => e' b o n (e b o n h)
theorem but_mut {p : Addr} {o : HO} (e : But p H H1) : But p H (upd H1 p o) := fun b u n h => by
  rw [upd_ne n]
  exact e b u n h
theorem but_new {p q : Addr} {o : HO} (e : But p H H1) (h : Fr q H) : But p H (upd H1 q o) := fun b u n g => by
  rw [upd_ne (ne_of_none g h.is)]
  exact e b u n g
theorem but_at {p a : Addr} {o : HO} (e : But p H H1) (n : a ≠ p) (h : H a = some o) : H1 a = some o := e a o n h
theorem none_but {p a : Addr} {o u : HO} (h : H p = some o) (e : But p H H1) (h1 : H1 p = some u) (ha : Fr a H1) : Fr a H := by
  refine ⟨?_⟩
  cases q : H a with
  | none => rfl
  | some v =>
    by_cases n : a = p
    · subst n
      rw [ha.is] at h1
      cases h1
    · have := e a v n q
      rw [ha.is] at this
      cases this
theorem fr_upd {p q : Addr} {o : HO} (h : Fr p (upd H q o)) : Fr p H := by
  refine ⟨?_⟩
  have h1 := h.is
  unfold upd at h1
  split at h1
  · cases h1
  · exact h1
theorem same_but {p : Addr} (e : But p H H1) (h : Fr p H0) (e0 : Same H0 H) : Same H0 H1 := fun b o g => e b o (ne_of_none g h.is) (e0 b o g)

/-! ### expressions -/
theorem x_var {n : Nat} (h : σ[n]? = some (some v)) (q : Q v H) : tVar n σ H Q := ⟨v, h, q⟩
theorem x_c (q : Q v H) : tC v σ H Q := q
theorem x_op {r : R2} (q : ta σ H fun x H1 => tb σ H1 fun y H2 => r x y H2 Q) : tOp r ta tb σ H Q := q
theorem x_un {r : V → Hp → VK → Prop} (q : ta σ H fun x H1 => r x H1 Q) : tUn r ta σ H Q := q
theorem x_I0 {f : Int → Int → V} (q : Q (f i j) H) : rI0 f (.int i) (.int j) H Q := ⟨i, j, rfl, rfl, q⟩
theorem x_I {C : Int → Int → Prop} {f : Int → Int → V} (hc : C i j) (q : Q (f i j) H) : rI C f (.int i) (.int j) H Q := ⟨i, j, rfl, rfl, hc, q⟩
theorem x_U {f : Int → V} (q : Q (f i) H) : rU f (.int i) H Q := ⟨i, rfl, q⟩
theorem x_eq (h : scal x y = true) (q : Q (.bl (decide (x = y))) H) : rEq x y H Q := ⟨h, q⟩
theorem x_ne (h : scal x y = true) (q : Q (.bl (!decide (x = y))) H) : rNe x y H Q := ⟨h, q⟩
theorem x_ixL {p : Addr} {xs : List V} (h : SqL K H p xs) (ha : atI xs i = some v) (q : Q v H) : rIxL K (.ref p) (.int i) H Q := ⟨p, xs, i, v, rfl, rfl, h, ha, q⟩
theorem x_ixT {p : Addr} {xs : List V} (h : SqT K H p xs) (ha : atI xs i = some v) (q : Q v H) : rIxT K (.ref p) (.int i) H Q := ⟨p, xs, i, v, rfl, rfl, h, ha, q⟩
theorem x_ixS {w : Str} {c : Nat} (h : w.length ≤ 100000) (ha : atI w.cps.toList i = some c) (q : Q (.str ⟨#[c]⟩) H) : rIxS (.str w) (.int i) H Q := ⟨w, i, c, rfl, rfl, size_ok h, ha, q⟩
theorem x_nil {R : List V → Hp → Prop} (q : R [] H) : tNil σ H R := q
theorem x_cons {tr : TA} {R : List V → Hp → Prop} (q : ta σ H fun x H1 => tr σ H1 fun xs H2 => R (x :: xs) H2) : tCons ta tr σ H R := q
def New (Q : VK) (o : HO) (n : Nat) (H : Hp) : Prop := n ≤ sizeLine ∧ ∀ p, H p = none → Q (.ref p) (upd H p o)
theorem x_lst {tr : TA} (q : tr σ H fun xs H1 => New Q (.lst xs) xs.length H1) : tLst tr σ H Q := q
theorem x_tup {tr : TA} (q : tr σ H fun xs H1 => New Q (.tup xs) xs.length H1) : tTup tr σ H Q := q
/-- what is new is told by what it holds; the heap gets a name -/
theorem x_new {n : Nat} {o : HO} (hl : n ≤ 100000) (k : ∀ p H2, Fr p H → Same H H2 → H2 p = some o → Q (.ref p) H2) : New Q o n H :=
  ⟨size_ok hl, fun p hp => k p _ ⟨hp⟩ (same_new hp) upd_same⟩
theorem x_new1 {o : HO} (k : ∀ p H2, Fr p H → Same H H2 → H2 p = some o → Q (.ref p) H2) : ∀ p, H p = none → Q (.ref p) (upd H p o) :=
  fun p hp => k p _ ⟨hp⟩ (same_new hp) upd_same
theorem x_cb {r : List V → Hp → VK → Prop} {tr : TA} (q : tr σ H fun vs H1 => r vs H1 Q) : tCB r tr σ H Q := q
theorem x_call {sp : Sp} {dvs : List V} {E : XK} {tr : TA} (q : tr σ H fun vs H1 => sp (vs ++ dvs) H1 Q E) : tCall sp dvs E tr σ H Q := q
theorem x_sl {r : V → Option Int → Option Int → Hp → VK → Prop} {tl th : TO} (q : te σ H fun x H1 => tl σ H1 fun l H2 => th σ H2 fun u H3 => r x l u H3 Q) : tSl r te tl th σ H Q := q
theorem x_nopart {R : Option Int → Hp → Prop} (q : R none H) : tNoPart σ H R := q
theorem x_part {R : Option Int → Hp → Prop} (q : te σ H fun x H1 => ∃ i, x = .int i ∧ R (some i) H1) : tPart te σ H R := q
theorem x_if (q : t σ H fun c H1 => if c = true then ta σ H1 Q else tb σ H1 Q) : tIf t ta tb σ H Q := q
theorem x_andV (q : ta σ H fun x H1 => ∃ c, x = .bl c ∧ if c = true then tb σ H1 Q else Q (.bl false) H1) : tAndV ta tb σ H Q := q
theorem x_orV (q : ta σ H fun x H1 => ∃ c, x = .bl c ∧ if c = true then Q (.bl true) H1 else tb σ H1 Q) : tOrV ta tb σ H Q := q
theorem x_notV (q : ta σ H fun x H1 => ∃ c, x = .bl c ∧ Q (.bl (!c)) H1) : tNotV ta σ H Q := q
theorem x_bl {R : Bool → Prop} (q : R b) : ∃ c, V.bl b = .bl c ∧ R c := ⟨b, rfl, q⟩
theorem x_isI {R : Int → Prop} (q : R i) : ∃ c, V.int i = .int c ∧ R c := ⟨i, rfl, q⟩

/-! ### built-ins by names -/
def nInt : List V → Hp → VK → Prop := fun xs H Q => (∃ i, xs = [.int i] ∧ Q (.int i) H) ∨ ∃ k, xs = [.bl k] ∧ Q (.int (if k then 1 else 0)) H
theorem call_nInt {X : Cx} : CallR X (.type "int") nInt := call_int1
theorem x_nInt (q : Q (.int i) H) : nInt [.int i] H Q := .inl ⟨i, rfl, q⟩
theorem x_nIntB (q : Q (.int (if b then 1 else 0)) H) : nInt [.bl b] H Q := .inr ⟨b, rfl, q⟩
def nLen (K : PySem.W.Frag) : List V → Hp → VK → Prop := fun xs H Q => ∃ p ys, xs = [.ref p] ∧ (SqL K H p ys ∨ SqT K H p ys) ∧ Q (.int ys.length) H
theorem call_nLen {X : Cx} : CallR X (.builtin "len") (nLen X.K) := call_len_seq
theorem x_lenL {p : Addr} {ys : List V} (h : SqL K H p ys) (q : Q (.int ys.length) H) : nLen K [.ref p] H Q := ⟨p, ys, rfl, .inl h, q⟩
theorem x_lenT {p : Addr} {ys : List V} (h : SqT K H p ys) (q : Q (.int ys.length) H) : nLen K [.ref p] H Q := ⟨p, ys, rfl, .inr h, q⟩
def nListOf (K : PySem.W.Frag) : List V → Hp → VK → Prop := fun xs H Q => ∃ p ys, xs = [.ref p] ∧ (SqL K H p ys ∨ SqT K H p ys) ∧ ∀ l, H l = none → Q (.ref l) (upd H l (.lst ys))
theorem call_nListOf {X : Cx} : CallR X (.type "list") (nListOf X.K) := call_list_of
theorem x_listL {p : Addr} {ys : List V} (h : SqL K H p ys) (k : ∀ l H2, Fr l H → Same H H2 → H2 l = some (.lst ys) → Q (.ref l) H2) : nListOf K [.ref p] H Q := ⟨p, ys, rfl, .inl h, x_new1 k⟩
theorem x_listT {p : Addr} {ys : List V} (h : SqT K H p ys) (k : ∀ l H2, Fr l H → Same H H2 → H2 l = some (.lst ys) → Q (.ref l) H2) : nListOf K [.ref p] H Q := ⟨p, ys, rfl, .inr h, x_new1 k⟩
def nTupleOf (K : PySem.W.Frag) : List V → Hp → VK → Prop := fun xs H Q => ∃ p ys, xs = [.ref p] ∧ ((SqL K H p ys ∧ ∀ l, H l = none → Q (.ref l) (upd H l (.tup ys))) ∨ (SqT K H p ys ∧ Q (.ref p) H))
theorem call_nTupleOf {X : Cx} : CallR X (.type "tuple") (nTupleOf X.K) := call_tuple_of
theorem x_tupleL {p : Addr} {ys : List V} (h : SqL K H p ys) (k : ∀ l H2, Fr l H → Same H H2 → H2 l = some (.tup ys) → Q (.ref l) H2) : nTupleOf K [.ref p] H Q := ⟨p, ys, rfl, .inl ⟨h, x_new1 k⟩⟩
theorem x_tupleT {p : Addr} {ys : List V} (h : SqT K H p ys) (q : Q (.ref p) H) : nTupleOf K [.ref p] H Q := ⟨p, ys, rfl, .inr ⟨h, q⟩⟩
theorem kit_T {a c : String} (h : kitB a c = some true) : kitB a c = some true := h
theorem kit_F {a c : String} (h : kitB a c = some false) : kitB a c = some false := h
theorem x_isi {c : String} {tt : String} {k : Bool} (ty : TyX K H x (.type tt)) (e : kitB tt c = some k) (q : Q (.bl k) H) : rIsi K [x, .ty c] H Q := ⟨x, .ty c, .type tt, .type c, k, rfl, .ty _, ty, kit_ty e, q⟩
theorem x_isiInt {c : String} {k : Bool} (e : kitB "int" c = some k) (q : Q (.bl k) H) : rIsi K [.int i, .ty c] H Q := x_isi (.base (.int i)) e q
theorem x_isiBl {c : String} {k b : Bool} (e : kitB "bool" c = some k) (q : Q (.bl k) H) : rIsi K [.bl b, .ty c] H Q := x_isi (.base (.bl b)) e q
theorem x_isiStr {c : String} {k : Bool} {s : Str} (e : kitB "str" c = some k) (q : Q (.bl k) H) : rIsi K [.str s, .ty c] H Q := x_isi (.base (.str s)) e q
theorem x_isiNon {c : String} {k : Bool} (e : kitB "NoneType" c = some k) (q : Q (.bl k) H) : rIsi K [.non, .ty c] H Q := x_isi (.base .non) e q
theorem x_isiLst {c : String} {k : Bool} {a : Addr} {xs : List V} (h : H a = some (.lst xs)) (e : kitB "list" c = some k) (q : Q (.bl k) H) : rIsi K [.ref a, .ty c] H Q := x_isi (.base (.lst h)) e q
theorem x_isiTup {c : String} {k : Bool} {a : Addr} {xs : List V} (h : H a = some (.tup xs)) (e : kitB "tuple" c = some k) (q : Q (.bl k) H) : rIsi K [.ref a, .ty c] H Q := x_isi (.base (.tup h)) e q

def nSorted (K : PySem.W.Frag) : List V → Hp → VK → Prop := fun vs H Q => ∃ (a : Addr) (ns : List Int), vs = [V.ref a] ∧ SqL K H a (ns.map V.int) ∧ ns.length < 64 ∧
  ∀ (ns' : List Int) (p : Addr), ns'.Perm ns → ns'.Pairwise (· ≤ ·) → H p = none → Q (.ref p) (upd H p (.lst (ns'.map V.int)))
theorem x_sorted {a : Addr} {ns : List Int} (h : SqL K H a (ns.map V.int)) (hl : ns.length < 64) (k : ∀ p H2 (ns' : List Int), ns'.Perm ns → ns'.Pairwise (· ≤ ·) → Fr p H → Same H H2 → H2 p = some (.lst (ns'.map V.int)) → Q (.ref p) H2) : rSorted K [.ref a] H Q :=
  ⟨a, ns, rfl, h, hl, fun ns' p h1 h2 h3 => k p _ ns' h1 h2 ⟨h3⟩ (same_new h3) upd_same⟩
/-- set(t), t a tuple of ints -/
def rSetOfI (K : PySem.W.Frag) (w : World) : List V → Hp → VK → Prop := fun vs H Q => ∃ (p : Addr) (ns : List Int), vs = [V.ref p] ∧ SqT K H p (ns.map V.int) ∧ ns.length ≤ 1000 ∧ ∀ a n, H a = none → n ≤ ns.length → Q (.ref a) (upd H a (SetO w a (fun j => decide (j ∈ ns)) n))
theorem cr_setOfI {X : Cx} (hc : X.calm = true) : CallR X (.type "set") (rSetOfI X.K X.w) := by
  intro pins s σ H xs us Q I r h
  obtain ⟨p0, ns, rfl, hq, hl, q⟩ := h
  cases r with
  | cons r rr =>
    cases rr
    cases r
    obtain ⟨its, rv, pt, hz⟩ := I.tuple hq
    have hi : IntsAre its.toArray.toList ns := ints_of_vals rv
    have hd := I.ok.hd hc
    refine call_set_tupI ns hd (show s.heap.IsTuple p0 its.toArray from pt) hi (by unfold scanBound; omega) fun h' tk c R1 hcn k => ?_
    exact ⟨.ref _, upd H s.heap.objs.size (SetO X.w s.heap.objs.size (fun j => decide (j ∈ ns)) c), I.laid (t' := tk) k (Nat.le_refl _) (setO_new R1), rfl, q _ _ (I.hok.fresh (Nat.le_refl _)) hcn⟩
theorem x_setOfI {w : World} {p : Addr} {ns : List Int} (h : SqT K H p (ns.map V.int)) (hl : ns.length ≤ 1000) (k : ∀ a H2 n, Fr a H → Same H H2 → H2 a = some (SetO w a (fun j => decide (j ∈ ns)) n) → n ≤ ns.length → Q (.ref a) H2) : rSetOfI K w [.ref p] H Q :=
  ⟨p, ns, rfl, h, hl, fun a n h1 h2 => k a _ n ⟨h1⟩ (same_new h1) upd_same h2⟩
theorem x_sortedSet {w : World} {a : Addr} {S : Int → Bool} {n : Nat} (h : H a = some (SetO w a S n)) (hl : n < 64) (k : ∀ p H2 (ns : List Int), ns.Pairwise (· < ·) → (∀ k : Int, k ∈ ns ↔ S k = true) → ns.length = n → Fr p H → Same H H2 → H2 p = some (.lst (ns.map V.int)) → Q (.ref p) H2) : rSortedSet w [.ref a] H Q :=
  ⟨a, S, n, rfl, h, hl, fun ns p h1 h2 h3 h4 => k p _ ns h1 h2 h3 ⟨h4⟩ (same_new h4) upd_same⟩
theorem x_all {a : Addr} {bs : List Bool} (h : SqL K H a (bs.map V.bl)) (q : Q (.bl (bs.all id)) H) : rAll K [.ref a] H Q := ⟨a, bs, rfl, h, q⟩
theorem x_any {a : Addr} {bs : List Bool} (h : SqL K H a (bs.map V.bl)) (q : Q (.bl (bs.any id)) H) : rAny K [.ref a] H Q := ⟨a, bs, rfl, h, q⟩
theorem x_sum {a : Addr} {ns : List Int} (h : SqL K H a (ns.map V.int)) (q : Q (.int ns.sum) H) : rSum K [.ref a] H Q := ⟨a, ns, rfl, h, q⟩
theorem x_inL {p : Addr} {xs : List V} (h : SqL K H p xs) (hx : flatV x = true) (ha : xs.all flatV = true) (q : Q (.bl (inV x xs)) H) : rIn K false x (.ref p) H Q := ⟨p, xs, rfl, .inl h, hx, ha, q⟩
theorem x_inT {p : Addr} {xs : List V} (h : SqT K H p xs) (hx : flatV x = true) (ha : xs.all flatV = true) (q : Q (.bl (inV x xs)) H) : rIn K false x (.ref p) H Q := ⟨p, xs, rfl, .inr h, hx, ha, q⟩
theorem x_niL {p : Addr} {xs : List V} (h : SqL K H p xs) (hx : flatV x = true) (ha : xs.all flatV = true) (q : Q (.bl (!inV x xs)) H) : rIn K true x (.ref p) H Q := ⟨p, xs, rfl, .inl h, hx, ha, q⟩
theorem x_niT {p : Addr} {xs : List V} (h : SqT K H p xs) (hx : flatV x = true) (ha : xs.all flatV = true) (q : Q (.bl (!inV x xs)) H) : rIn K true x (.ref p) H Q := ⟨p, xs, rfl, .inr h, hx, ha, q⟩
theorem flat_ints : ∀ ns : List Int, (ns.map V.int).all flatV = true
  | [] => rfl
  | n :: r => by
    rw [List.map_cons, List.all_cons, flat_ints r]
    rfl
theorem in_ints (i : Int) : ∀ ns : List Int, inV (.int i) (ns.map V.int) = decide (i ∈ ns)
  | [] => by simp [inV]
  | n :: r => by
    have h := in_ints i r
    unfold inV at h ⊢
    rw [List.map_cons, List.any_cons, h]
    by_cases e : n = i
    · subst e
      simp [eqV]
    · have e' : ¬ i = n := fun z => e z.symm
      simp [eqV, e, e']

def nIsN : R2 := fun x y H Q => y = .non ∧ Q (.bl (decide (x = .non))) H
def nNotN : R2 := fun x y H Q => y = .non ∧ Q (.bl (!decide (x = .non))) H
theorem op_nIsN {X : Cx} : OpR X (compareOp .Is) nIsN := op_isN
theorem op_nNotN {X : Cx} : OpR X (compareOp .IsNot) nNotN := op_notN
theorem x_nIsN (q : Q (.bl (decide (x = .non))) H) : nIsN x .non H Q := ⟨rfl, q⟩
theorem x_nNotN (q : Q (.bl (!decide (x = .non))) H) : nNotN x .non H Q := ⟨rfl, q⟩
def nAndM : R2 := fun x y H Q => ∃ (i : Int) (k : Nat), x = .int i ∧ y = .int (2 ^ k - 1) ∧ Q (.int (i % 2 ^ k)) H
theorem op_nAndM {X : Cx} : OpR X (binaryOp .BitAnd) nAndM := op_andM
theorem x_and255 (q : Q (.int (i % 256)) H) : nAndM (.int i) (.int 255) H Q := ⟨i, 8, rfl, rfl, q⟩

/-! ### the same rules, K told: within a comprehension's block too -/
section
variable {X : Cx} {w : World}
theorem k_in (e : X.K = K) : OpR X (compareOp .In) (rIn K false) := e ▸ op_in_seq
theorem k_enum {e : Expr} {ta : TA} {p pos tpos : Pos} {elts : List Expr} {kk : Nat} (hk : X.K = K) (hg : Gl X "enumerate") (hm : X.mg "enumerate" = none) (ha : PA X [e] ta) (hs : starEach [e] X.env = [(false, eval e X.env)] := by rfl) :
    PI X (.Tuple elts kk tpos) (.Call (.Name "enumerate" p) [e] [] pos) (iEnum K ta) := hk ▸ pi_enum hg hm ha hs
theorem k_gtup {es : List Expr} {k : Nat} {pos : Pos} {gs : TGs} {n : Nat} (hk : X.K = K) (hc : X.calm = true) (h : PGs X es gs)
    (hn : (assignEach es X.env).length = n := by rfl) (hst : (assignEach es X.env).findIdx? (·.1) = none := by rfl) : PG X (.Tuple es k pos) (gTup K n gs) := hk ▸ pg_tup hc h hn hst
theorem k_nin (e : X.K = K) : OpR X (compareOp .NotIn) (rIn K true) := e ▸ op_notIn_seq
theorem k_ixL (e : X.K = K) : IxR X (rIxL K) := e ▸ ix_list
theorem k_ixT (e : X.K = K) : IxR X (rIxT K) := e ▸ ix_tup
theorem k_slL (e : X.K = K) : SlR X (rSlL K) := e ▸ sl_list
theorem k_len (e : X.K = K) : CallR X (.builtin "len") (nLen K) := e ▸ call_nLen
theorem k_list (e : X.K = K) : CallR X (.type "list") (nListOf K) := e ▸ call_nListOf
theorem k_tuple (e : X.K = K) : CallR X (.type "tuple") (nTupleOf K) := e ▸ call_nTupleOf
theorem k_isi (e : X.K = K) : CallR X (.builtin "isinstance") (rIsi K) := e ▸ call_isi
theorem k_all (hc : X.calm = true) (e : X.K = K) : CallR X (.builtin "all") (rAll K) := e ▸ cr_all hc
theorem k_any (hc : X.calm = true) (e : X.K = K) : CallR X (.builtin "any") (rAny K) := e ▸ cr_any hc
theorem k_sum (hc : X.calm = true) (e : X.K = K) : CallR X (.builtin "sum") (rSum K) := e ▸ cr_sum hc
theorem k_sorted (e : X.K = K) : CallR X (.builtin "sorted") (rSorted K) := e ▸ cr_sorted
theorem k_sortedS (e : X.K = K) : CallR X (.builtin "sorted") (rSortedS K) := e ▸ cr_sortedS
theorem k_sortedSet (hc : X.calm = true) (e : X.w = w) : CallR X (.builtin "sorted") (rSortedSet w) := e ▸ cr_sortedSet hc
theorem k_setOfI (hc : X.calm = true) (e : X.K = K) (e' : X.w = w) : CallR X (.type "set") (rSetOfI K w) := e ▸ e' ▸ cr_setOfI hc
theorem k_eqD (hu : X.A.units + 64 < cLine) (e : X.K = K) : OpR X (compareOp .Eq) (rEqD K) := e ▸ op_eqD hu
theorem k_neD (hu : X.A.units + 64 < cLine) (e : X.K = K) : OpR X (compareOp .NotEq) (rNeD K) := e ▸ op_neD hu
end

/-! ### tests -/
theorem x_test {R : Bool → Hp → Prop} (q : te σ H fun x H1 => ∃ k, x = .bl k ∧ R k H1) : tTest te σ H R := q
theorem x_B {R : Bool → Hp → Prop} (q : te σ H fun x H1 => ∃ k, x = .bl k ∧ R k H1) : tB te σ H R := q
theorem x_and {R : Bool → Hp → Prop} (q : t σ H fun c H1 => if c = true then u σ H1 R else R false H1) : tAnd t u σ H R := q
theorem x_or {R : Bool → Hp → Prop} (q : t σ H fun c H1 => if c = true then R true H1 else u σ H1 R) : tOr t u σ H R := q
theorem x_not {R : Bool → Hp → Prop} (q : t σ H fun c H1 => R (!c) H1) : tNot t σ H R := q
theorem x_yes {R : Bool → Hp → Prop} (q : R true H) : tYes σ H R := q
theorem x_chain {r r' : R2} (q : ta σ H fun x H1 => tb σ H1 fun y H2 => r x y H2 fun z H3 => ∃ k, z = .bl k ∧ (if k = true then tc σ H3 fun w' H4 => r' y w' H4 Q else Q (.bl false) H3)) : tChain r r' ta tb tc σ H Q := q
theorem x_itd {p A B : Prop} [Decidable p] (h1 : p → A) (h2 : ¬p → B) : if decide p = true then A else B := by
  by_cases h : p
  · rw [if_pos (decide_eq_true h)]
    exact h1 h
  · rw [if_neg (by rw [decide_eq_false h]; decide)]
    exact h2 h
theorem x_itn {p A B : Prop} [Decidable p] (h1 : ¬p → A) (h2 : p → B) : if (!decide p) = true then A else B := by
  by_cases h : p
  · rw [decide_eq_true h, if_neg (by decide)]
    exact h2 h
  · rw [decide_eq_false h, if_pos (by decide)]
    exact h1 h
theorem x_itb {A B : Prop} (h1 : b = true → A) (h2 : b = false → B) : if b = true then A else B := by
  cases b with
  | true => rw [if_pos rfl]; exact h1 rfl
  | false => rw [if_neg (by decide)]; exact h2 rfl
theorem x_itnb {A B : Prop} (h1 : b = false → A) (h2 : b = true → B) : if (!b) = true then A else B := by
  cases b with
  | true => exact h2 rfl
  | false => exact h1 rfl

theorem x_nT {A B : Prop} (h : B) : if (!true) = true then A else B := h
theorem x_nF {A B : Prop} (h : A) : if (!false) = true then A else B := h
theorem x_dY {p A B : Prop} [Decidable p] (hp : p) (h : A) : if decide p = true then A else B := x_itd (fun _ => h) fun z => absurd hp z
theorem x_dN {p A B : Prop} [Decidable p] (hp : ¬p) (h : B) : if decide p = true then A else B := x_itd (fun z => absurd z hp) fun _ => h
theorem x_ndY {p A B : Prop} [Decidable p] (hp : p) (h : B) : if (!decide p) = true then A else B := x_itn (fun z => absurd hp z) fun _ => h
theorem x_ndN {p A B : Prop} [Decidable p] (hp : ¬p) (h : A) : if (!decide p) = true then A else B := x_itn (fun _ => h) fun z => absurd z hp

/-! ### statements -/
theorem x_seq (q : tu { D with nx := tz D } σ H) : tSeq tu tz D σ H := q
theorem x_sasg {n : Nat} (q : te σ H fun v H1 => tz D (σ.set n (some v)) H1) : tSeq (tAsg te (gName n)) tz D σ H := q
theorem x_asg {n : Nat} (q : te σ H fun v H1 => D.nx (σ.set n (some v)) H1) : tAsg te (gName n) D σ H := q
theorem x_sasgG (q : te σ H fun v H1 => g v σ H1 (tz D)) : tSeq (tAsg te g) tz D σ H := q
theorem x_asgG (q : te σ H fun v H1 => g v σ H1 D.nx) : tAsg te g D σ H := q
theorem x_ret (q : te σ H D.rt) : tRet te D σ H := q
theorem x_retN (q : D.rt .non H) : tRetN D σ H := q
theorem x_next (q : D.nx σ H) : tNext D σ H := q
theorem x_brk (q : D.bk σ H) : tBreak D σ H := q
theorem x_ct (q : D.ct σ H) : tCont D σ H := q
theorem x_sif (q : t σ H fun b H1 => if b = true then tu { D with nx := tz D } σ H1 else tw { D with nx := tz D } σ H1) : tSeq (tIfS t tu tw) tz D σ H := q
theorem x_ifS (q : t σ H fun b H1 => if b = true then tu D σ H1 else tw D σ H1) : tIfS t tu tw D σ H := q
theorem x_sdrop (q : te σ H fun _ H1 => tz D σ H1) : tSeq (tDrop te) tz D σ H := q
theorem x_drop (q : te σ H fun _ H1 => D.nx σ H1) : tDrop te D σ H := q
theorem x_saug {n : Nat} {ti : TIp} (h : σ[n]? = some (some x)) (q : te σ H fun y H1 => ti x y H1 fun z H2 => tz D (σ.set n (some z)) H2) : tSeq (tAug n te ti) tz D σ H := ⟨x, h, q⟩
theorem x_aug {n : Nat} {ti : TIp} (h : σ[n]? = some (some x)) (q : te σ H fun y H1 => ti x y H1 fun z H2 => D.nx (σ.set n (some z)) H2) : tAug n te ti D σ H := ⟨x, h, q⟩
theorem x_ipI {f : Int → Int → Int} (q : Q (.int (f i j)) H) : ipI f (.int i) (.int j) H Q := ⟨i, j, rfl, rfl, q⟩
/-- an if, then the rest: what follows is shown once -/
theorem x_cut (M : L2.St → Hp → Prop) (h : tu { D with nx := M } σ H) (k : ∀ σ' H', M σ' H' → tz D σ' H') : Evl.tCut tu tz D σ H := ⟨M, h, k⟩
theorem x_nocut (h : tu { D with nx := tz D } σ H) : Evl.tCut tu tz D σ H := ⟨_, h, fun _ _ q => q⟩

theorem x_nocutW (h : tSeq (tWhile t tu) tz D σ H) : Evl.tCut (tWhile t tu) tz D σ H := ⟨_, h, fun _ _ q => q⟩

/-! ### targets -/
theorem x_gName {n : Nat} {R : L2.St → Hp → Prop} (q : R (σ.set n (some v)) H) : gName n v σ H R := q
theorem x_gTup {n : Nat} {gs : TGs} {R : L2.St → Hp → Prop} {a : Addr} {xs : List V} (h : SqT K H a xs) (hn : xs.length = n) (q : gs xs σ H R) : gTup K n gs (.ref a) σ H R := ⟨a, xs, rfl, h, hn, q⟩
theorem x_gLst {n : Nat} {gs : TGs} {R : L2.St → Hp → Prop} {a : Addr} {xs : List V} (h : SqL K H a xs) (hn : xs.length = n) (q : gs xs σ H R) : gLst K n gs (.ref a) σ H R := ⟨a, xs, rfl, h, hn, q⟩
theorem x_gCons {gs : TGs} {R : L2.St → Hp → Prop} {vs : List V} (q : g v σ H fun σ' H' => gs vs σ' H' R) : gCons g gs (v :: vs) σ H R := ⟨v, vs, rfl, q⟩
theorem x_gNil {R : L2.St → Hp → Prop} (q : R σ H) : gNil [] σ H R := ⟨rfl, q⟩
theorem x_gSub {to ti : TE} {ts : TSet} {R : L2.St → Hp → Prop} (q : to σ H fun o H1 => ti σ H1 fun i H2 => ts o i v H2 fun H3 => R σ H3) : gSub to ti ts v σ H R := q
theorem ixN_nat {n j : Nat} (hj : j < n) : ixN n (j : Int) = some j := by
  unfold ixN
  rw [if_pos (by omega), if_pos (by omega)]
  simp
theorem ixN_of {n j : Nat} {k : Int} (e : k = (j : Int)) (hj : j < n) : ixN n k = some j := by
  rw [e]
  exact ixN_nat hj
theorem at_nat {α : Type} {xs : List α} {k : Int} {j : Nat} {v : α} (e : k = (j : Int)) (h : xs[j]? = some v) : atI xs k = some v := by
  rw [e]
  exact atI_nat h
theorem at_neg {α : Type} {xs : List α} {k : Int} {j : Nat} {v : α} (hk : k < 0) (e : k + (xs.length : Int) = (j : Int)) (h : xs[j]? = some v) : atI xs k = some v := by
  unfold atI ixN
  rw [if_neg (by omega), if_pos (by omega)]
  have e2 : (k + (xs.length : Int)).toNat = j := by omega
  rw [e2]
  exact h
theorem x_setL {p : Addr} {xs : List V} {k : Int} {j : Nat} {R : Hp → Prop} (h : H p = some (.lst xs)) (hj : ixN xs.length k = some j) (q : R (upd H p (.lst (xs.set j v)))) : rSetL (.ref p) (.int k) v H R := ⟨p, xs, k, j, rfl, rfl, h, hj, q⟩
/-- xs.append(e) -/
theorem x_bm {T : String} {r : V → List V → Hp → VK → Prop} {tr : TA} (q : te σ H fun x H1 => tyV K T x H1 ∧ tr σ H1 fun xs H2 => r x xs H2 Q) : tBM K T r te tr σ H Q := q
theorem x_bm0 {T : String} {r : V → List V → Hp → VK → Prop} (q : te σ H fun x H1 => tyV K T x H1 ∧ r x [] H1 Q) : tBM0 K T r te σ H Q := q
theorem x_tyL {a : Addr} {xs : List V} {P : Prop} (h : SqL K H a xs) (q : P) : tyV K "list" (.ref a) H ∧ P := ⟨.inl ⟨rfl, xs, h⟩, q⟩
theorem x_app {l : Addr} {xs : List V} (h : H l = some (.lst xs)) (hz : xs.length < 100000) (q : Q .non (upd H l (.lst (xs ++ [v])))) : rAppend (.ref l) [v] H Q := ⟨l, xs, v, rfl, rfl, h, size_lt hz, q⟩
theorem x_cat {a c : Addr} {xs ys : List V} (h : H a = some (.lst xs)) (h' : H c = some (.lst ys)) (hz : xs.length + ys.length ≤ 100000) (k : ∀ p H2, Fr p H → Same H H2 → H2 p = some (.lst (xs ++ ys)) → Q (.ref p) H2) : rCat (.ref a) (.ref c) H Q :=
  ⟨a, c, xs, ys, rfl, rfl, h, h', size_ok hz, x_new1 k⟩
theorem x_slL {a : Addr} {xs : List V} {lo hi : Option Int} (h : SqL K H a xs) (k : ∀ p H2, Fr p H → Same H H2 → H2 p = some (.lst (cutV xs lo hi)) → Q (.ref p) H2) : rSlL K (.ref a) lo hi H Q := ⟨a, xs, rfl, h, x_new1 k⟩

/-! ### loops -/
theorem x_forR {n : Nat} (q : te σ H fun x H1 => ∃ m : Int, x = .int m ∧ 0 ≤ m ∧ m ≤ 100000 ∧ ∃ Pv : Nat → L2.St → Hp → Prop, Pv 0 σ H1 ∧
      (∀ (i : Nat) σ' H', (i : Int) < m → Pv i σ' H' → tu { D with nx := Pv (i + 1), ct := Pv (i + 1), bk := D.nx } (σ'.set n (some (.int (i : Int)))) H') ∧ (∀ σ' H', Pv m.toNat σ' H' → D.nx σ' H'))
    (mono : ∀ Q Q' : VK, (∀ v H1, Q v H1 → Q' v H1) → te σ H Q → te σ H Q') : tFor (iRng1 (tCons te tNil)) (gName n) tu D σ H := by
  refine mono _ _ (fun v H1 h => ?_) q
  obtain ⟨m, rfl, h0, h1, Pv, p0, ps, pd⟩ := h
  refine ⟨m, rfl, by omega, by omega, for_range (lo := 0) (n := m.toNat) Pv p0 (fun i σ' H' hi p => ?_) pd⟩
  have e0 : (0 : Int) + (i : Int) = (i : Int) := Int.zero_add _
  show tu { D with nx := Pv (i + 1), ct := Pv (i + 1), bk := D.nx } (σ'.set n (some (.int ((0 : Int) + (i : Int))))) H'
  rw [e0]
  exact ps i σ' H' (by omega) p
def RRange (n : Nat) (m : Int) (tu : TS) (D : Ends) (σ : L2.St) (H : Hp) : Prop := ∃ Pv : Nat → L2.St → Hp → Prop, Pv 0 σ H ∧
      (∀ (i : Nat) σ' H', (i : Int) < m → Pv i σ' H' → tu { D with nx := Pv (i + 1), ct := Pv (i + 1), bk := D.nx } (σ'.set n (some (.int (i : Int)))) H') ∧ (∀ σ' H', Pv m.toNat σ' H' → D.nx σ' H')
def rRange (n : Nat) (tu : TS) (D : Ends) (σ : L2.St) : List V → Hp → Prop := fun vs H => ∃ j : Int, vs = [.int j] ∧ -(2 ^ 62) ≤ j ∧ j < 2 ^ 62 ∧ ∃ W : Nat → Nat → L2.St → Hp → Prop, (∃ m, W 0 m σ H) ∧ ∀ i m σ H, W i m σ H →
  ((Itr 0 j.toNat).stop i H ∧ D.nx σ H) ∨ ((Itr 0 j.toNat).go i H ∧ ∃ N : L2.St → Hp → Prop, (∀ σ' H', N σ' H' → ∃ m', m' < m ∧ W (i + 1) m' σ' H') ∧ ∀ x H', (Itr 0 j.toNat).yld i H x H' → gName n x σ H' fun σ2 H2 => tu { D with nx := N, ct := N, bk := D.nx } σ2 H2)
theorem x_forR1 {n : Nat} {tr : TA} (q : tr σ H (rRange n tu D σ)) : tFor (iRng1 tr) (gName n) tu D σ H := q
theorem x_range {n : Nat} {m : Int} (Pv : Nat → L2.St → Hp → Prop) (hm : 0 ≤ m ∧ m ≤ 100000) (p0 : Pv 0 σ H)
    (ps : ∀ (i : Nat) σ' H', (i : Int) < m → Pv i σ' H' → tu { D with nx := Pv (i + 1), ct := Pv (i + 1), bk := D.nx } (σ'.set n (some (.int (i : Int)))) H') (pd : ∀ σ' H', Pv m.toNat σ' H' → D.nx σ' H') : rRange n tu D σ [.int m] H := by
  refine ⟨m, rfl, by omega, by omega, for_range (lo := 0) (n := m.toNat) Pv p0 (fun i σ' H' hi p => ?_) pd⟩
  have e0 : (0 : Int) + (i : Int) = (i : Int) := Int.zero_add _
  show tu { D with nx := Pv (i + 1), ct := Pv (i + 1), bk := D.nx } (σ'.set n (some (.int ((0 : Int) + (i : Int))))) H'
  rw [e0]
  exact ps i σ' H' (by omega) p
def rForL (K : PySem.W.Frag) (g : TG) (tu : TS) (D : Ends) (σ : L2.St) : VK := fun x H => ∃ a, x = .ref a ∧ (∃ xs, SqL K H a xs) ∧ ∃ W : Nat → Nat → L2.St → Hp → Prop, (∃ m, W 0 m σ H) ∧ ∀ i m σ H, W i m σ H →
  ((Itl K a).stop i H ∧ D.nx σ H) ∨ ((Itl K a).go i H ∧ ∃ N : L2.St → Hp → Prop, (∀ σ' H', N σ' H' → ∃ m', m' < m ∧ W (i + 1) m' σ' H') ∧ ∀ x H', (Itl K a).yld i H x H' → g x σ H' fun σ2 H2 => tu { D with nx := N, ct := N, bk := D.nx } σ2 H2)
theorem x_forL1 (q : te σ H (rForL K g tu D σ)) : tFor (iList K te) g tu D σ H := q
theorem x_forL {a : Addr} {xs : List V} (Pv : Nat → L2.St → Hp → Prop) (hx : SqL K H a xs) (p0 : Pv 0 σ H) (hl : ∀ i σ' H', i ≤ xs.length → Pv i σ' H' → SqL K H' a xs)
    (ps : ∀ i x σ' H', xs[i]? = some x → Pv i σ' H' → g x σ' H' fun σ2 H2 => tu { D with nx := Pv (i + 1), ct := Pv (i + 1), bk := D.nx } σ2 H2) (pd : ∀ σ' H', Pv xs.length σ' H' → D.nx σ' H') : rForL K g tu D σ (.ref a) H :=
  ⟨a, rfl, ⟨xs, hx⟩, for_list Pv p0 hl ps pd⟩
def rForT (K : PySem.W.Frag) (g : TG) (tu : TS) (D : Ends) (σ : L2.St) : VK := fun x H => ∃ a, x = .ref a ∧ (∃ xs, SqT K H a xs) ∧ ∃ W : Nat → Nat → L2.St → Hp → Prop, (∃ m, W 0 m σ H) ∧ ∀ i m σ H, W i m σ H →
  ((Itt K a).stop i H ∧ D.nx σ H) ∨ ((Itt K a).go i H ∧ ∃ N : L2.St → Hp → Prop, (∀ σ' H', N σ' H' → ∃ m', m' < m ∧ W (i + 1) m' σ' H') ∧ ∀ x H', (Itt K a).yld i H x H' → g x σ H' fun σ2 H2 => tu { D with nx := N, ct := N, bk := D.nx } σ2 H2)
theorem x_forT1 (q : te σ H (rForT K g tu D σ)) : tFor (iTup K te) g tu D σ H := q
theorem x_forT {a : Addr} {xs : List V} (Pv : Nat → L2.St → Hp → Prop) (hx : SqT K H a xs) (p0 : Pv 0 σ H) (hl : ∀ i σ' H', i ≤ xs.length → Pv i σ' H' → SqT K H' a xs)
    (ps : ∀ i x σ' H', xs[i]? = some x → Pv i σ' H' → g x σ' H' fun σ2 H2 => tu { D with nx := Pv (i + 1), ct := Pv (i + 1), bk := D.nx } σ2 H2) (pd : ∀ σ' H', Pv xs.length σ' H' → D.nx σ' H') : rForT K g tu D σ (.ref a) H :=
  ⟨a, rfl, ⟨xs, hx⟩, for_tup Pv p0 hl ps pd⟩
/-- while: W by a number that falls -/
def Falls (W : Nat → L2.St → Hp → Prop) (m : Nat) : L2.St → Hp → Prop := fun σ' H' => ∃ m', m' < m ∧ W m' σ' H'
theorem x_while (W : Nat → L2.St → Hp → Prop) (m0 : Nat) (h0 : W m0 σ H) (hs : ∀ m σ' H', W m σ' H' → t σ' H' fun b H1 => if b = true then tu { D with nx := Falls W m, ct := Falls W m, bk := D.nx } σ' H1 else D.nx σ' H1)
    (mono : ∀ (σ' : L2.St) (H' : Hp) (R R' : Bool → Hp → Prop), (∀ y H4, R y H4 → R' y H4) → t σ' H' R → t σ' H' R') : tWhile t tu D σ H :=
  ⟨W, ⟨m0, h0⟩, fun m σ' H' hw => mono _ _ _ _ (fun b H1 q => by
    cases b with
    | true =>
      rw [if_pos rfl] at q ⊢
      exact ⟨Falls W m, fun _ _ h => h, q⟩
    | false =>
      rw [if_neg (by decide)] at q ⊢
      exact q) (hs m σ' H' hw)⟩
def WTurn (W : Nat → L2.St → Hp → Prop) (m : Nat) (tu : TS) (D : Ends) (σ : L2.St) : Bool → Hp → Prop := fun b H1 => if b = true then ∃ N : L2.St → Hp → Prop, (∀ σ' H', N σ' H' → ∃ m', m' < m ∧ W m' σ' H') ∧ tu { D with nx := N, ct := N, bk := D.nx } σ H1 else D.nx σ H1
theorem x_while1 (W : Nat → L2.St → Hp → Prop) (m0 : Nat) (h0 : W m0 σ H) (hs : ∀ m σ' H', W m σ' H' → t σ' H' (WTurn W m tu D σ')) : tWhile t tu D σ H := ⟨W, ⟨m0, h0⟩, hs⟩
theorem x_wT {W : Nat → L2.St → Hp → Prop} {m : Nat} (q : tu { D with nx := Falls W m, ct := Falls W m, bk := D.nx } σ H) : WTurn W m tu D σ true H := by
  unfold WTurn
  rw [if_pos rfl]
  exact ⟨Falls W m, fun _ _ h => h, q⟩
theorem x_wF {W : Nat → L2.St → Hp → Prop} {m : Nat} (q : D.nx σ H) : WTurn W m tu D σ false H := by
  unfold WTurn
  rw [if_neg (by decide)]
  exact q
theorem x_wd {W : Nat → L2.St → Hp → Prop} {m : Nat} {p : Prop} [Decidable p] (h1 : p → WTurn W m tu D σ true H) (h2 : ¬p → WTurn W m tu D σ false H) : WTurn W m tu D σ (decide p) H := by
  by_cases h : p
  · rw [decide_eq_true h]
    exact h1 h
  · rw [decide_eq_false h]
    exact h2 h
theorem x_wn {W : Nat → L2.St → Hp → Prop} {m : Nat} {p : Prop} [Decidable p] (h1 : ¬p → WTurn W m tu D σ true H) (h2 : p → WTurn W m tu D σ false H) : WTurn W m tu D σ (!decide p) H := by
  by_cases h : p
  · rw [decide_eq_true h]
    exact h2 h
  · rw [decide_eq_false h]
    exact h1 h

/-! ### comprehensions -/
def RLc (J : It) (g : TG) (tt : TT) (te : TE) (vs : List Nat) (σ : L2.St) (Q : VK) : Hp → Prop := fun H1 => ∀ D, H1 D = none → ∃ W : Nat → Nat → Hp → Prop, (∃ m, W 0 m (upd H1 D (.lst []))) ∧ ∀ i m H, W i m H →
  (J.stop i H ∧ Q (.ref D) H) ∨ (J.go i H ∧ ∃ Nx : Hp → Prop, (∀ H', Nx H' → ∃ m', m' < m ∧ W (i + 1) m' H') ∧ ∀ x H', J.yld i H x H' → g x (wipe σ vs) H' fun σ2 H2 => wipe σ2 vs = wipe σ vs ∧ tt σ2 H2 fun b H3 =>
    if b = true then te σ2 H3 fun y H4 => ∃ acc, H4 D = some (.lst acc) ∧ acc.length < sizeLine ∧ Nx (upd H4 D (.lst (acc ++ [y]))) else Nx H3)
def rLcL (K : PySem.W.Frag) (g : TG) (tt : TT) (te : TE) (vs : List Nat) (σ : L2.St) (Q : VK) : VK := fun x H1 => ∃ a, x = .ref a ∧ (∃ xs, SqL K H1 a xs) ∧ RLc (Itl K a) g tt te vs σ Q H1
def rLcT (K : PySem.W.Frag) (g : TG) (tt : TT) (te : TE) (vs : List Nat) (σ : L2.St) (Q : VK) : VK := fun x H1 => ∃ a, x = .ref a ∧ (∃ xs, SqT K H1 a xs) ∧ RLc (Itt K a) g tt te vs σ Q H1
def rLcR (g : TG) (tt : TT) (te : TE) (vs : List Nat) (σ : L2.St) (Q : VK) : List V → Hp → Prop := fun xs H1 => ∃ j : Int, xs = [.int j] ∧ -(2 ^ 62) ≤ j ∧ j < 2 ^ 62 ∧ RLc (Itr 0 j.toNat) g tt te vs σ Q H1
theorem x_lcL1 {tx : TE} {vs : List Nat} (q : tx σ H (rLcL K g t te vs σ Q)) : tLc (iList K tx) g t te vs σ H Q := q
theorem x_lcT1 {tx : TE} {vs : List Nat} (q : tx σ H (rLcT K g t te vs σ Q)) : tLc (iTup K tx) g t te vs σ H Q := q
theorem x_lcR1 {tr : TA} {vs : List Nat} (q : tr σ H (rLcR g t te vs σ Q)) : tLc (iRng1 tr) g t te vs σ H Q := q
/-- a list comprehension: Pv of the new list's place, the turn and the heap -/
theorem x_lcL {a : Addr} {xs : List V} {vs : List Nat} (Pv : Addr → Nat → Hp → Prop) (hx : SqL K H a xs) (h0 : ∀ Dl, Fr Dl H → Pv Dl 0 (upd H Dl (.lst []))) (hl : ∀ Dl i H', Fr Dl H → Pv Dl i H' → SqL K H' a xs)
    (hs : ∀ Dl, Fr Dl H → ∀ i x H', xs[i]? = some x → Pv Dl i H' → g x (wipe σ vs) H' fun σ2 H2 => wipe σ2 vs = wipe σ vs ∧ t σ2 H2 fun b H3 =>
      if b = true then te σ2 H3 fun y H4 => ∃ acc, H4 Dl = some (.lst acc) ∧ acc.length < sizeLine ∧ Pv Dl (i + 1) (upd H4 Dl (.lst (acc ++ [y]))) else Pv Dl (i + 1) H3)
    (hd : ∀ Dl H', Fr Dl H → Pv Dl xs.length H' → Q (.ref Dl) H') : rLcL K g t te vs σ Q (.ref a) H := ⟨a, rfl, ⟨xs, hx⟩, fun Dl hD =>
  lc_list (xs := xs) (Pv Dl) (h0 Dl ⟨hD⟩) (fun i H' _ p => hl Dl i H' ⟨hD⟩ p) (fun i x H' hi p => hs Dl ⟨hD⟩ i x H' hi p) (fun H' p => hd Dl H' ⟨hD⟩ p)⟩
theorem x_lcT {a : Addr} {xs : List V} {vs : List Nat} (Pv : Addr → Nat → Hp → Prop) (hx : SqT K H a xs) (h0 : ∀ Dl, Fr Dl H → Pv Dl 0 (upd H Dl (.lst []))) (hl : ∀ Dl i H', Fr Dl H → Pv Dl i H' → SqT K H' a xs)
    (hs : ∀ Dl, Fr Dl H → ∀ i x H', xs[i]? = some x → Pv Dl i H' → g x (wipe σ vs) H' fun σ2 H2 => wipe σ2 vs = wipe σ vs ∧ t σ2 H2 fun b H3 =>
      if b = true then te σ2 H3 fun y H4 => ∃ acc, H4 Dl = some (.lst acc) ∧ acc.length < sizeLine ∧ Pv Dl (i + 1) (upd H4 Dl (.lst (acc ++ [y]))) else Pv Dl (i + 1) H3)
    (hd : ∀ Dl H', Fr Dl H → Pv Dl xs.length H' → Q (.ref Dl) H') : rLcT K g t te vs σ Q (.ref a) H := ⟨a, rfl, ⟨xs, hx⟩, fun Dl hD =>
  lc_tup (xs := xs) (Pv Dl) (h0 Dl ⟨hD⟩) (fun i H' _ p => hl Dl i H' ⟨hD⟩ p) (fun i x H' hi p => hs Dl ⟨hD⟩ i x H' hi p) (fun H' p => hd Dl H' ⟨hD⟩ p)⟩
theorem x_lcR {m : Int} {vs : List Nat} (Pv : Addr → Nat → Hp → Prop) (hm : 0 ≤ m ∧ m ≤ 100000) (h0 : ∀ Dl, Fr Dl H → Pv Dl 0 (upd H Dl (.lst [])))
    (hs : ∀ Dl, Fr Dl H → ∀ (i : Nat) H', (i : Int) < m → Pv Dl i H' → g (.int (i : Int)) (wipe σ vs) H' fun σ2 H2 => wipe σ2 vs = wipe σ vs ∧ t σ2 H2 fun b H3 =>
      if b = true then te σ2 H3 fun y H4 => ∃ acc, H4 Dl = some (.lst acc) ∧ acc.length < sizeLine ∧ Pv Dl (i + 1) (upd H4 Dl (.lst (acc ++ [y]))) else Pv Dl (i + 1) H3)
    (hd : ∀ Dl H', Fr Dl H → Pv Dl m.toNat H' → Q (.ref Dl) H') : rLcR g t te vs σ Q [.int m] H := ⟨m, rfl, by omega, by omega, fun Dl hD =>
  lc_range (lo := 0) (n := m.toNat) (Pv Dl) (h0 Dl ⟨hD⟩) (fun i H' hi p => by
    have e0 : (0 : Int) + (i : Int) = (i : Int) := Int.zero_add _
    rw [e0]
    exact hs Dl ⟨hD⟩ i H' (by omega) p) (fun H' p => hd Dl H' ⟨hD⟩ p)⟩
def rLcE (K : PySem.W.Frag) (g : TG) (tt : TT) (te : TE) (vs : List Nat) (σ : L2.St) (Q : VK) : List V → Hp → Prop := fun vs' H1 => ∃ a xs, vs' = [.ref a] ∧ SqL K H1 a xs ∧ RLc (Ite K a) g tt te vs σ Q H1
theorem x_lcE1 {tr : TA} {vs : List Nat} (q : tr σ H (rLcE K g t te vs σ Q)) : tLc (iEnum K tr) g t te vs σ H Q := q
theorem x_lcE {a : Addr} {xs : List V} {vs : List Nat} (Pv : Addr → Nat → Hp → Prop) (hx : SqL K H a xs) (h0 : ∀ Dl, Fr Dl H → Pv Dl 0 (upd H Dl (.lst []))) (hl : ∀ Dl i H', Fr Dl H → Pv Dl i H' → SqL K H' a xs)
    (hs : ∀ Dl, Fr Dl H → ∀ i x H1 T H', xs[i]? = some x → Pv Dl i H1 → Fr T H1 → Same H1 H' → H' T = some (.tup [.int (i : Nat), x]) → g (.ref T) (wipe σ vs) H' fun σ2 H2 => wipe σ2 vs = wipe σ vs ∧ t σ2 H2 fun b H3 =>
      if b = true then te σ2 H3 fun y H4 => ∃ acc, H4 Dl = some (.lst acc) ∧ acc.length < sizeLine ∧ Pv Dl (i + 1) (upd H4 Dl (.lst (acc ++ [y]))) else Pv Dl (i + 1) H3)
    (hd : ∀ Dl H', Fr Dl H → Pv Dl xs.length H' → Q (.ref Dl) H') : rLcE K g t te vs σ Q [.ref a] H := ⟨a, xs, rfl, hx, fun Dl hD =>
  lc_it walk_enum (Pv Dl) (h0 Dl ⟨hD⟩) (fun i H' _ p => hl Dl i H' ⟨hD⟩ p) (fun i x H1 H' hi p y => by
    obtain ⟨T, u, v, rfl, hT, rfl, e1, e2⟩ := y
    cases Option.some.inj e1
    exact hs Dl ⟨hD⟩ i v H1 T _ e2 p ⟨hT⟩ (same_new hT) upd_same) (fun H' p => hd Dl H' ⟨hD⟩ p)⟩
/-- the end of a turn: what is kept goes into the list -/
def Keep (Dl : Addr) (N : Hp → Prop) : VK := fun y H => ∃ acc, H Dl = some (.lst acc) ∧ acc.length < sizeLine ∧ N (upd H Dl (.lst (acc ++ [y])))
theorem x_keep {Dl : Addr} {N : Hp → Prop} {acc : List V} (h : H Dl = some (.lst acc)) (hz : acc.length < 100000) (q : N (upd H Dl (.lst (acc ++ [y])))) : ∃ acc, H Dl = some (.lst acc) ∧ acc.length < sizeLine ∧ N (upd H Dl (.lst (acc ++ [y]))) := ⟨acc, h, size_lt hz, q⟩
theorem x_wiped {A : Prop} {a b : L2.St} (h : a = b) (q : A) : a = b ∧ A := ⟨h, q⟩
end

/-! ### lists -/
theorem map_at {α β : Type} {f : α → β} {xs : List α} {j : Nat} {x : α} (h : xs[j]? = some x) : (xs.map f)[j]? = some (f x) := by
  rw [List.getElem?_map, h]
  rfl
theorem of_map_at {α β : Type} {f : α → β} {xs : List α} {j : Nat} {y : β} (h : (xs.map f)[j]? = some y) : ∃ x, xs[j]? = some x ∧ y = f x := by
  rw [List.getElem?_map] at h
  obtain ⟨x, hx, rfl⟩ := Option.map_eq_some_iff.mp h
  exact ⟨x, hx, rfl⟩
theorem at_lt {α : Type} {xs : List α} {j : Nat} {x : α} (h : xs[j]? = some x) : j < xs.length := (List.getElem?_eq_some_iff.mp h).1
theorem lt_at {α : Type} {xs : List α} {j : Nat} (h : j < xs.length) : ∃ x, xs[j]? = some x := ⟨xs[j], List.getElem?_eq_getElem h⟩
theorem drop_at {α : Type} {xs : List α} {j : Nat} {x : α} (h : xs[j]? = some x) : xs.drop j = x :: xs.drop (j + 1) := by
  obtain ⟨h1, h2⟩ := List.getElem?_eq_some_iff.mp h
  rw [List.drop_eq_getElem_cons h1, h2]
theorem snoc_map {α β : Type} {f : α → β} {xs : List α} {x : α} : xs.map f ++ [f x] = (xs ++ [x]).map f := by
  rw [List.map_append]
  rfl
theorem mem_snoc {α : Type} {P : α → Prop} {xs : List α} {x : α} (h : ∀ y ∈ xs, P y) (hx : P x) : ∀ y ∈ xs ++ [x], P y := fun y hy => by
  rcases List.mem_append.mp hy with hy | hy
  · exact h y hy
  · rw [List.mem_singleton.mp hy]
    exact hx

def upto (a b : Int) : List Int := (List.range (b - a).toNat).map fun i => a + (i : Nat)
theorem rgV_ints (a b : Int) : rgV a b = (upto a b).map V.int := by
  unfold rgV upto
  rw [List.map_map]
  rfl
theorem upto_len (a b : Int) : (upto a b).length = (b - a).toNat := by
  unfold upto
  rw [List.length_map, List.length_range]
def nRg (Q : VK) : Int → Int → Hp → Prop := fun a b H1 => RgOk a b ∧ ∀ q, H1 q = none → Q (.ref q) (upd H1 q (.lst (rgV a b)))
theorem x_lstRg {σ : L2.St} {H : Hp} {Q : VK} {te : L2.St → Hp → (Int → Int → Hp → Prop) → Prop} (q : te σ H (nRg Q)) : tLstRg te σ H Q := q
theorem x_rg1 {σ : L2.St} {H : Hp} {ta : TE} {R : Int → Int → Hp → Prop} (q : ta σ H fun x H1 => ∃ n, x = .int n ∧ R 0 n H1) : tRg1 ta σ H R := q
theorem x_nRg {H : Hp} {Q : VK} {a b : Int} (h : 0 ≤ a ∧ a ≤ 100000 ∧ 0 ≤ b ∧ b ≤ 100000) (k : ∀ p H2, Fr p H → Same H H2 → H2 p = some (.lst ((upto a b).map V.int)) → Q (.ref p) H2) : nRg Q a b H :=
  ⟨RgOk.of_le (by omega) (by omega) (by omega) (by omega), fun p hp => k p _ ⟨hp⟩ (same_new hp) (by rw [upd_same, rgV_ints])⟩
theorem upto_at {a b : Int} {j : Nat} (h : (j : Int) < b - a) : (upto a b)[j]? = some (a + j) := by
  unfold upto
  rw [List.getElem?_map, List.getElem?_range (by omega)]
  rfl

/-! ### lists of lists of ints -/
/-- at a stands a list of lists of ints: L their places and what they hold -/
def LL (H : Hp) (a : Addr) (L : List (Addr × List Int)) : Prop := H a = some (.lst (L.map fun e => V.ref e.1)) ∧ ∀ e ∈ L, H e.1 = some (.lst (e.2.map V.int))
theorem ll_same {H H' : Hp} {a : Addr} {L : List (Addr × List Int)} (e : Same H H') (h : LL H a L) : LL H' a L := ⟨e _ _ h.1, fun p hp => e _ _ (h.2 p hp)⟩
theorem ll_nil {H : Hp} {a : Addr} (h : H a = some (.lst [])) : LL H a [] := ⟨h, fun _ z => absurd z List.not_mem_nil⟩
theorem ll_snoc {H H' : Hp} {a p : Addr} {ns : List Int} {L : List (Addr × List Int)} (h : LL H a L) (h1 : H' a = some (.lst ((L.map fun e => V.ref e.1) ++ [V.ref p]))) (h2 : H' p = some (.lst (ns.map V.int))) (k : ∀ e ∈ L, H' e.1 = H e.1) : LL H' a (L ++ [(p, ns)]) := by
  refine ⟨?_, fun e he => ?_⟩
  · rw [h1, List.map_append]
    rfl
  · rcases List.mem_append.mp he with he | he
    · rw [k e he]
      exact h.2 e he
    · rw [List.mem_singleton.mp he]
      exact h2

/-! ### data -/
def dInts (ns : List Int) : List PyData := ns.map PyData.int
theorem dp_ints {K : PySem.W.Frag} {H : Hp} : ∀ ns : List Int, DpAll K H (ns.map V.int) (dInts ns)
  | [] => .nil
  | n :: r => .cons (.int n) (dp_ints r)
theorem canLay_ints : ∀ ns : List Int, PyData.canLayAll0 (dInts ns) = true
  | [] => by simp [dInts, PyData.canLayAll0]
  | n :: r => by
    have h := canLay_ints r
    unfold dInts at h ⊢
    rw [List.map_cons]
    simp only [PyData.canLayAll0, PyData.canLay0, h, Bool.and_self]
theorem eqv_ints : ∀ ns ms : List Int, PyData.eqvAll (dInts ns) (dInts ms) = decide (ns = ms)
  | [], [] => by simp [dInts, PyData.eqvAll]
  | [], m :: r => by simp [dInts, PyData.eqvAll]
  | n :: r, [] => by simp [dInts, PyData.eqvAll]
  | n :: r, m :: q => by
    have h := eqv_ints r q
    unfold dInts at h ⊢
    rw [List.map_cons, List.map_cons, PyData.eqvAll, h, PyData.eqv]
    by_cases h1 : n = m <;> by_cases h2 : r = q <;> simp [h1, h2]
theorem canLayAll_map {α : Type} {f : α → PyData} : ∀ (xs : List α), (∀ x ∈ xs, (f x).canLay0 = true) → PyData.canLayAll0 (xs.map f) = true
  | [], _ => by simp [PyData.canLayAll0]
  | x :: r, h => by
    have h1 := h x List.mem_cons_self
    have h2 := canLayAll_map r fun y hy => h y (List.mem_cons_of_mem _ hy)
    rw [List.map_cons]
    simp only [PyData.canLayAll0, h1, h2, Bool.and_self]
theorem depthAll_map {α : Type} {f : α → PyData} {n : Nat} : ∀ (xs : List α), (∀ x ∈ xs, (f x).depth ≤ n) → PyData.depthAll (xs.map f) ≤ n
  | [], _ => by simp [PyData.depthAll]
  | x :: r, h => by
    have h1 := h x List.mem_cons_self
    have h2 := depthAll_map r fun y hy => h y (List.mem_cons_of_mem _ hy)
    rw [List.map_cons, PyData.depthAll]
    omega
theorem depth_ints : ∀ ns : List Int, PyData.depthAll (dInts ns) = 0
  | [] => by simp [dInts, PyData.depthAll]
  | n :: r => by
    have h := depth_ints r
    unfold dInts at h ⊢
    rw [List.map_cons, PyData.depthAll, h, PyData.depth]
    rfl
theorem shaped_lints (ns : List Int) : SeqAt.shaped (.list (dInts ns)) = true := by
  unfold SeqAt.shaped
  rw [PyData.canLay0, canLay_ints, PyData.depth, depth_ints]
  rfl
theorem shaped_tints (ns : List Int) : SeqAt.shaped (.tuple (dInts ns)) = true := by
  unfold SeqAt.shaped
  rw [PyData.canLay0, canLay_ints, PyData.depth, depth_ints]
  rfl
theorem eqv_lints (ns ms : List Int) : PyData.eqv (.list (dInts ns)) (.list (dInts ms)) = decide (ns = ms) := by
  rw [PyData.eqv]
  exact eqv_ints ns ms
theorem eqv_tints (ns ms : List Int) : PyData.eqv (.tuple (dInts ns)) (.tuple (dInts ms)) = decide (ns = ms) := by
  rw [PyData.eqv]
  exact eqv_ints ns ms
theorem shaped_of {d : PyData} (h1 : d.canLay0 = true) (h2 : d.depth ≤ 64) : SeqAt.shaped d = true := by
  unfold SeqAt.shaped
  rw [h1, decide_eq_true h2]
  rfl
theorem canLay_lints (ns : List Int) : PyData.canLay0 (.list (dInts ns)) = true := by
  rw [PyData.canLay0, canLay_ints]
theorem depth_lints (ns : List Int) : PyData.depth (.list (dInts ns)) = 1 := by
  rw [PyData.depth, depth_ints]
/-- lists of lists of ints as data -/
def dLists (ps : List (List Int)) : List PyData := ps.map fun p => .list (dInts p)
theorem canLay_lists (ps : List (List Int)) : PyData.canLayAll0 (dLists ps) = true := canLayAll_map ps fun p _ => canLay_lints p
theorem depth_lists (ps : List (List Int)) : PyData.depthAll (dLists ps) ≤ 1 := depthAll_map ps fun p _ => Nat.le_of_eq (depth_lints p)
theorem dp_list {K : PySem.W.Frag} {H : Hp} : ∀ (L : List (Addr × List Int)), (∀ e ∈ L, H e.1 = some (.lst (e.2.map V.int))) → DpAll K H (L.map fun e => V.ref e.1) (dLists (L.map (·.2)))
  | [], _ => .nil
  | e :: r, h => .cons (.lst (sq_of (h e List.mem_cons_self)) (dp_ints _)) (dp_list r fun x hx => h x (List.mem_cons_of_mem _ hx))
theorem dp_LL {K : PySem.W.Frag} {H : Hp} {a : Addr} {L : List (Addr × List Int)} (h : LL H a L) : Dp K H (.ref a) (.list (dLists (L.map (·.2)))) := .lst (sq_of h.1) (dp_list L h.2)
mutual
theorem dp_same {K : PySem.W.Frag} {H H' : Hp} (e : Same H H') : ∀ (d : PyData) (v : V), Dp K H v d → Dp K H' v d
  | .none, _, h => by cases h; exact .non
  | .bool b, _, h => by cases h; exact .bl b
  | .int i, _, h => by cases h; exact .int i
  | .str x, _, h => by cases h; exact .str x
  | .list ds, _, h => by
    cases h with
    | lst hs ha => exact .lst (sq_same hs e) (dpAll_same e ds _ ha)
  | .tuple ds, _, h => by
    cases h with
    | tup hs ha => exact .tup (st_same hs e) (dpAll_same e ds _ ha)
  | .dict _, _, h => by cases h
theorem dpAll_same {K : PySem.W.Frag} {H H' : Hp} (e : Same H H') : ∀ (ds : List PyData) (vs : List V), DpAll K H vs ds → DpAll K H' vs ds
  | [], _, h => by cases h; exact .nil
  | d :: ds, _, h => by
    cases h with
    | cons h1 h2 => exact .cons (dp_same e d _ h1) (dpAll_same e ds _ h2)
end
/-- equal data -/
theorem x_neSame {K : PySem.W.Frag} {H : Hp} {Q : VK} {x y : V} {d : PyData} (h : Dp K H x d) (h' : Dp K H y d) (c : d.canLay0 = true) (n : d.depth ≤ 64) (q : Q (.bl false) H) : rNeD K x y H Q :=
  ⟨d, d, h, h', shaped_of c n, shaped_of c n, by rw [SeqAt.eqv_refl d c]; exact q⟩
theorem x_eqSame {K : PySem.W.Frag} {H : Hp} {Q : VK} {x y : V} {d : PyData} (h : Dp K H x d) (h' : Dp K H y d) (c : d.canLay0 = true) (n : d.depth ≤ 64) (q : Q (.bl true) H) : rEqD K x y H Q :=
  ⟨d, d, h, h', shaped_of c n, shaped_of c n, by rw [SeqAt.eqv_refl d c]; exact q⟩
section
variable {K : PySem.W.Frag} {H : Hp} {Q : VK} {a c : Addr} {ns ms : List Int}
theorem x_neInts (h : SqL K H a (ns.map V.int)) (h' : SqL K H c (ms.map V.int)) (q : Q (.bl (!decide (ns = ms))) H) : rNeD K (.ref a) (.ref c) H Q :=
  ⟨.list (dInts ns), .list (dInts ms), .lst h (dp_ints ns), .lst h' (dp_ints ms), shaped_lints ns, shaped_lints ms, by rw [eqv_lints]; exact q⟩
theorem x_eqInts (h : SqL K H a (ns.map V.int)) (h' : SqL K H c (ms.map V.int)) (q : Q (.bl (decide (ns = ms))) H) : rEqD K (.ref a) (.ref c) H Q :=
  ⟨.list (dInts ns), .list (dInts ms), .lst h (dp_ints ns), .lst h' (dp_ints ms), shaped_lints ns, shaped_lints ms, by rw [eqv_lints]; exact q⟩
theorem x_neTInts (h : SqT K H a (ns.map V.int)) (h' : SqT K H c (ms.map V.int)) (q : Q (.bl (!decide (ns = ms))) H) : rNeD K (.ref a) (.ref c) H Q :=
  ⟨.tuple (dInts ns), .tuple (dInts ms), .tup h (dp_ints ns), .tup h' (dp_ints ms), shaped_tints ns, shaped_tints ms, by rw [eqv_tints]; exact q⟩
theorem x_eqTInts (h : SqT K H a (ns.map V.int)) (h' : SqT K H c (ms.map V.int)) (q : Q (.bl (decide (ns = ms))) H) : rEqD K (.ref a) (.ref c) H Q :=
  ⟨.tuple (dInts ns), .tuple (dInts ms), .tup h (dp_ints ns), .tup h' (dp_ints ms), shaped_tints ns, shaped_tints ms, by rw [eqv_tints]; exact q⟩
end
end Xk
/-! ## slices stored and deleted, properties, own objects -/
namespace Xk
open PySem PySem.Spec PyProof.Rows L2
section
variable {X : Cx} {o : Expr} {lo hi : Option Expr} {to : TE} {tl th : TO} {pos p2 tpos : Pos}
/-- o[lo:hi] = another list -/
def gSubSl (to : TE) (tl th : TO) : TG := fun v σ H R => to σ H fun x H1 => tl σ H1 fun l H2 => th σ H2 fun u H3 => ∃ (a b : Addr) (xs ys : List V) (i j : Int), x = .ref a ∧ v = .ref b ∧ l = some i ∧ u = some j ∧
  H3 a = some (.lst xs) ∧ H3 b = some (.lst ys) ∧ a ≠ b ∧ 0 ≤ i ∧ i ≤ j ∧ j ≤ xs.length ∧ xs.length + ys.length ≤ sizeLine ∧ R σ (upd H3 a (.lst (xs.take i.toNat ++ ys ++ xs.drop j.toNat)))
theorem pg_subSl (ho : PE X o to) (hl : PO X lo tl) (hu : PO X hi th)
    (ha : ∀ v, assign (.Subscript o (.Slice lo hi none p2) pos) X.env v = (do
      let ov ← holding [v] (eval o X.env)
      let iv ← holding [v, ov] (eval (.Slice lo hi none p2) X.env)
      standAt pos
      holding [v, ov, iv] (setItem ov iv v)
      release [iv, v, ov] []) := by intro _; rfl) : PG X (.Subscript o (.Slice lo hi none p2) pos) (gSubSl to tl th) := by
  refine ⟨fun pins s σ H v u Q I r h => ?_⟩
  rw [ha]
  refine wpAny_bind (wpAny_holding (thn (ho.run pins s σ H _ I h) fun ov s1 ⟨x, H1, I1, r1, q1⟩ => ?_))
  refine wpAny_bind (wpAny_holding ?_)
  refine wpAny_Slice (thn (hl.run pins s1 σ H1 _ I1 q1) fun vl s2 ⟨l, H2, I2, pl, q2⟩ => thn (hu.run pins s2 σ H2 _ I2 q2) fun vu s3 ⟨w, H3, I3, pu, q3⟩ => ?_)
  rw [evalPart_none]
  refine wpAny_pure ?_
  have I4 : Inv X pins σ H3 { s3 with heap := s3.heap.push { cls := .type "slice", data := .fields #[vl, vu, .none] } } := I3.kept (t' := s3.toks) fun b ob q => Heap.get?_push_of_some _ q
  obtain ⟨a, b, xs, ys, i, j, rfl, rfl, rfl, rfl, hA, hB, hne, h0, hij, hj, hz, q⟩ := q3
  cases r1
  cases r
  cases pl with
  | int _ ti =>
  cases pu with
  | int _ tj =>
  refine wpAny_bind (wpAny_standAt (wpAny_bind (wpAny_holding ?_)))
  exact set_slice I4 hA hB hne (Heap.IsSliceOf.new ..) ⟨_, rfl⟩ ⟨_, rfl⟩ h0 hij hj hz fun s' I5 => wpAny_release ⟨σ, _, I5, q⟩

theorem sel_take (f : Nat → Bool) (i n : Nat) (h : ∀ k : Nat, f k = (decide ((i : Int) ≤ (k : Int)) && decide ((k : Int) < (n : Int)) && (((k : Int) - (i : Int)) % 1 == 0))) :
    ∀ (xs : List Value) (m : Nat), m + xs.length ≤ n → (xs.zipIdx m).filterMap (fun (x, k) => if f k then none else some x) = xs.take (i - m)
  | [], m, hm => by simp
  | x :: r, m, hm => by
    rw [List.length_cons] at hm
    have ih := sel_take f i n h r (m + 1) (by omega)
    rw [List.zipIdx_cons, List.filterMap_cons]
    have hf : f m = decide (i ≤ m) := by
      rw [h m]
      by_cases h1 : i ≤ m
      · have h2 : (i : Int) ≤ (m : Int) := by omega
        have h3 : (m : Int) < (n : Int) := by omega
        have h4 : ((m : Int) - (i : Int)) % 1 = 0 := by omega
        rw [h4, decide_eq_true h1, decide_eq_true h2, decide_eq_true h3]
        rfl
      · have h2 : ¬ (i : Int) ≤ (m : Int) := by omega
        rw [decide_eq_false h1, decide_eq_false h2]
        rfl
    by_cases h1 : i ≤ m
    · have e : f m = true := by rw [hf, decide_eq_true h1]
      simp only [e, if_true]
      rw [ih, show i - (m + 1) = 0 by omega, show i - m = 0 by omega]
      rfl
    · have e : f m = false := by rw [hf, decide_eq_false h1]
      simp only [e]
      show x :: _ = _
      rw [ih, show i - m = (i - (m + 1)) + 1 by omega]
      rfl
theorem bounds_from {i n : Nat} (hi : i ≤ n) : sliceBounds (some (i : Int)) none none n = ((i : Int), (n : Int), 1) := by
  simp only [sliceBounds, Option.getD_none]
  have h1 : ¬ ((i : Int) < 0) := by omega
  simp only [h1, if_false, show (1 : Int) > 0 by decide, if_true]
  congr 1
  omega
section
variable {prog : Program} {w : World} {A : Around} {E : Value → Shared → Prop} {s : Shared}
open PySem.P PySem.F in
theorem delItem_tail {l sl : Addr} {items : Array Value} {n : Nat} {vl : Value} {i : Nat} {Q : Unit → Shared → Prop}
    (e : s.heap.get? l = some { cls := .type "list", data := .seq items n }) (hs : s.heap.IsSliceOf sl vl .none .none) (pl : IsPart vl (some (i : Int))) (hi : i ≤ items.size) (hsz : items.size ≤ sizeLine)
    (h : ∀ f : Array Value → Array Value, f items = (items.toList.take i).toArray → Q () { s with heap := s.heap.update l (Obj.mapSeq f) }) :
    wpAny (model prog w) A (delItem (.ref l) (.ref sl)) Q E s := by
  have hl : s.heap.IsList l items := PySem.IsL.isList e
  obtain ⟨os, hos, hcs, hds⟩ := id hs
  have hTs : s.TypeIs (.ref sl) "slice" := ⟨os, hos, hcs⟩
  have hstep : ¬ ((rawPart none == rawInt 0) = true) := Bool.false_ne_true
  unfold delItem
  refine wpAny_holding ?_
  refine wpAny_bind (wpAny_sequenceKey hl.typeIs (by decide) ?_)
  refine wpAny_bind (wpAny_callSpecial?_slot (name := Str.ofString "__delitem__") hl.typeIs PySem.F.slot_list_delitem
    (wpAny_call_entry PySem.F.slot_list_delitem hl.typeIs PySem.F.entry_list_delitem ?_ (PySem.F.args_list_delitem_2 _ _)))
  show wpAny _ _ (Builtin.List.listSubscript? (.ref sl) >>= _) _ _ s
  refine wpAny_bind ?_
  unfold Builtin.List.listSubscript?
  refine wpAny_bind (wpAny_specialOf hTs slice_no_index ?_)
  simp only [Option.isNone_none, if_true]
  refine wpAny_pure ?_
  show wpAny _ _ (typeOf (.ref sl) >>= _) _ _ s
  refine wpAny_bind (wpAny_typeOf hTs ?_)
  first
    | rw [if_neg (by decide)]
    | refine PySem.W.KFB.if_not (by decide) ?_
  rw [listSliceParts_eq]
  refine wpAny_bind (wpAny_bind (wpAny_field hos hds (x := .none) rfl (wpAny_bind (wpAny_listPart .none ?_))))
  rw [if_neg hstep]
  refine wpAny_bind (wpAny_field hos hds (x := vl) rfl (wpAny_bind (wpAny_listPart pl ?_)))
  refine wpAny_bind (wpAny_field hos hds (x := .none) rfl (wpAny_bind (wpAny_listPart .none (wpAny_pure ?_))))
  refine wpAny_bind (m := Builtin.List.listItems (.ref l)) ?_
  unfold Builtin.List.listItems
  refine wpAny_bind (wpAny_seqItems e rfl (wpAny_pure ?_))
  refine wpAny_bind (wpAny_of_eq ((sliceIndices_raw (some (i : Int)) none none items.size (by simp)).trans (congrArg (pure : Int × Int × Int → Sem (Int × Int × Int)) (bounds_from hi))) ?_)
  refine wpAny_bind (wpAny_rule ?_)
  show wpAny _ _ (updateSeq l _ >>= _) _ _ s
  have hf := sel_take _ i items.size (fun k => rfl) items.toList 0 (by simp)
  refine wpAny_bind (wpAny_updateSeq (hz := hsz) (_hz' := ?_) e rfl ?_)
  refine wpAny_bind (wpAny_letGo ?_)
  · exact wpAny_pure ⟨.none, rfl, wpAny_pure (h _ (congrArg List.toArray hf))⟩
  · refine Nat.le_trans (Nat.le_of_eq (congrArg Array.size (congrArg List.toArray hf))) ?_
    rw [List.size_toArray, List.length_take, Array.length_toList]
    omega
end
variable {pins : List (Addr × Obj)}
theorem del_tail {s : Shared} {σ : L2.St} {H : Hp} {l sl : Addr} {xs : List V} {i : Nat} {vl : Value} {Q : Unit → Shared → Prop} (I : Inv X pins σ H s) (hH : H l = some (.lst xs))
    (hs : s.heap.IsSliceOf sl vl .none .none) (pl : IsPart vl (some (i : Int))) (hi : i ≤ xs.length) (h : ∀ s', Inv X pins σ (upd H l (.lst (xs.take i))) s' → Q () s') :
    wpAny (model X.prog X.w) X.A (delItem (.ref l) (.ref sl)) Q X.xe s := by
  obtain ⟨z, its, n, r, hl, e⟩ := I.lstM hH
  refine delItem_tail e hs pl (by rw [List.size_toArray]; omega) (by rw [List.size_toArray]; omega) fun f hf => h _ ?_
  refine I.lset (its' := its.take i) (t' := s.toks) hH e ?_ (r.take i) ?_
  · rw [hf]
  · rw [List.length_take]
    omega
/-- del o[i:] -/
def tDelT (to : TE) (tl : TO) : TS := fun D σ H => to σ H fun x H1 => tl σ H1 fun u H2 => ∃ (l : Addr) (xs : List V) (i : Nat), x = .ref l ∧ u = some (i : Int) ∧ H2 l = some (.lst xs) ∧ i ≤ xs.length ∧ D.nx σ (upd H2 l (.lst (xs.take i)))
theorem ps_delT (ho : PE X o to) (hl : PO X lo tl) : PS X (.Delete [.Subscript o (.Slice lo none none p2) tpos] pos) (tDelT to tl) := by
  refine ⟨fun pins s σ H D I h => ?_⟩
  refine wpAny_Delete (wpAny_deleteEach_cons (wpAny_delete_Subscript (thn (ho.run pins s σ H _ I h) fun u s1 ⟨x, H1, I1, rx, q1⟩ => ?_)))
  refine wpAny_Slice (thn (hl.run pins s1 σ H1 _ I1 q1) fun vl s2 ⟨w, H2, I2, pl, q2⟩ => ?_)
  rw [evalPart_none]
  refine wpAny_pure (wpAny_pure ?_)
  have I4 : Inv X pins σ H2 { s2 with heap := s2.heap.push { cls := .type "slice", data := .fields #[vl, .none, .none] } } := I2.kept (t' := s2.toks) fun b ob q => Heap.get?_push_of_some _ q
  obtain ⟨l, xs, i, rfl, rfl, hA, hi, q⟩ := q2
  cases rx
  exact del_tail I4 hA (Heap.IsSliceOf.new ..) pl hi fun s3 I3 => wpAny_deleteEach_nil ⟨σ, _, I3, q⟩
end
section
variable {K : PySem.W.Frag} {σ σ2 : L2.St} {H H1 H2 : Hp} {Q : VK} {ta tv te te1 : TE} {D : Ends} {tz : TS} {g g1 : TG} {t tt1 : TT} {x v : V}
theorem k_pil {X : Cx} {tg l : Expr} {tl : TE} (e : X.K = K) (h : PE X l tl) : PI X tg l (iList K tl) := e ▸ pi_list h
/-- the inner for of a comprehension -/
def RIn (J : It) (g1 : TG) (tt1 : TT) (te : TE) (vs1 : List Nat) (σ2 : L2.St) (Dl : Addr) (N : Hp → Prop) : Hp → Prop := fun H4 => ∃ W1 : Nat → Nat → Hp → Prop, (∃ m, W1 0 m H4) ∧ ∀ j k H, W1 j k H →
  (J.stop j H ∧ N H) ∨ (J.go j H ∧ ∃ Nx1 : Hp → Prop, (∀ H', Nx1 H' → ∃ k', k' < k ∧ W1 (j + 1) k' H') ∧ ∀ x H', J.yld j H x H' → g1 x (wipe σ2 vs1) H' fun σ3 H5 => wipe σ3 vs1 = wipe σ2 vs1 ∧ tt1 σ3 H5 fun b H6 =>
    if b = true then te σ3 H6 fun y H7 => ∃ acc, H7 Dl = some (.lst acc) ∧ acc.length < sizeLine ∧ Nx1 (upd H7 Dl (.lst (acc ++ [y]))) else Nx1 H6)
def rInL (K : PySem.W.Frag) (g1 : TG) (tt1 : TT) (te : TE) (vs1 : List Nat) (σ2 : L2.St) (Dl : Addr) (N : Hp → Prop) : VK := fun x H4 => ∃ a, x = .ref a ∧ (∃ xs, SqL K H4 a xs) ∧ RIn (Itl K a) g1 tt1 te vs1 σ2 Dl N H4
theorem x_infL {a Dl : Addr} {xs : List V} {vs1 : List Nat} {N : Hp → Prop} (Pv : Nat → Hp → Prop) (hx : SqL K H a xs) (p0 : Pv 0 H) (hl : ∀ i H', Pv i H' → SqL K H' a xs)
    (hs : ∀ i x H', xs[i]? = some x → Pv i H' → g1 x (wipe σ2 vs1) H' fun σ3 H5 => wipe σ3 vs1 = wipe σ2 vs1 ∧ tt1 σ3 H5 fun b H6 => if b = true then te σ3 H6 (fun y H7 => ∃ acc, H7 Dl = some (.lst acc) ∧ acc.length < sizeLine ∧ Pv (i + 1) (upd H7 Dl (.lst (acc ++ [y])))) else Pv (i + 1) H6)
    (hd : ∀ H', Pv xs.length H' → N H') : rInL K g1 tt1 te vs1 σ2 Dl N (.ref a) H := by
  refine ⟨a, rfl, ⟨xs, hx⟩, fun i m H => m = xs.length - i ∧ i ≤ xs.length ∧ Pv i H, ⟨xs.length, by simp, Nat.zero_le _, p0⟩, ?_⟩
  rintro i m H' ⟨rfl, hi, p⟩
  have q := hl i H' p
  by_cases hlt : i < xs.length
  · refine .inr ⟨⟨xs, xs[i], q, by simp [hlt]⟩, Pv (i + 1), fun H' p' => ⟨xs.length - (i + 1), by omega, rfl, hlt, p'⟩, fun x H2 y => ?_⟩
    obtain ⟨e, y⟩ := y
    subst e
    exact hs i x _ (y xs q) p
  · have e : i = xs.length := by omega
    subst e
    exact .inl ⟨⟨xs, q, Nat.le_refl _⟩, hd H' p⟩
/-- the outer for -/
def rLc2L (K : PySem.W.Frag) (g : TG) (te1 : TE) (g1 : TG) (tt1 : TT) (te : TE) (vs vs1 : List Nat) (σ : L2.St) (Q : VK) : VK := fun x H1 => ∃ a, x = .ref a ∧ (∃ xs, SqL K H1 a xs) ∧ ∀ D, H1 D = none → ∃ W : Nat → Nat → Hp → Prop, (∃ m, W 0 m (upd H1 D (.lst []))) ∧ ∀ i m H, W i m H →
  ((Itl K a).stop i H ∧ Q (.ref D) H) ∨ ((Itl K a).go i H ∧ ∃ Nx : Hp → Prop, (∀ H', Nx H' → ∃ m', m' < m ∧ W (i + 1) m' H') ∧ ∀ x H', (Itl K a).yld i H x H' → g x (wipe σ vs) H' fun σ2 H2 => wipe σ2 vs = wipe σ vs ∧
    te1 σ2 H2 (rInL K g1 tt1 te vs1 σ2 D Nx))
theorem x_lc2 {tx : TE} {vs vs1 : List Nat} (q : tx σ H (rLc2L K g te1 g1 tt1 te vs vs1 σ Q)) : tLc2 (iList K tx) g tYes (iList K te1) g1 tt1 te vs vs1 σ H Q := q
theorem x_lc2L {a : Addr} {xs : List V} {vs vs1 : List Nat} (Pv : Addr → Nat → Hp → Prop) (hx : SqL K H a xs) (h0 : ∀ Dl, Fr Dl H → Pv Dl 0 (upd H Dl (.lst []))) (hl : ∀ Dl i H', Fr Dl H → Pv Dl i H' → SqL K H' a xs)
    (hs : ∀ Dl, Fr Dl H → ∀ i x H', xs[i]? = some x → Pv Dl i H' → g x (wipe σ vs) H' fun σ2 H2 => wipe σ2 vs = wipe σ vs ∧ te1 σ2 H2 (rInL K g1 tt1 te vs1 σ2 Dl (Pv Dl (i + 1))))
    (hd : ∀ Dl H', Fr Dl H → Pv Dl xs.length H' → Q (.ref Dl) H') : rLc2L K g te1 g1 tt1 te vs vs1 σ Q (.ref a) H := by
  refine ⟨a, rfl, ⟨xs, hx⟩, fun Dl hD => ⟨fun i m H => m = xs.length - i ∧ i ≤ xs.length ∧ Pv Dl i H, ⟨xs.length, by simp, Nat.zero_le _, h0 Dl ⟨hD⟩⟩, ?_⟩⟩
  rintro i m H' ⟨rfl, hi, p⟩
  have q := hl Dl i H' ⟨hD⟩ p
  by_cases hlt : i < xs.length
  · refine .inr ⟨⟨xs, xs[i], q, by simp [hlt]⟩, Pv Dl (i + 1), fun H' p' => ⟨xs.length - (i + 1), by omega, rfl, hlt, p'⟩, fun x H2 y => ?_⟩
    obtain ⟨e, y⟩ := y
    subst e
    exact hs Dl ⟨hD⟩ i x _ (y xs q) p
  · have e : i = xs.length := by omega
    subst e
    exact .inl ⟨⟨xs, q, Nat.le_refl _⟩, hd Dl H' ⟨hD⟩ p⟩
/-- attributes -/
theorem x_fld {a C dx : Addr} {fs : List (Str × V)} {f : Str} (h : H a = some (.ins C dx fs)) (c : Cls K C) (n : NoAttr K C f) (l : fs.lookup f = some v) (q : Q v H) : (∃ a' C dx fs v, V.ref a = .ref a' ∧ H a' = some (.ins C dx fs) ∧ Cls K C ∧ NoAttr K C f ∧ fs.lookup f = some v ∧ Q v H) :=
  ⟨a, C, dx, fs, v, rfl, h, c, n, l, q⟩
/-- what is read from an instance -/
def rFld (K : PySem.W.Frag) (f : Str) (Q : VK) : VK := fun x H1 => ∃ a C dx fs v, x = .ref a ∧ H1 a = some (.ins C dx fs) ∧ Cls K C ∧ NoAttr K C f ∧ fs.lookup f = some v ∧ Q v H1
theorem x_fld1 {f : Str} (q : ta σ H (rFld K f Q)) : tFld K ta f σ H Q := q
theorem x_rFld {a C dx : Addr} {fs : List (Str × V)} {f : Str} (h : H a = some (.ins C dx fs)) (c : Cls K C) (n : NoAttr K C f) (l : fs.lookup f = some v) (q : Q v H) : rFld K f Q (.ref a) H := ⟨a, C, dx, fs, v, rfl, h, c, n, l, q⟩
def rSetF (K : PySem.W.Frag) (f : Str) (y : V) (R : Hp → Prop) : VK := fun x H2 => ∃ a C dx fs, x = .ref a ∧ H2 a = some (.ins C dx fs) ∧ Cls K C ∧ NoAttr K C f ∧ fs.length < 1000 ∧ R (upd H2 a (.ins C dx (putF f y fs)))
theorem x_sfld {f : Str} (q : tv σ H fun y H1 => ta σ H1 (rSetF K f y (D.nx σ))) : sFld K ta tv f D σ H := q
theorem x_ssfld {f : Str} (q : tv σ H fun y H1 => ta σ H1 (rSetF K f y fun H2 => tz D σ H2)) : tSeq (sFld K ta tv f) tz D σ H := q
theorem x_rSetF {a C dx : Addr} {fs : List (Str × V)} {f : Str} {R : Hp → Prop} (h : H a = some (.ins C dx fs)) (c : Cls K C) (n : NoAttr K C f) (l : fs.length < 1000) (q : R (upd H a (.ins C dx (putF f x fs)))) : rSetF K f x R (.ref a) H := ⟨a, C, dx, fs, rfl, h, c, n, l, q⟩
def rProp (C : Addr) (sp : Sp) (dvs : List V) (E : XK) (Q : VK) : VK := fun x H1 => ∃ a dx fs, x = .ref a ∧ H1 a = some (.ins C dx fs) ∧ sp (.ref a :: dvs) H1 Q E
theorem x_prop {C : Addr} {sp : Sp} {dvs : List V} {E : XK} (q : ta σ H (rProp C sp dvs E Q)) : tProp C sp dvs E ta σ H Q := q
theorem x_rProp {a C dx : Addr} {fs : List (Str × V)} {sp : Sp} {dvs : List V} {E : XK} (h : H a = some (.ins C dx fs)) (q : sp (.ref a :: dvs) H Q E) : rProp C sp dvs E Q (.ref a) H := ⟨a, dx, fs, rfl, h, q⟩
def rMeth (C : Addr) (m : Str) (tr : TA) (sp : Sp) (dvs : List V) (E : XK) (σ : L2.St) (Q : VK) : VK := fun x H1 => ∃ a dx fs, x = .ref a ∧ H1 a = some (.ins C dx fs) ∧ fs.lookup m = none ∧ tr σ H1 fun vs H2 => sp (x :: (vs ++ dvs)) H2 Q E
theorem x_meth {C : Addr} {m : Str} {tr : TA} {sp : Sp} {dvs : List V} {E : XK} (q : ta σ H (rMeth C m tr sp dvs E σ Q)) : tMeth C m sp dvs E ta tr σ H Q := q
theorem x_rMeth {a C dx : Addr} {fs : List (Str × V)} {m : Str} {tr : TA} {sp : Sp} {dvs : List V} {E : XK} (h : H a = some (.ins C dx fs)) (l : fs.lookup m = none) (q : tr σ H fun vs H2 => sp (.ref a :: (vs ++ dvs)) H2 Q E) : rMeth C m tr sp dvs E σ Q (.ref a) H := ⟨a, dx, fs, rfl, h, l, q⟩
def rMake (C : Addr) (sp : Sp) (dvs : List V) (E : XK) (Q : VK) : List V → Hp → Prop := fun vs H1 => ∀ x dx, H1 x = none → H1 dx = none → dx ≠ x → sp (.ref x :: (vs ++ dvs)) (upd (upd H1 dx (.own x)) x (.ins C dx [])) (fun v H2 => v = .non ∧ Q (.ref x) H2) E
theorem x_make {C : Addr} {tr : TA} {sp : Sp} {dvs : List V} {E : XK} (q : tr σ H (rMake C sp dvs E Q)) : tMake C sp dvs E tr σ H Q := q
theorem x_rMake {C : Addr} {sp : Sp} {dvs vs : List V} {E : XK} (k : ∀ x dx H2, Fr x H → Fr dx H → dx ≠ x → Same H H2 → H2 dx = some (.own x) → H2 x = some (.ins C dx []) → sp (.ref x :: (vs ++ dvs)) H2 (fun v H3 => v = .non ∧ Q (.ref x) H3) E) : rMake C sp dvs E Q vs H :=
  fun x dx hx hd hn => k x dx _ ⟨hx⟩ ⟨hd⟩ hn (same_mut (same_fr ⟨hd⟩) ⟨hx⟩) ((upd_ne hn).trans upd_same) upd_same
/-- slices stored and deleted -/
def rDelT (R : Hp → Prop) (l : Addr) (xs : List V) (i : Nat) (u : Option Int) (H2 : Hp) : Prop := u = some (i : Int) ∧ H2 l = some (.lst xs) ∧ i ≤ xs.length ∧ R (upd H2 l (.lst (xs.take i)))
theorem x_delT {to : TE} {tl : TO} (q : to σ H fun x H1 => tl σ H1 fun u H2 => ∃ l xs i, x = .ref l ∧ rDelT (D.nx σ) l xs i u H2) : tDelT to tl D σ H := q
theorem x_sdelT {to : TE} {tl : TO} (q : to σ H fun x H1 => tl σ H1 fun u H2 => ∃ l xs i, x = .ref l ∧ rDelT (fun H3 => tz D σ H3) l xs i u H2) : tSeq (tDelT to tl) tz D σ H := q
theorem x_rDelT {l : Addr} {xs : List V} {i : Nat} {k : Int} {R : Hp → Prop} (e : k = (i : Int)) (h : H l = some (.lst xs)) (hi : i ≤ xs.length) (q : R (upd H l (.lst (xs.take i)))) : ∃ l' xs i', V.ref l = .ref l' ∧ rDelT R l' xs i' (some k) H := ⟨l, xs, i, rfl, by rw [e], h, hi, q⟩
end
end Xk
/-! ## pairs in order, defs with defaults -/
namespace Xk
open PySem PySem.Spec PyProof.Rows L2
/-- the pair (p, q) stands below (r, s) -/
def Bf (p q r s : Int) : Prop := p < r ∨ (p = r ∧ q < s)
instance {p q r s : Int} : Decidable (Bf p q r s) := by unfold Bf; infer_instance
section
variable {X : Cx} {K : PySem.W.Frag} {H : Hp} {Q : VK} {a b : Addr} {p q r s : Int}
theorem pair_in {pins : List (Addr × Obj)} {σ : L2.St} {z : Shared} (I : Inv X pins σ H z) (h : SqT X.K H a [.int p, .int q]) : ∃ t u, z.heap.IsTuple a #[.int p t, .int q u] := by
  obtain ⟨vs, rv, it, _⟩ := I.tuple h
  cases rv with
  | cons x y =>
    cases y with
    | cons y w =>
      cases w
      obtain ⟨t, rfl⟩ := x
      obtain ⟨u, rfl⟩ := y
      exact ⟨t, u, it⟩
theorem eq_ints {A : Around} {z : Shared} (i j : Int) (t u : Tok) : SeqAt.EqAt A z (.int i t) (.int j u) (decide (i = j)) := by
  have h : (i == j) = decide (i = j) := by
    by_cases e : i = j
    · subst e
      simp
    · simp [e]
  rw [← h]
  exact SeqAt.EqAt.int_int _ _ _ _
def rGeP (K : PySem.W.Frag) : R2 := fun x y H Q => ∃ a b p q r s, x = .ref a ∧ y = .ref b ∧ SqT K H a [.int p, .int q] ∧ SqT K H b [.int r, .int s] ∧ Q (.bl (!decide (Bf p q r s))) H
def rLtP (K : PySem.W.Frag) : R2 := fun x y H Q => ∃ a b p q r s, x = .ref a ∧ y = .ref b ∧ SqT K H a [.int p, .int q] ∧ SqT K H b [.int r, .int s] ∧ Q (.bl (decide (Bf p q r s))) H
theorem op_geP (hu : X.A.units < cLine) : OpR X (compareOp .GtE) (rGeP X.K) := by
  intro pins σ0 σ H x y v u Q I rx ry h
  obtain ⟨a, b, p, q, r, s, rfl, rfl, ha, hb, k⟩ := h
  cases rx
  cases ry
  obtain ⟨t1, t2, ia⟩ := pair_in I ha
  obtain ⟨t3, t4, ib⟩ := pair_in I hb
  have R := Ob.RcOp.tuples_ge (e := fun j => if j = 0 then decide (p = r) else decide (q = s)) (r := fun j => if j = 0 then decide (r ≤ p) else decide (s ≤ q)) ia ib hu
    (fun j h1 h2 => match j, h1, h2 with | 0, _, _ => eq_ints _ _ _ _ | 1, _, _ => eq_ints _ _ _ _ | j + 2, z, _ => absurd (show j + 2 < 2 from z) (by omega))
    (fun j h1 h2 _ => match j, h1, h2 with | 0, _, _ => Ob.RcOp.ge_int _ _ _ _ | 1, _, _ => Ob.RcOp.ge_int _ _ _ _ | j + 2, z, _ => absurd (show j + 2 < 2 from z) (by omega))
  refine R X.prog X.w X.xe _ ?_
  have e : Ob.lexAt (fun j => if j = 0 then decide (p = r) else decide (q = s)) (fun j => if j = 0 then decide (r ≤ p) else decide (s ≤ q)) (decide (2 ≥ 2)) 0 2 = !decide (Bf p q r s) := by
    simp only [Ob.lexAt_succ, Ob.lexAt_zero, Bf]
    by_cases h1 : p = r
    · by_cases h2 : q = s
      · simp [h1, h2]
      · by_cases h3 : s ≤ q
        · have h4 : ¬ q < s := by omega
          simp [h1, h2, h3, h4]
        · have h4 : q < s := by omega
          simp [h1, h2, h3, h4]
    · by_cases h3 : r ≤ p
      · have h4 : ¬ p < r := by omega
        simp [h1, h3, h4]
      · have h4 : p < r := by omega
        simp [h1, h3, h4]
  exact ⟨.bl _, H, I, rfl, (congrArg (fun z => Q (.bl z) H) e).mpr k⟩
theorem op_ltP (hu : X.A.units < cLine) : OpR X (compareOp .Lt) (rLtP X.K) := by
  intro pins σ0 σ H x y v u Q I rx ry h
  obtain ⟨a, b, p, q, r, s, rfl, rfl, ha, hb, k⟩ := h
  cases rx
  cases ry
  obtain ⟨t1, t2, ia⟩ := pair_in I ha
  obtain ⟨t3, t4, ib⟩ := pair_in I hb
  have R := Ob.RcOp.tuples_lt (e := fun j => if j = 0 then decide (p = r) else decide (q = s)) (r := fun j => if j = 0 then decide (p < r) else decide (q < s)) ia ib hu
    (fun j h1 h2 => match j, h1, h2 with | 0, _, _ => eq_ints _ _ _ _ | 1, _, _ => eq_ints _ _ _ _ | j + 2, z, _ => absurd (show j + 2 < 2 from z) (by omega))
    (fun j h1 h2 _ => match j, h1, h2 with | 0, _, _ => Ob.RcOp.lt_int _ _ _ _ | 1, _, _ => Ob.RcOp.lt_int _ _ _ _ | j + 2, z, _ => absurd (show j + 2 < 2 from z) (by omega))
  refine R X.prog X.w X.xe _ ?_
  have e : Ob.lexAt (fun j => if j = 0 then decide (p = r) else decide (q = s)) (fun j => if j = 0 then decide (p < r) else decide (q < s)) (decide (2 < 2)) 0 2 = decide (Bf p q r s) := by
    simp only [Ob.lexAt_succ, Ob.lexAt_zero, Bf]
    by_cases h1 : p = r
    · by_cases h2 : q = s
      · simp [h1, h2]
      · by_cases h3 : q < s
        · simp [h1, h2, h3]
        · simp [h1, h2, h3]
    · by_cases h3 : p < r
      · simp [h1, h3]
      · simp [h1, h3]
  exact ⟨.bl _, H, I, rfl, (congrArg (fun z => Q (.bl z) H) e).mpr k⟩
theorem k_geP (hu : X.A.units + 64 < cLine) (e : X.K = K) : OpR X (compareOp .GtE) (rGeP K) := e ▸ op_geP (by omega)
theorem k_ltP (hu : X.A.units + 64 < cLine) (e : X.K = K) : OpR X (compareOp .Lt) (rLtP K) := e ▸ op_ltP (by omega)
theorem x_geP (h : SqT K H a [.int p, .int q]) (h' : SqT K H b [.int r, .int s]) (k : Q (.bl (!decide (Bf p q r s))) H) : rGeP K (.ref a) (.ref b) H Q := ⟨a, b, p, q, r, s, rfl, rfl, h, h', k⟩
theorem x_ltP (h : SqT K H a [.int p, .int q]) (h' : SqT K H b [.int r, .int s]) (k : Q (.bl (decide (Bf p q r s))) H) : rLtP K (.ref a) (.ref b) H Q := ⟨a, b, p, q, r, s, rfl, rfl, h, h', k⟩
def nMax2 : List V → Hp → VK → Prop := fun xs H Q => ∃ i j : Int, xs = [.int i, .int j] ∧ Q (.int (max i j)) H
def nMin2 : List V → Hp → VK → Prop := fun xs H Q => ∃ i j : Int, xs = [.int i, .int j] ∧ Q (.int (min i j)) H
theorem call_nMax2 (hc : X.calm = true) : CallR X (.builtin "max") nMax2 := by
  intro pins s σ H xs us Q I r h
  obtain ⟨i, j, e, q⟩ := h
  refine call_max2 hc pins s σ H xs us Q I r ⟨i, j, e, ?_⟩
  have z : (if j > i then j else i) = max i j := by
    by_cases h : i < j
    · rw [if_pos h]
      omega
    · rw [if_neg h]
      omega
  rw [z]
  exact q
theorem call_nMin2 (hc : X.calm = true) : CallR X (.builtin "min") nMin2 := by
  intro pins s σ H xs us Q I r h
  obtain ⟨i, j, e, q⟩ := h
  refine call_min2 hc pins s σ H xs us Q I r ⟨i, j, e, ?_⟩
  have z : (if j < i then j else i) = min i j := by
    by_cases h : j < i
    · rw [if_pos h]
      omega
    · rw [if_neg h]
      omega
  rw [z]
  exact q
theorem x_nMax2 {i j : Int} (k : Q (.int (max i j)) H) : nMax2 [.int i, .int j] H Q := ⟨i, j, rfl, k⟩
theorem x_nMin2 {i j : Int} (k : Q (.int (min i j)) H) : nMin2 [.int i, .int j] H Q := ⟨i, j, rfl, k⟩
/-- lists and tuples stay, though an own object changes -/
structure Sk (K : PySem.W.Frag) (H H' : Hp) : Prop where
  l : ∀ a xs, SqL K H a xs → SqL K H' a xs
  t : ∀ a xs, SqT K H a xs → SqT K H' a xs
theorem sk_same {H' : Hp} (e : Same H H') : Sk K H H' := ⟨fun _ _ h => sq_same h e, fun _ _ h => st_same h e⟩
theorem Sk.refl (H : Hp) : Sk K H H := ⟨fun _ _ h => h, fun _ _ h => h⟩
theorem Sk.trans {H' H'' : Hp} (e : Sk K H H') (e' : Sk K H' H'') : Sk K H H'' := ⟨fun a xs h => e'.l a xs (e.l a xs h), fun a xs h => e'.t a xs (e.t a xs h)⟩
theorem sk_but {H' : Hp} {C dx : Addr} {fs : List (Str × V)} (hi : H a = some (.ins C dx fs)) (e : But a H H') : Sk K H H' := by
  have key : ∀ b o, H b = some o → (∀ C dx fs, o ≠ .ins C dx fs) → H' b = some o := fun b o hb hn => e b o (fun z => by
    subst z
    exact hn _ _ _ (Option.some.inj (hb.symm.trans hi))) hb
  constructor
  · intro b xs h
    rcases h with (h | ⟨o, h⟩) | h
    · exact .inl (.inl (key _ _ h fun _ _ _ z => by cases z))
    · exact .inl (.inr ⟨o, key _ _ h fun _ _ _ z => by cases z⟩)
    · exact .inr h
  · intro b xs h
    rcases h with (h | ⟨o, h⟩) | h
    · exact .inl (.inl (key _ _ h fun _ _ _ z => by cases z))
    · exact .inl (.inr ⟨o, key _ _ h fun _ _ _ z => by cases z⟩)
    · exact .inr h
mutual
theorem dp_sk {H' : Hp} (e : Sk K H H') : ∀ (d : PyData) (v : V), Dp K H v d → Dp K H' v d
  | .none, _, h => by cases h; exact .non
  | .bool b, _, h => by cases h; exact .bl b
  | .int i, _, h => by cases h; exact .int i
  | .str x, _, h => by cases h; exact .str x
  | .list ds, _, h => by
    cases h with
    | lst hs ha => exact .lst (e.l _ _ hs) (dps_sk e ds _ ha)
  | .tuple ds, _, h => by
    cases h with
    | tup hs ha => exact .tup (e.t _ _ hs) (dps_sk e ds _ ha)
  | .dict _, _, h => by cases h
theorem dps_sk {H' : Hp} (e : Sk K H H') : ∀ (ds : List PyData) (vs : List V), DpAll K H vs ds → DpAll K H' vs ds
  | [], _, h => by cases h; exact .nil
  | d :: ds, _, h => by
    cases h with
    | cons h1 h2 => exact .cons (dp_sk e d _ h1) (dps_sk e ds _ h2)
end
/-- tuples stay -/
structure St (K : PySem.W.Frag) (H H' : Hp) : Prop where
  t : ∀ a xs, SqT K H a xs → SqT K H' a xs
theorem Sk.st {H' : Hp} (e : Sk K H H') : St K H H' := ⟨e.t⟩
theorem St.refl (H : Hp) : St K H H := ⟨fun _ _ h => h⟩
theorem St.trans {H' H'' : Hp} (e : St K H H') (e' : St K H' H'') : St K H H'' := ⟨fun a xs h => e'.t a xs (e.t a xs h)⟩
theorem tt_same {H' : Hp} (e : Same H H') : St K H H' := ⟨fun _ _ h => st_same h e⟩
theorem tt_but {H' : Hp} {o : HO} (hi : H a = some o) (h1 : ∀ xs, o ≠ .tup xs) (h2 : ∀ u xs, o ≠ .frz u (.tup xs)) (e : But a H H') : St K H H' := by
  refine ⟨fun b xs h => ?_⟩
  rcases h with (h | ⟨u, h⟩) | h
  · exact .inl (.inl (e b _ (fun z => by subst z; exact h1 xs (Option.some.inj (hi.symm.trans h))) h))
  · exact .inl (.inr ⟨u, e b _ (fun z => by subst z; exact h2 u xs (Option.some.inj (hi.symm.trans h))) h⟩)
  · exact .inr h
theorem tt_butL {H' : Hp} {ys : List V} (hi : H a = some (.lst ys)) (e : But a H H') : St K H H' := tt_but hi (fun _ z => by cases z) (fun _ _ z => by cases z) e
theorem tt_butO {H' : Hp} {C dx : Addr} {fs : List (Str × V)} (hi : H a = some (.ins C dx fs)) (e : But a H H') : St K H H' := tt_but hi (fun _ z => by cases z) (fun _ _ z => by cases z) e
theorem tt_mutL {o : HO} {ys : List V} (hi : H a = some (.lst ys)) : St K H (upd H a o) := tt_butL hi (but_mut (But.refl _ _))
mutual
/-- none, ints, truth values, texts, and tuples of such -/
def tupD : PyData → Bool
  | .none | .bool _ | .int _ => true
  | .str x => PyData.canLay0 (.str x)
  | .tuple xs => tupDs xs
  | .list _ | .dict _ => false
def tupDs : List PyData → Bool
  | [] => true
  | x :: xs => tupD x && tupDs xs
end
mutual
theorem tupD_lay : ∀ (d : PyData), tupD d = true → d.canLay0 = true
  | .none, _ => rfl
  | .bool _, _ => rfl
  | .int _, _ => rfl
  | .str x, h => h
  | .tuple xs, h => tupDs_lay xs h
  | .list _, h => by cases h
  | .dict _, h => by cases h
theorem tupDs_lay : ∀ (ds : List PyData), tupDs ds = true → PyData.canLayAll0 ds = true
  | [], _ => rfl
  | x :: xs, h => by
    have h2 : (tupD x && tupDs xs) = true := h
    rw [Bool.and_eq_true] at h2
    show (x.canLay0 && PyData.canLayAll0 xs) = true
    rw [tupD_lay x h2.1, tupDs_lay xs h2.2]
    rfl
end
mutual
theorem dp_st {H' : Hp} (e : St K H H') : ∀ (d : PyData) (v : V), tupD d = true → Dp K H v d → Dp K H' v d
  | .none, _, _, h => by cases h; exact .non
  | .bool b, _, _, h => by cases h; exact .bl b
  | .int i, _, _, h => by cases h; exact .int i
  | .str x, _, _, h => by cases h; exact .str x
  | .list ds, _, c, _ => by cases c
  | .tuple ds, _, c, h => by
    cases h with
    | tup hs ha => exact .tup (e.t _ _ hs) (dps_st e ds _ c ha)
  | .dict _, _, _, h => by cases h
theorem dps_st {H' : Hp} (e : St K H H') : ∀ (ds : List PyData) (vs : List V), tupDs ds = true → DpAll K H vs ds → DpAll K H' vs ds
  | [], _, _, h => by cases h; exact .nil
  | d :: ds, _, c, h => by
    have h2 : (tupD d && tupDs ds) = true := c
    rw [Bool.and_eq_true] at h2
    cases h with
    | cons h3 h4 => exact .cons (dp_st e d _ h2.1 h3) (dps_st e ds _ h2.2 h4)
end
/-- packable data at v, not deep -/
def Pk (K : PySem.W.Frag) (H : Hp) (n : Nat) (v : V) (d : PyData) : Prop := Dp K H v d ∧ tupD d = true ∧ d.depth ≤ n
theorem Pk.st {H' : Hp} {n : Nat} {v : V} {d : PyData} (h : Pk K H n v d) (e : St K H H') : Pk K H' n v d := ⟨dp_st e d v h.2.1 h.1, h.2⟩
theorem Pk.sk {H' : Hp} {n : Nat} {v : V} {d : PyData} (h : Pk K H n v d) (e : Sk K H H') : Pk K H' n v d := h.st e.st
theorem Pk.same {H' : Hp} {n : Nat} {v : V} {d : PyData} (h : Pk K H n v d) (e : Same H H') : Pk K H' n v d := h.st (tt_same e)
theorem Pk.mono {n m : Nat} {v : V} {d : PyData} (h : Pk K H n v d) (l : n ≤ m) : Pk K H m v d := ⟨h.1, h.2.1, Nat.le_trans h.2.2 l⟩
theorem Pk.lay {n : Nat} {v : V} {d : PyData} (h : Pk K H n v d) : d.canLay0 = true := tupD_lay d h.2.1
theorem pk_non {n : Nat} : Pk K H n .non .none := ⟨.non, rfl, Nat.zero_le _⟩
theorem pk_int {n : Nat} {i : Int} : Pk K H n (.int i) (.int i) := ⟨.int i, rfl, Nat.zero_le _⟩
theorem pk_str {n : Nat} {x : Str} (h : PyData.canLay0 (.str x) = true := by decide +kernel) : Pk K H n (.str x) (.str x) := ⟨.str x, h, Nat.zero_le _⟩
/-- packable data, one behind another -/
def PkAll (K : PySem.W.Frag) (H : Hp) (n : Nat) (vs : List V) (ds : List PyData) : Prop := DpAll K H vs ds ∧ tupDs ds = true ∧ PyData.depthAll ds ≤ n
theorem PkAll.st {H' : Hp} {n : Nat} {vs : List V} {ds : List PyData} (h : PkAll K H n vs ds) (e : St K H H') : PkAll K H' n vs ds := ⟨dps_st e ds vs h.2.1 h.1, h.2⟩
theorem PkAll.same {H' : Hp} {n : Nat} {vs : List V} {ds : List PyData} (h : PkAll K H n vs ds) (e : Same H H') : PkAll K H' n vs ds := h.st (tt_same e)
theorem PkAll.mono {n m : Nat} {vs : List V} {ds : List PyData} (h : PkAll K H n vs ds) (l : n ≤ m) : PkAll K H m vs ds := ⟨h.1, h.2.1, Nat.le_trans h.2.2 l⟩
theorem PkAll.lay {n : Nat} {vs : List V} {ds : List PyData} (h : PkAll K H n vs ds) : PyData.canLayAll0 ds = true := tupDs_lay ds h.2.1
theorem pk_nil {n : Nat} : PkAll K H n [] [] := ⟨.nil, rfl, Nat.zero_le _⟩
theorem pk_cons {n : Nat} {v : V} {vs : List V} {d : PyData} {ds : List PyData} (h : Pk K H n v d) (h' : PkAll K H n vs ds) : PkAll K H n (v :: vs) (d :: ds) :=
  ⟨.cons h.1 h'.1, by show (tupD d && tupDs ds) = true; rw [h.2.1, h'.2.1]; rfl, by show max _ _ ≤ n; have := h.2.2; have := h'.2.2; omega⟩
theorem PkAll.uncons {n : Nat} {v : V} {vs : List V} {ds : List PyData} (h : PkAll K H n (v :: vs) ds) : ∃ d es, ds = d :: es ∧ Pk K H n v d ∧ PkAll K H n vs es := by
  obtain ⟨h1, h2, h3⟩ := h
  cases h1 with
  | cons a b =>
    rename_i d es
    have h4 : (tupD d && tupDs es) = true := h2
    rw [Bool.and_eq_true] at h4
    have h5 : max d.depth (PyData.depthAll es) ≤ n := h3
    exact ⟨d, es, rfl, ⟨a, h4.1, by omega⟩, ⟨b, h4.2, by omega⟩⟩
theorem pk_snoc {n : Nat} : ∀ {vs : List V} {ds : List PyData} {v : V} {d : PyData}, PkAll K H n vs ds → Pk K H n v d → PkAll K H n (vs ++ [v]) (ds ++ [d])
  | [], ds, v, d, h, h' => by
    obtain ⟨h1, _, _⟩ := h
    cases h1
    exact pk_cons h' pk_nil
  | w :: vs, ds, v, d, h, h' => by
    obtain ⟨e, es, rfl, h1, h2⟩ := h.uncons
    exact pk_cons h1 (pk_snoc h2 h')
theorem PkAll.len {n : Nat} : ∀ {vs : List V} {ds : List PyData}, PkAll K H n vs ds → vs.length = ds.length
  | [], ds, h => by
    obtain ⟨h1, _, _⟩ := h
    cases h1
    rfl
  | w :: vs, ds, h => by
    obtain ⟨e, es, rfl, h1, h2⟩ := h.uncons
    show vs.length + 1 = es.length + 1
    rw [h2.len]
theorem PkAll.take {n : Nat} : ∀ {vs : List V} {ds : List PyData} (k : Nat), PkAll K H n vs ds → PkAll K H n (vs.take k) (ds.take k)
  | vs, ds, 0, h => pk_nil
  | [], ds, k + 1, h => by
    obtain ⟨h1, _, _⟩ := h
    cases h1
    exact pk_nil
  | w :: vs, ds, k + 1, h => by
    obtain ⟨e, es, rfl, h1, h2⟩ := h.uncons
    exact pk_cons h1 (h2.take k)
theorem PkAll.at {n : Nat} : ∀ {vs : List V} {ds : List PyData} {i : Nat} {v : V}, PkAll K H n vs ds → vs[i]? = some v → ∃ d, ds[i]? = some d ∧ Pk K H n v d
  | [], ds, i, v, h, e => by simp at e
  | w :: vs, ds, 0, v, h, e => by
    obtain ⟨d, es, rfl, h1, h2⟩ := h.uncons
    cases (show w = v from Option.some.inj e)
    exact ⟨d, rfl, h1⟩
  | w :: vs, ds, i + 1, v, h, e => by
    obtain ⟨d, es, rfl, h1, h2⟩ := h.uncons
    exact h2.at e
theorem pk_tup {n : Nat} {a : Addr} {vs : List V} {ds : List PyData} (h : SqT K H a vs) (h1 : PkAll K H n vs ds) : Pk K H (n + 1) (.ref a) (.tuple ds) :=
  ⟨.tup h h1.1, h1.2.1, Nat.add_le_add_right h1.2.2 1⟩
theorem pk_tup1 {n : Nat} {a : Addr} {v : V} {d : PyData} (h : SqT K H a [v]) (h1 : Pk K H n v d) : Pk K H (n + 1) (.ref a) (.tuple [d]) := pk_tup h (pk_cons h1 pk_nil)
theorem pk_tup2 {n : Nat} {a : Addr} {v w : V} {d e : PyData} (h : SqT K H a [v, w]) (h1 : Pk K H n v d) (h2 : Pk K H n w e) : Pk K H (n + 1) (.ref a) (.tuple [d, e]) := pk_tup h (pk_cons h1 (pk_cons h2 pk_nil))
theorem pk_tup3 {n : Nat} {a : Addr} {u v w : V} {c d e : PyData} (h : SqT K H a [u, v, w]) (h0 : Pk K H n u c) (h1 : Pk K H n v d) (h2 : Pk K H n w e) : Pk K H (n + 1) (.ref a) (.tuple [c, d, e]) := pk_tup h (pk_cons h0 (pk_cons h1 (pk_cons h2 pk_nil)))
/-- equal data, one way or the other -/
theorem x_nePk {n m : Nat} {x y : V} {d : PyData} (h : Pk K H n x d) (h' : Pk K H m y d) (q : Q (.bl false) H) (l : n ≤ 64 := by decide) : rNeD K x y H Q := x_neSame h.1 h'.1 h.lay (Nat.le_trans h.2.2 l) q
theorem x_eqPk {n m : Nat} {x y : V} {d : PyData} (h : Pk K H n x d) (h' : Pk K H m y d) (q : Q (.bl true) H) (l : n ≤ 64 := by decide) : rEqD K x y H Q := x_eqSame h.1 h'.1 h.lay (Nat.le_trans h.2.2 l) q
theorem lay_list {ds : List PyData} (h : PyData.canLayAll0 ds = true) : PyData.canLay0 (.list ds) = true := h
theorem x_nePkL {n m : Nat} {p q' : Addr} {xs ys : List V} {ds : List PyData} (hp : SqL K H p xs) (hq : SqL K H q' ys) (h : PkAll K H n xs ds) (h' : PkAll K H m ys ds) (q : Q (.bl false) H) (l : n ≤ 63 := by decide) : rNeD K (.ref p) (.ref q') H Q :=
  x_neSame (.lst hp h.1) (.lst hq h'.1) (lay_list h.lay) (Nat.add_le_add_right (Nat.le_trans h.2.2 l) 1) q
theorem x_eqPkL {n m : Nat} {p q' : Addr} {xs ys : List V} {ds : List PyData} (hp : SqL K H p xs) (hq : SqL K H q' ys) (h : PkAll K H n xs ds) (h' : PkAll K H m ys ds) (q : Q (.bl true) H) (l : n ≤ 63 := by decide) : rEqD K (.ref p) (.ref q') H Q :=
  x_eqSame (.lst hp h.1) (.lst hq h'.1) (lay_list h.lay) (Nat.add_le_add_right (Nat.le_trans h.2.2 l) 1) q
theorem u65 {k : Nat} {A : Around} (r : Room k A) : A.units + 65 < cLine := by
  have := r.un
  omega
theorem k_inD (hu : X.A.units + 65 < cLine) (e : X.K = K) : OpR X (compareOp .In) (rInD K) := e ▸ op_inD hu
theorem k_ninD (hu : X.A.units + 65 < cLine) (e : X.K = K) : OpR X (compareOp .NotIn) (rNotInD K) := e ▸ op_notInD hu
/-- whether d is among ds -/
def inD (d : PyData) (ds : List PyData) : Bool := ds.any fun z => PyData.eqv z d
theorem x_inPk {n m : Nat} {x : V} {d : PyData} {xs : List V} {ds : List PyData} (h : Pk K H n x d) (hp : SqL K H a xs) (h' : PkAll K H m xs ds) (k : Q (.bl (inD d ds)) H) (l : n ≤ 64 := by decide) (l' : m ≤ 63 := by decide) : rInD K x (.ref a) H Q :=
  ⟨d, ds, h.1, .lst hp h'.1, shaped_of h.lay (Nat.le_trans h.2.2 l), shaped_of (lay_list h'.lay) (Nat.add_le_add_right (Nat.le_trans h'.2.2 l') 1), k⟩
theorem x_ninPk {n m : Nat} {x : V} {d : PyData} {xs : List V} {ds : List PyData} (h : Pk K H n x d) (hp : SqL K H a xs) (h' : PkAll K H m xs ds) (k : Q (.bl (!inD d ds)) H) (l : n ≤ 64 := by decide) (l' : m ≤ 63 := by decide) : rNotInD K x (.ref a) H Q :=
  ⟨d, ds, h.1, .lst hp h'.1, shaped_of h.lay (Nat.le_trans h.2.2 l), shaped_of (lay_list h'.lay) (Nat.add_le_add_right (Nat.le_trans h'.2.2 l') 1), k⟩
theorem x_inD {x : V} {d : PyData} {ds : List PyData} (h : Dp K H x d) (h' : Dp K H (.ref a) (.list ds)) (c : d.canLay0 = true) (n : d.depth ≤ 64) (c' : PyData.canLay0 (.list ds) = true) (n' : PyData.depth (.list ds) ≤ 64) (k : Q (.bl (inD d ds)) H) : rInD K x (.ref a) H Q :=
  ⟨d, ds, h, h', shaped_of c n, shaped_of c' n', k⟩
theorem x_ninD {x : V} {d : PyData} {ds : List PyData} (h : Dp K H x d) (h' : Dp K H (.ref a) (.list ds)) (c : d.canLay0 = true) (n : d.depth ≤ 64) (c' : PyData.canLay0 (.list ds) = true) (n' : PyData.depth (.list ds) ≤ 64) (k : Q (.bl (!inD d ds)) H) : rNotInD K x (.ref a) H Q :=
  ⟨d, ds, h, h', shaped_of c n, shaped_of c' n', k⟩
/-- a sign some times over -/
def repS (x : Str) (n : Int) : Str := if n < 1 then Str.empty else if (n == 1 || x.length == 0) = true then x else ⟨(List.replicate n.toNat x.cps).foldl (· ++ ·) #[]⟩
def nRepS : R2 := fun x y H Q => ∃ (z : Str) (n : Int), x = .str z ∧ y = .int n ∧ 0 ≤ n ∧ n ≤ 1000 ∧ z.length ≤ 100 ∧ Q (.str (repS z n)) H
theorem op_nRepS : OpR X (binaryOp .Mult) nRepS := by
  intro pins s σ H x y v u Q I rx ry h
  obtain ⟨z, n, rfl, rfl, h0, h1, h2, q⟩ := h
  obtain ⟨t, rfl⟩ := rx
  obtain ⟨t', rfl⟩ := ry
  have hlen : z.length * n.toNat ≤ 100000 := by
    have h3 : n.toNat ≤ 1000 := by omega
    calc z.length * n.toNat ≤ 100 * n.toNat := Nat.mul_le_mul_right _ h2
      _ ≤ 100000 := by omega
  refine PySem.P.mul_str ?_ ?_ ?_ ?_
  · rw [decide_eq_false (by omega), decide_eq_false (by omega)]
    rfl
  · intro h3 _ h4
    have h5 : (1000 : Int) ≤ (2 ^ 63 - 1) / n := by
      rw [Int.le_ediv_iff_mul_le (by omega)]
      omega
    omega
  · intro _ _
    exact decide_eq_false (by unfold sizeLine; omega)
  · unfold repS at q
    by_cases h3 : n < 1
    · rw [if_pos h3] at q ⊢
      exact ⟨by decide, .str Str.empty, H, I.tok _, ⟨_, rfl⟩, q⟩
    · rw [if_neg h3] at q ⊢
      by_cases h4 : (n == 1 || z.length == 0) = true
      · rw [if_pos h4] at q ⊢
        exact ⟨.str z, H, I, ⟨_, rfl⟩, q⟩
      · rw [if_neg h4] at q ⊢
        exact ⟨PySem.fits_reps (decide_eq_false (by unfold sizeLine; omega)), .str _, H, I.tok _, ⟨_, rfl⟩, q⟩
theorem x_nRepS {z : Str} {n : Int} (h : 0 ≤ n ∧ n ≤ 1000) (hz : z.length ≤ 100) (k : Q (.str (repS z n)) H) : nRepS (.str z) (.int n) H Q := ⟨z, n, rfl, rfl, h.1, h.2, hz, k⟩
/-- a range from its end -/
def rRevR (i : Nat) (tu : TS) (D : Ends) (σ : L2.St) : Int → Int → Hp → Prop := fun lo hi H => -(2 ^ 62) ≤ lo ∧ lo < 2 ^ 62 ∧ -(2 ^ 62) ≤ hi ∧ hi < 2 ^ 62 ∧ ∃ W : Nat → Nat → L2.St → Hp → Prop, (∃ m, W 0 m σ H) ∧ ∀ j m σ H, W j m σ H →
  ((Itc (lo + (((hi - lo).toNat : Nat) : Int) - 1) (-1) (hi - lo).toNat).stop j H ∧ D.nx σ H) ∨ ((Itc (lo + (((hi - lo).toNat : Nat) : Int) - 1) (-1) (hi - lo).toNat).go j H ∧ ∃ N : L2.St → Hp → Prop, (∀ σ' H', N σ' H' → ∃ m', m' < m ∧ W (j + 1) m' σ' H') ∧
    ∀ x H', (Itc (lo + (((hi - lo).toNat : Nat) : Int) - 1) (-1) (hi - lo).toNat).yld j H x H' → gName i x σ H' fun σ2 H2 => tu { D with nx := N, ct := N, bk := D.nx } σ2 H2)
theorem x_forRev1 {i : Nat} {tu : TS} {D : Ends} {σ : L2.St} {tr : L2.St → Hp → (Int → Int → Hp → Prop) → Prop} (q : tr σ H (rRevR i tu D σ)) : tFor (iRevR tr) (gName i) tu D σ H := q
theorem x_forRev {i : Nat} {tu : TS} {D : Ends} {σ : L2.St} {m : Int} (Pv : Nat → L2.St → Hp → Prop) (hm : 0 ≤ m ∧ m ≤ 100000) (p0 : Pv 0 σ H)
    (ps : ∀ (j : Nat) σ' H', (j : Int) < m → Pv j σ' H' → tu { D with nx := Pv (j + 1), ct := Pv (j + 1), bk := D.nx } (σ'.set i (some (.int (m - 1 - j)))) H') (pd : ∀ σ' H', Pv m.toNat σ' H' → D.nx σ' H') : rRevR i tu D σ 0 m H := by
  have e : (m - 0).toNat = m.toNat := by omega
  refine ⟨by omega, by omega, by omega, by omega, ?_⟩
  rw [e]
  refine for_rangeC (n := m.toNat) Pv p0 (fun j σ' H' hj p => ?_) pd
  have e0 : (0 : Int) + ((m.toNat : Nat) : Int) - 1 + (j : Nat) * (-1) = m - 1 - j := by omega
  show tu { D with nx := Pv (j + 1), ct := Pv (j + 1), bk := D.nx } (σ'.set i (some (.int ((0 : Int) + ((m.toNat : Nat) : Int) - 1 + (j : Nat) * (-1))))) H'
  rw [e0]
  exact ps j σ' H' (by omega) p
theorem cut_take {xs : List V} {k : Int} {n : Nat} (e : k = (n : Int)) : cutV xs none (some k) = xs.take n := by
  subst e
  unfold cutV
  rw [HT.sIx_nat, HT.sIx_none, List.drop_zero, Nat.sub_zero]
  by_cases h : n ≤ xs.length
  · rw [show min n xs.length = n by omega]
  · rw [show min n xs.length = xs.length by omega, List.take_length, List.take_of_length_le (by omega)]
theorem cut_drop {xs : List V} {k : Int} {n : Nat} (e : k = (n : Int)) : cutV xs (some k) none = xs.drop n := by
  subst e
  unfold cutV
  rw [HT.sIx_nat, HT.sIx_none]
  by_cases h : n ≤ xs.length
  · rw [show min n xs.length = n by omega, List.take_of_length_le (by rw [List.length_drop]; omega)]
  · rw [show min n xs.length = xs.length by omega, List.drop_length, List.drop_of_length_le (by omega)]
    simp
/-- range(lo, hi) -/
def rRange2 (n : Nat) (tu : TS) (D : Ends) (σ : L2.St) : List V → Hp → Prop := fun vs H => ∃ i j : Int, vs = [.int i, .int j] ∧ (-(2 ^ 62) ≤ i ∧ i < 2 ^ 62 ∧ -(2 ^ 62) ≤ j ∧ j < 2 ^ 62) ∧ ∃ W : Nat → Nat → L2.St → Hp → Prop, (∃ m, W 0 m σ H) ∧ ∀ k m σ H, W k m σ H →
  ((Itr i (j - i).toNat).stop k H ∧ D.nx σ H) ∨ ((Itr i (j - i).toNat).go k H ∧ ∃ N : L2.St → Hp → Prop, (∀ σ' H', N σ' H' → ∃ m', m' < m ∧ W (k + 1) m' σ' H') ∧ ∀ x H', (Itr i (j - i).toNat).yld k H x H' → gName n x σ H' fun σ2 H2 => tu { D with nx := N, ct := N, bk := D.nx } σ2 H2)
theorem x_forR2 {n : Nat} {tu : TS} {D : Ends} {σ : L2.St} {tr : TA} (q : tr σ H (rRange2 n tu D σ)) : tFor (iRng2 tr) (gName n) tu D σ H := q
theorem x_range2 {n : Nat} {tu : TS} {D : Ends} {σ : L2.St} {lo hi : Int} (Pv : Nat → L2.St → Hp → Prop) (hm : -1000000 ≤ lo ∧ lo ≤ 1000000 ∧ -1000000 ≤ hi ∧ hi ≤ 1000000) (p0 : Pv 0 σ H)
    (ps : ∀ (k : Nat) σ' H', lo + (k : Int) < hi → Pv k σ' H' → tu { D with nx := Pv (k + 1), ct := Pv (k + 1), bk := D.nx } (σ'.set n (some (.int (lo + (k : Int))))) H') (pd : ∀ σ' H', Pv (hi - lo).toNat σ' H' → D.nx σ' H') : rRange2 n tu D σ [.int lo, .int hi] H :=
  ⟨lo, hi, rfl, ⟨by omega, by omega, by omega, by omega⟩, for_range (lo := lo) (n := (hi - lo).toNat) Pv p0 (fun k σ' H' hk p => ps k σ' H' (by omega) p) pd⟩
theorem pk_ints {n : Nat} : ∀ ns : List Int, PkAll K H n (ns.map V.int) (ns.map PyData.int)
  | [] => pk_nil
  | m :: r => pk_cons pk_int (pk_ints r)
/-! dicts whose keys are texts -/
def rDG (x : V) (Q : VK) : VK := fun y H2 => ∃ (a : Addr) (v : V), x = .ref a ∧ DGet H2 a y (some v) ∧ Q v H2
theorem x_dget {td ty : TE} {σ : L2.St} (q : td σ H fun x H1 => ty σ H1 (rDG x Q)) : tDGet td ty σ H Q := q
theorem x_rDG {kvs : List (Key × V)} {k : Str} {v : V} (h : H a = some (.dK kvs)) (e : valV kvs (Sum.inr k) = some v) (q : Q v H) : rDG (.ref a) Q (.str k) H := ⟨a, v, rfl, by rw [← e]; exact (DGet.k (k := Sum.inr k) h : DGet H a (kV (Sum.inr k)) (valV kvs (Sum.inr k))), q⟩
def rDP (x v : V) (R : Hp → Prop) : VK := fun y H3 => ∃ (a : Addr) (H4 : Hp), x = .ref a ∧ DPut H3 a y v H4 ∧ R H4
theorem x_sdput {td ty tv : TE} {D : Ends} {σ : L2.St} {tz : TS} (q : tv σ H fun v H1 => td σ H1 fun x H2 => ty σ H2 (rDP x v fun H4 => tz D σ H4)) : tSeq (sDPut td ty tv) tz D σ H := q
theorem x_dput {td ty tv : TE} {D : Ends} {σ : L2.St} (q : tv σ H fun v H1 => td σ H1 fun x H2 => ty σ H2 (rDP x v fun H4 => D.nx σ H4)) : sDPut td ty tv D σ H := q
theorem x_rDP {kvs kvs' : List (Key × V)} {k : Str} {v : V} {R : Hp → Prop} (h : H a = some (.dK kvs)) (hl : kvs.length < 1000) (e : putK kvs (Sum.inr k) v = kvs') (q : R (upd H a (.dK kvs'))) : rDP (.ref a) v R (.str k) H :=
  ⟨a, upd H a (.dK (putK kvs (Sum.inr k) v)), rfl, (DPut.k (k := Sum.inr k) h (small1000 (Nat.le_of_lt hl)) : DPut H a (kV (Sum.inr k)) v _), by rw [e]; exact q⟩
theorem x_disp {trs : List (TE × TE)} {σ : L2.St} (q : ∀ p, Fr p H → tPairs trs σ (upd H p (.dK [])) fun ps H2 => H2 p = some (.dK []) ∧ ∃ kvs : List (Key × V), ps = kvs.map (fun kv => (kV kv.1, kv.2)) ∧ kvs.length ≤ 15 ∧ Q (.ref p) (upd H2 p (.dK (mergeK [] kvs)))) : tDisp trs σ H Q := fun p hp => q p ⟨hp⟩
theorem x_pcons {tk tv : TE} {r : List (TE × TE)} {σ : L2.St} {R : List (V × V) → Hp → Prop} (q : tk σ H fun x H1 => tv σ H1 fun y H2 => tPairs r σ H2 fun ps H3 => R ((x, y) :: ps) H3) : tPairs ((tk, tv) :: r) σ H R := q
theorem x_pnil {σ : L2.St} {R : List (V × V) → Hp → Prop} (q : R [] H) : tPairs [] σ H R := q
/-! lists of ints sorted where they stand -/
theorem x_rSortI {ns : List Int} (h : H a = some (.lst (ns.map V.int))) (k : ∀ ns' : List Int, ns'.Perm ns → ns'.Pairwise (· ≤ ·) → Q .non (upd H a (.lst (ns'.map V.int)))) : rSortI (.ref a) [] H Q := ⟨a, ns, rfl, rfl, h, k⟩
theorem srt_eq {xs ys : List Int} (p : xs.Perm ys) (h1 : xs.Pairwise (· ≤ ·)) (h2 : ys.Pairwise (· ≤ ·)) : xs = ys := p.eq_of_pairwise (fun x y _ _ h h' => Int.le_antisymm h h') h1 h2
/-! texts -/
def nInS : R2 := fun x y H Q => ∃ (c : Nat) (z : Str), x = .str ⟨#[c]⟩ ∧ y = .str z ∧ Q (.bl (decide (c ∈ z.cps.toList))) H
def nNotInS : R2 := fun x y H Q => ∃ (c : Nat) (z : Str), x = .str ⟨#[c]⟩ ∧ y = .str z ∧ Q (.bl (!decide (c ∈ z.cps.toList))) H
theorem op_nInS : OpR X (compareOp .In) nInS := op_in_sign
theorem op_nNotInS : OpR X (compareOp .NotIn) nNotInS := op_notIn_sign
theorem x_inS {c : Nat} {z : Str} (q : Q (.bl (decide (c ∈ z.cps.toList))) H) : nInS (.str ⟨#[c]⟩) (.str z) H Q := ⟨c, z, rfl, rfl, q⟩
theorem x_notInS {c : Nat} {z : Str} (q : Q (.bl (!decide (c ∈ z.cps.toList))) H) : nNotInS (.str ⟨#[c]⟩) (.str z) H Q := ⟨c, z, rfl, rfl, q⟩
def nAddS : R2 := fun x y H Q => ∃ i j : Str, x = .str i ∧ y = .str j ∧ i.length + j.length ≤ sizeLine ∧ Q (.str (i ++ j)) H
theorem op_nAddS : OpR X (binaryOp .Add) nAddS := op_add_str
theorem x_nAddS {i j : Str} (h : i.length + j.length ≤ 100000) (q : Q (.str (i ++ j)) H) : nAddS (.str i) (.str j) H Q := ⟨i, j, rfl, rfl, size_ok h, q⟩
def nLenS : List V → Hp → VK → Prop := fun xs H Q => ∃ z : Str, xs = [.str z] ∧ z.length ≤ sizeLine ∧ Q (.int z.length) H
theorem call_nLenS : CallR X (.builtin "len") nLenS := call_len_str
theorem x_nLenS {z : Str} (h : z.length ≤ 100000) (q : Q (.int z.length) H) : nLenS [.str z] H Q := ⟨z, rfl, size_ok h, q⟩
theorem x_slS {z : Str} {lo hi : Option Int} (h : z.length ≤ 100000) (q : Q (.str (cutS z lo hi)) H) : rSlS (.str z) lo hi H Q := ⟨z, rfl, size_ok h, q⟩
def rLcS (g : TG) (tt : TT) (te : TE) (vs : List Nat) (σ : L2.St) (Q : VK) : VK := fun x H1 => ∃ z, x = .str z ∧ RLc (Its z) g tt te vs σ Q H1
theorem x_lcS1 {g : TG} {t : TT} {te tx : TE} {vs : List Nat} {σ : L2.St} (q : tx σ H (rLcS g t te vs σ Q)) : tLc (iStr tx) g t te vs σ H Q := q
theorem x_lcS {g : TG} {t : TT} {te : TE} {vs : List Nat} {σ : L2.St} {z : Str} (Pv : Addr → Nat → Hp → Prop) (h0 : ∀ Dl, Fr Dl H → Pv Dl 0 (upd H Dl (.lst [])))
    (hs : ∀ Dl, Fr Dl H → ∀ i c H', z.cps.toList[i]? = some c → Pv Dl i H' → g (.str ⟨#[c]⟩) (wipe σ vs) H' fun σ2 H2 => wipe σ2 vs = wipe σ vs ∧ t σ2 H2 fun b H3 =>
      if b = true then te σ2 H3 fun y H4 => ∃ acc, H4 Dl = some (.lst acc) ∧ acc.length < sizeLine ∧ Pv Dl (i + 1) (upd H4 Dl (.lst (acc ++ [y]))) else Pv Dl (i + 1) H3)
    (hd : ∀ Dl H', Fr Dl H → Pv Dl z.length H' → Q (.ref Dl) H') : rLcS g t te vs σ Q (.str z) H := ⟨z, rfl, fun Dl hD =>
  lc_it walk_str (Pv Dl) (h0 Dl ⟨hD⟩) (fun _ _ _ _ => trivial) (fun i x H1 H' _ p y => by
    obtain ⟨rfl, c, hc, rfl⟩ := y
    exact hs Dl ⟨hD⟩ i c _ (by rw [← hc]; simp) p) (fun H' p => hd Dl H' ⟨hD⟩ p)⟩
/-! ### texts gone through, keys of a dict -/
def rForS (g : TG) (tu : TS) (D : Ends) (σ : L2.St) : VK := fun x H => ∃ z, x = .str z ∧ ∃ W : Nat → Nat → L2.St → Hp → Prop, (∃ m, W 0 m σ H) ∧ ∀ i m σ H, W i m σ H →
  ((Its z).stop i H ∧ D.nx σ H) ∨ ((Its z).go i H ∧ ∃ N : L2.St → Hp → Prop, (∀ σ' H', N σ' H' → ∃ m', m' < m ∧ W (i + 1) m' σ' H') ∧ ∀ x H', (Its z).yld i H x H' → g x σ H' fun σ2 H2 => tu { D with nx := N, ct := N, bk := D.nx } σ2 H2)
theorem x_forS1 {g : TG} {tu : TS} {D : Ends} {σ : L2.St} {te : TE} (q : te σ H (rForS g tu D σ)) : tFor (iStr te) g tu D σ H := q
theorem x_forS {g : TG} {tu : TS} {D : Ends} {σ : L2.St} {z : Str} (Pv : Nat → L2.St → Hp → Prop) (p0 : Pv 0 σ H)
    (ps : ∀ i c σ' H', z.cps.toList[i]? = some c → Pv i σ' H' → g (.str ⟨#[c]⟩) σ' H' fun σ2 H2 => tu { D with nx := Pv (i + 1), ct := Pv (i + 1), bk := D.nx } σ2 H2) (pd : ∀ σ' H', Pv z.length σ' H' → D.nx σ' H') : rForS g tu D σ (.str z) H :=
  ⟨z, rfl, for_it walk_str Pv p0 (fun _ _ _ _ _ => trivial) (fun i x σ H H' _ p y => by
    obtain ⟨rfl, c, hc, rfl⟩ := y
    exact ps i c _ _ (by rw [← hc]; simp) p) pd⟩
def nOrd : List V → Hp → VK → Prop := fun xs H Q => ∃ x : Str, xs = [.str x] ∧ x.length = 1 ∧ Q (.int (x.cps.getD 0 0 : Nat)) H
theorem k_ord {X : Cx} : CallR X (.builtin "ord") nOrd := call_ord
theorem x_ord {c : Nat} (q : Q (.int (c : Nat)) H) : nOrd [.str ⟨#[c]⟩] H Q := ⟨_, rfl, rfl, q⟩
/-- a list comprehension over a dict's keys -/
theorem x_lcK {g : TG} {t : TT} {te : TE} {vs : List Nat} {σ : L2.St} {a : Nat} {r : Addr} {kvs : List (Key × V)} (ea : σ[a]? = some (some (.ref r))) (hr : H r = some (.dK kvs))
    (q : ∀ od H0, H0 = upd H r (.frz od (.dK kvs)) → ∃ Pv : Addr → Nat → Hp → Prop, (∀ Dl, Fr Dl H0 → Pv Dl 0 (upd H0 Dl (.lst []))) ∧ (∀ Dl i H', Fr Dl H0 → Pv Dl i H' → H' r = some (.frz od (.dK kvs))) ∧
      (∀ Dl, Fr Dl H0 → ∀ i k v H', kvs[i]? = some (k, v) → Pv Dl i H' → g (kV k) (wipe σ vs) H' fun σ2 H2 => wipe σ2 vs = wipe σ vs ∧ t σ2 H2 fun b H3 =>
        if b = true then te σ2 H3 fun y H4 => ∃ acc, H4 Dl = some (.lst acc) ∧ acc.length < sizeLine ∧ Pv Dl (i + 1) (upd H4 Dl (.lst (acc ++ [y]))) else Pv Dl (i + 1) H3) ∧
      ∀ Dl H', Fr Dl H0 → Pv Dl kvs.length H' → Q (.ref Dl) (upd H' r (.dK kvs))) : tLockE (tLc (iKeys (tVar a)) g t te vs) σ H Q := by
  refine ⟨r, _, hr, trivial, fun od => ?_⟩
  obtain ⟨Pv, h0, h1, h2, h3⟩ := q od _ rfl
  refine ⟨.ref r, ea, r, od, rfl, .inl ⟨kvs, upd_same, fun Dl hD => ?_⟩⟩
  refine lc_it (walk_keys (o := od)) (Pv Dl) (h0 Dl ⟨hD⟩) (fun i H' _ p => h1 Dl i H' ⟨hD⟩ p) (fun i x H1 H' _ p y => ?_) fun H' p => ⟨h1 Dl _ H' ⟨hD⟩ p, h3 Dl H' ⟨hD⟩ p⟩
  obtain ⟨rfl, k, v, e, rfl⟩ := y
  exact h2 Dl ⟨hD⟩ i k v _ e p
/-- all signs of a text are so -/
def AllC (p : Nat → Bool) (s : Str) : Bool := s.cps.toList.all p
theorem toList_add (i j : Str) : (i ++ j).cps.toList = i.cps.toList ++ j.cps.toList := by
  show (i.cps ++ j.cps).toList = _
  simp
theorem len_add (i j : Str) : (i ++ j).length = i.length + j.length := by
  show (i.cps ++ j.cps).size = i.cps.size + j.cps.size
  simp
theorem allC_add {p : Nat → Bool} {i j : Str} (h : AllC p i = true) (h' : AllC p j = true) : AllC p (i ++ j) = true := by
  unfold AllC at *
  rw [toList_add, List.all_append, h, h']
  rfl
theorem allC_add_inv {p : Nat → Bool} {i j : Str} (h : AllC p (i ++ j) = true) : AllC p i = true ∧ AllC p j = true := by
  unfold AllC at *
  rw [toList_add, List.all_append, Bool.and_eq_true] at h
  exact h
theorem allC_cut {p : Nat → Bool} {z : Str} {lo hi : Option Int} (h : AllC p z = true) : AllC p (cutS z lo hi) = true := by
  unfold AllC at *
  rw [List.all_eq_true] at h ⊢
  intro c hc
  refine h c ?_
  unfold cutS at hc
  simp only at hc
  exact List.mem_of_mem_drop (List.mem_of_mem_take hc)
theorem len_cut (z : Str) (lo hi : Option Int) : (cutS z lo hi).length ≤ z.length := by
  show (cutS z lo hi).cps.size ≤ z.cps.size
  unfold cutS
  simp only [List.size_toArray, List.length_take, List.length_drop, Array.length_toList]
  have : z.length = z.cps.size := rfl
  omega
theorem allC_at {p : Nat → Bool} {z : Str} {i : Nat} {c : Nat} (h : AllC p z = true) (e : z.cps.toList[i]? = some c) : AllC p ⟨#[c]⟩ = true := by
  unfold AllC at *
  rw [List.all_eq_true] at h
  have := h c (List.mem_of_getElem? e)
  simp [this]
theorem allC_mono {p q : Nat → Bool} {s : Str} (h : AllC p s = true) (f : ∀ c, p c = true → q c = true) : AllC q s = true := by
  unfold AllC at *
  rw [List.all_eq_true] at h ⊢
  exact fun c hc => f c (h c hc)
def okC : Nat → Bool := fun c => decide (c < 0x110000)
theorem lay_str {s : Str} (h : AllC okC s = true) : PyData.canLay0 (.str s) = true := by
  have h2 : s.cps.all (fun c => decide (c < 0x110000)) = true := by
    rw [← Array.all_toList]
    exact h
  simpa only [PyData.canLay0, PyData.strOk] using h2
/-! tuples some times over -/
theorem tup_times1 (l : Addr) (items : Array Value) (n : Nat) (dd : Option Addr) (sl : Array (Option Value)) (u : Tok) :
    Meets (Builtin.«tuple.__mul__» ⟨[.ref l, .int 1 u], []⟩) (fun _ R s => s.heap.get? l = some { cls := .type "tuple", dict := dd, data := .seq items n, slots := sl } ∧ R (.ok (.ret (.ref l))) s) :=
  .of_wp fun prog w A R s h => by
    obtain ⟨hp, g, d, tk, os⟩ := s
    obtain ⟨hl, h⟩ := h
    have f1 := AutoSeq1.idx_int
    wp_walk using wpAny_loadPart' hl
    exact ⟨_, rfl, h⟩
def nRepT (K : PySem.W.Frag) : R2 := fun x y H Q => ∃ (l : Addr) (k : Int) (xs : List V), x = .ref l ∧ y = .int k ∧ SqT K H l xs ∧ xs ≠ [] ∧ xs.length ≤ 1000 ∧ ((k = 1 ∧ Q (.ref l) H) ∨ (2 ≤ k ∧ k ≤ 1000 ∧ ∀ p, H p = none → Q (.ref p) (upd H p (.tup (List.replicate k.toNat xs).flatten))))
theorem op_nRepT : OpR X (binaryOp .Mult) (nRepT X.K) := by
  intro pins s σ H x y v u Q I rx ry h
  obtain ⟨l, k, xs, rfl, rfl, hT, hne, hz, q⟩ := h
  rcases q with ⟨rfl, q⟩ | ⟨h1, h2, q⟩
  · cases rx
    obtain ⟨t, rfl⟩ := ry
    obtain ⟨its, r, ⟨⟨cls, dd, data, sl⟩, ho, hc, n, hd⟩, hs⟩ := I.tuple hT
    simp only at hc hd
    subst hc hd
    exact wpAny_binaryOp_repeat_ref (T := "tuple") (U := "int") (by decide) ⟨_, ho, rfl⟩ (fun s' => typeIs_int s' 1 t) noFill_tuple_mul PySem.F.fills_int_mul PySem.F.slot_int_rmul repeat_tuple PySem.F.slot_int_index.lookup
      (call_meets PySem.F.slot_int_rmul (typeIs_int s 1 t) PySem.F.entry_int_rmul (PySem.F.args_int_rmul_2 _ _) (int_rmul_tuple 1 t l its.toArray n dd sl)
        ⟨ho, rfl, ⟨_, ho, rfl⟩, call_meets PySem.F.slot_tuple_mul ⟨_, ho, rfl⟩ PySem.F.entry_tuple_mul (PySem.F.args_tuple_mul_2 _ _) (tup_times1 l its.toArray n dd sl t) ⟨ho, ⟨.ref l, H, I, rfl, q⟩⟩⟩)
  · exact op_repT pins s σ H _ _ v u Q I rx ry ⟨l, k, xs, rfl, rfl, hT, hne, h1, h2, hz, q⟩
theorem k_repT (e : X.K = K) : OpR X (binaryOp .Mult) (nRepT K) := e ▸ op_nRepT
/-! more of dicts -/
def rGet1 (R : VK) (a : Addr) : VK := fun y H2 => ∃ o, DGet H2 a y o ∧ R (o.getD .non) H2
def rGetD (x : V) (ty : TE) (σ : L2.St) (Q : VK) : Hp → Prop := fun H1 => ∃ a, x = .ref a ∧ IsD H1 a ∧ ty σ H1 (rGet1 Q a)
theorem x_dget1 {td ty : TE} {σ : L2.St} (q : td σ H fun x H1 => rGetD x ty σ Q H1) : tDGet1 td ty σ H Q := q
theorem x_rGetD {ty : TE} {σ : L2.St} {kvs : List (Key × V)} (h : H a = some (.dK kvs)) (q : ty σ H (rGet1 Q a)) : rGetD (.ref a) ty σ Q H := ⟨a, rfl, .inl ⟨kvs, .inl h⟩, q⟩
theorem x_rGet1 {kvs : List (Key × V)} {k : Str} (h : H a = some (.dK kvs)) (q : Q ((valV kvs (Sum.inr k)).getD .non) H) : rGet1 Q a (.str k) H := ⟨_, (DGet.k (k := Sum.inr k) h : DGet H a (kV (Sum.inr k)) (valV kvs (Sum.inr k))), q⟩
def rGet2 (R : VK) (a : Addr) (y z : V) : Hp → Prop := fun H3 => ∃ o, DGet H3 a y o ∧ R (o.getD z) H3
def rGetE (x : V) (ty tx : TE) (σ : L2.St) (Q : VK) : Hp → Prop := fun H1 => ∃ a, x = .ref a ∧ IsD H1 a ∧ ty σ H1 fun y H2 => tx σ H2 fun z H3 => rGet2 Q a y z H3
theorem x_dget2 {td ty tx : TE} {σ : L2.St} (q : td σ H fun x H1 => rGetE x ty tx σ Q H1) : tDGet2 td ty tx σ H Q := q
theorem x_rGetE {ty tx : TE} {σ : L2.St} {kvs : List (Key × V)} (h : H a = some (.dK kvs)) (q : ty σ H fun y H2 => tx σ H2 fun z H3 => rGet2 Q a y z H3) : rGetE (.ref a) ty tx σ Q H := ⟨a, rfl, .inl ⟨kvs, .inl h⟩, q⟩
theorem x_rGet2 {kvs : List (Key × V)} {k : Str} {z : V} (h : H a = some (.dK kvs)) (q : Q ((valV kvs (Sum.inr k)).getD z) H) : rGet2 Q a (.str k) z H := ⟨_, (DGet.k (k := Sum.inr k) h : DGet H a (kV (Sum.inr k)) (valV kvs (Sum.inr k))), q⟩
def rPop1 (R : VK) (a : Addr) : VK := fun y H2 => ∃ (kvs : List (Key × V)) (k : Key) (v : V), H2 a = some (.dK kvs) ∧ y = kV k ∧ valV kvs k = some v ∧ R v (upd H2 a (.dK (dropK kvs k)))
def rPopD (x : V) (ty : TE) (σ : L2.St) (Q : VK) : Hp → Prop := fun H1 => ∃ a, x = .ref a ∧ IsD H1 a ∧ ty σ H1 (rPop1 Q a)
theorem x_dpop1 {td ty : TE} {σ : L2.St} (q : td σ H fun x H1 => rPopD x ty σ Q H1) : tDPop1 td ty σ H Q := q
theorem x_rPopD {ty : TE} {σ : L2.St} {kvs : List (Key × V)} (h : H a = some (.dK kvs)) (q : ty σ H (rPop1 Q a)) : rPopD (.ref a) ty σ Q H := ⟨a, rfl, .inl ⟨kvs, .inl h⟩, q⟩
theorem x_rPop1 {kvs : List (Key × V)} {k : Str} {v : V} (h : H a = some (.dK kvs)) (e : valV kvs (Sum.inr k) = some v) (q : Q v (upd H a (.dK (dropK kvs (Sum.inr k))))) : rPop1 Q a (.str k) H := ⟨kvs, Sum.inr k, v, h, rfl, e, q⟩
def rPop2 (R : VK) (a : Addr) (y z : V) : Hp → Prop := fun H3 => ∃ (kvs : List (Key × V)) (k : Key), H3 a = some (.dK kvs) ∧ y = kV k ∧ (∀ v, valV kvs k = some v → R v (upd H3 a (.dK (dropK kvs k)))) ∧ (valV kvs k = none → R z H3)
def rPopE (x : V) (ty tx : TE) (σ : L2.St) (Q : VK) : Hp → Prop := fun H1 => ∃ a, x = .ref a ∧ IsD H1 a ∧ ty σ H1 fun y H2 => tx σ H2 fun z H3 => rPop2 Q a y z H3
theorem x_dpop2 {td ty tx : TE} {σ : L2.St} (q : td σ H fun x H1 => rPopE x ty tx σ Q H1) : tDPop2 td ty tx σ H Q := q
theorem x_rPopE {ty tx : TE} {σ : L2.St} {kvs : List (Key × V)} (h : H a = some (.dK kvs)) (q : ty σ H fun y H2 => tx σ H2 fun z H3 => rPop2 Q a y z H3) : rPopE (.ref a) ty tx σ Q H := ⟨a, rfl, .inl ⟨kvs, .inl h⟩, q⟩
theorem x_rPop2 {kvs : List (Key × V)} {k : Str} {z : V} (h : H a = some (.dK kvs)) (q1 : ∀ v, valV kvs (Sum.inr k) = some v → Q v (upd H a (.dK (dropK kvs (Sum.inr k))))) (q2 : valV kvs (Sum.inr k) = none → Q z H) : rPop2 Q a (.str k) z H := ⟨kvs, Sum.inr k, h, rfl, q1, q2⟩
def rDInK (y : V) (Q : VK) : VK := fun x H2 => ∃ a o, x = .ref a ∧ DGet H2 a y o ∧ Q (.bl o.isSome) H2
theorem x_din {ty td : TE} {σ : L2.St} (q : ty σ H fun y H1 => td σ H1 (rDInK y Q)) : tDIn ty td σ H Q := q
theorem x_rDInK {kvs : List (Key × V)} {k : Str} (h : H a = some (.dK kvs)) (q : Q (.bl (valV kvs (Sum.inr k)).isSome) H) : rDInK (.str k) Q (.ref a) H := ⟨a, _, rfl, (DGet.k (k := Sum.inr k) h : DGet H a (kV (Sum.inr k)) (valV kvs (Sum.inr k))), q⟩
theorem x_dnew {σ : L2.St} (k : ∀ p H2, Fr p H → Same H H2 → H2 p = some (.dK []) → Q (.ref p) H2) : tDNewK σ H Q := fun p hp => k p _ ⟨hp⟩ (same_new hp) upd_same
theorem x_notBl {b c : Bool} (q : Q (.bl (!decide (b = c))) H) : rNotB (.bl b) (.bl c) H Q := ⟨b, c, rfl, rfl, q⟩
theorem x_isBl {b c : Bool} (q : Q (.bl (decide (b = c))) H) : rIsB (.bl b) (.bl c) H Q := ⟨b, c, rfl, rfl, q⟩
theorem cut_whole {xs : List V} {lo hi : Option Int} (h : HT.sIx xs.length 0 lo = 0 ∧ HT.sIx xs.length xs.length hi = xs.length) : cutV xs lo hi = xs := by
  unfold cutV
  rw [h.1, h.2]
  simp
theorem x_slA {xs : List V} {lo hi : Option Int} (h : H a = some (.tup xs)) (k : ∀ p H', Same H H' → H' p = some (.tup (cutV xs lo hi)) → Q (.ref p) H') : rSlA K (.ref a) lo hi H Q :=
  ⟨a, xs, rfl, st_of h, fun e => k a H (Same.refl _) (by rw [cut_whole e]; exact h), fun _ p hp => k p _ (same_new hp) upd_same⟩
theorem x_catB {xs ys : List V} (h : H a = some (.tup xs)) (h' : H b = some (.tup ys)) (hz : xs.length + ys.length ≤ 100000) (k : ∀ p H', Same H H' → H' p = some (.tup (xs ++ ys)) → Q (.ref p) H') : rCatA K (.ref a) (.ref b) H Q :=
  ⟨a, b, xs, ys, rfl, rfl, st_of h, st_of h', size_ok hz, fun e => k b H (Same.refl _) (by rw [e]; exact h'), fun _ e => k a H (Same.refl _) (by rw [e, List.append_nil]; exact h), fun _ _ p hp => k p _ (same_new hp) upd_same⟩
theorem x_repB {xs : List V} {n : Int} (h : H a = some (.tup xs)) (hne : xs ≠ []) (hz : xs.length ≤ 1000) (hn : 1 ≤ n ∧ n ≤ 1000) (k : ∀ p H', Same H H' → H' p = some (.tup (List.replicate n.toNat xs).flatten) → Q (.ref p) H') : nRepT K (.ref a) (.int n) H Q := by
  refine ⟨a, n, xs, rfl, rfl, st_of h, hne, hz, ?_⟩
  by_cases e : n = 1
  · subst e
    refine .inl ⟨rfl, k a H (Same.refl _) ?_⟩
    rw [h]
    simp
  · exact .inr ⟨by omega, hn.2, fun p hp => k p _ (same_new hp) upd_same⟩
theorem repS_len {z : Str} {n : Int} (h : 2 ≤ n) (hz : 1 ≤ z.length) : (repS z n).length = n.toNat * z.length := by
  unfold repS
  rw [if_neg (by omega), if_neg]
  · show ((List.replicate n.toNat z.cps).foldl (· ++ ·) #[]).size = _
    rw [PySem.size_reps]
    show 0 + n.toNat * z.cps.size = n.toNat * z.length
    rw [Nat.zero_add]
    rfl
  · rw [Bool.or_eq_true, beq_iff_eq, beq_iff_eq]
    omega
end
/-- a def with defaults that lets nothing out -/
theorem okD {P : Program} {w : World} {K : PySem.W.Frag} {mg : Str → Option Value} {base : Heap} {x qual : Str} {pr : Arguments} {body : List Stmt} {sc : Scope} {dvs : List V} {kws : List (Str × V)} {f : Addr} {fd : FuncData} {N ps : List Str} {k : Nat} {sp : Sp}
    (F : FunD K x qual pr body sc dvs kws f fd) (S : FnScope N ps sc) (len : ∀ vs H Q E, sp vs H Q E → vs.length = ps.length)
    (hb : ∀ (cdv : Value) (A : Around) (outer : List Env) (s : Shared) (H : Hp) (vs : List V) (Q : VK) (E : XK), Room k (A.deeper (envOfC qual sc s.heap.objs.size f cdv)) → sp vs H Q E →
      ∃ t, PSs (cxOf CX0 P w K mg base N qual sc f cdv A outer s H E).nox body t ∧ t { nx := fun _ H' => Q .non H', rt := Q } (start N vs) H) : FnOk P w K mg base CX0 (k + 1) f fd ps sp :=
  F.ok S len fun cdv A outer s H vs Q E hr h => by
    obtain ⟨t, h1, q⟩ := hb cdv A outer s H vs Q E hr h
    exact ⟨t, h1.nox, q⟩
theorem funD_mk {K : PySem.W.Frag} {x qual : Str} {st : Stmt} {f dT : Addr} {oc : Value} {od an : Option Addr} {osl : Array (Option Value)} {kV doc pm cdv ct : Value} {dvs : List V} {o : Obj} {its : List Value} {n : Nat}
    (l : K.lookup f = some ⟨oc, od, .func (PySem.W.fnOf x qual (defArgs st) (defBody st) (defScope st) (.ref dT) kV doc pm an cdv ct), osl⟩) (c : PySem.W.codeIn K cdv qual = true) (k : PySem.W.keepIn K (.ref f) = true)
    (hd : dvs ≠ []) (lT : K.lookup dT = some o) (oT : o.data = .seq its.toArray n) (r : Vals dvs its) :
    FunD K x qual (defArgs st) (defBody st) (defScope st) dvs [] f (PySem.W.fnOf x qual (defArgs st) (defBody st) (defScope st) (.ref dT) kV doc pm an cdv ct) :=
  ⟨⟨oc, od, .ref dT, kV, doc, pm, an, cdv, ct, osl, rfl, l, c, .inr ⟨hd, dT, o, its, n, rfl, lT, oT, r⟩, .inl rfl⟩, k⟩
/-- dict(d) -/
def rDictD (xs : List V) (H : Hp) (Q : VK) : Prop := ∃ (a : Addr) (kvs : List (Key × V)), xs = [.ref a] ∧ Rd H a (.dK kvs) ∧ ∀ p, H p = none → Q (.ref p) (upd H p (.dK kvs))
theorem k_dictD {X : Cx} : CallR X (.type "dict") rDictD := call_dictD
theorem x_rDictD {a : Addr} {H : Hp} {Q : VK} {kvs : List (Key × V)} (h : H a = some (.dK kvs)) (k : ∀ p H2, Fr p H → Same H H2 → H2 p = some (.dK kvs) → Q (.ref p) H2) : rDictD [.ref a] H Q := ⟨a, kvs, rfl, .inl h, x_new1 k⟩
end Xk
/-! zip of a tuple and a list -/
namespace Xk
open PySem PySem.Spec PyProof.Rows L2
/-- a tuple at p and a list at q, side by side -/
def ItTL (K : PySem.W.Frag) (p q : Addr) : It where
  go := fun n H => ∃ (us vs : List V) (u v : V), SqT K H p us ∧ SqL K H q vs ∧ us[n]? = some u ∧ vs[n]? = some v
  yld := fun n H r H' => ∃ T u v, r = .ref T ∧ H T = none ∧ H' = upd H T (.tup [u, v]) ∧ (∀ us, SqT K H p us → us[n]? = some u) ∧ ∀ vs, SqL K H q vs → vs[n]? = some v
  stop := fun n H => ∃ us vs : List V, SqT K H p us ∧ SqL K H q vs ∧ n ≤ us.length ∧ n ≤ vs.length ∧ (n = us.length ∨ n = vs.length)
/-- what stands behind such an iterator -/
def AtTL (z t o i j p q : Addr) (n : Nat) (h : Heap) : Prop :=
  IsZip h z t o .none ∧ IsPair h t (.ref i) (.ref j) ∧ (∃ u v, IsPair h o u v) ∧ h.IsTupleIter i p n ∧ h.IsListIter j q n
theorem sepTL {z t o i j p q : Addr} (D : ZipApart z t o i j p q) : ZipSep2 z t o i j [i, p] [j, q] where
  TIz := D.TIz
  TOz := D.TOz
  TITO := D.TITO
  TIi1 := D.TIi1
  mem1 := List.mem_cons_self
  zf1 := by simp [D.i1z.symm, D.l1z.symm]
  Tf1 := by simp [D.TOi1, D.l1TO.symm]
  TIi2 := D.TIi2
  mem2 := List.mem_cons_self
  zf2 := by simp [D.i2z.symm, D.l2z.symm]
  Tf2 := by simp [D.TOi2, D.l2TO.symm]
  sep1_2 := by simp [D.i12, D.l2i1.symm]
  sep2_1 := by simp [D.i12.symm, D.l1i2.symm]
theorem five {c z t o i j : Addr} {P : Addr → Prop} (h : c ∈ [z, t, o, i, j]) (h1 : P z) (h2 : P t) (h3 : P o) (h4 : P i) (h5 : P j) : P c := by
  simp only [List.mem_cons, List.not_mem_nil, or_false] at h
  rcases h with rfl | rfl | rfl | rfl | rfl <;> assumption
theorem turnTL {P : Program} {w : World} {K : PySem.W.Frag} {es : List Expr} {k : Nat} {pos : Pos} {z t o i j p q : Addr} (D : ZipApart z t o i j p q) :
    Turn P w K (.Tuple es k pos) (ItTL K p q) [z, t, o, i, j] z (AtTL z t o i j p q) where
  mem := List.mem_cons_self
  obj := fun n h st c hc => by
    obtain ⟨g1, g2, ⟨u, v, g3⟩, ⟨o1, e1, _, d1⟩, ⟨o2, e2, _, d2⟩⟩ := st
    refine five (P := fun c => ∃ ob, h.get? c = some ob ∧ ∀ v, ob.data ≠ .cell v) hc ⟨_, g1, fun _ e => nomatch e⟩ ⟨_, g2, fun _ e => nomatch e⟩ ⟨_, g3, fun _ e => nomatch e⟩ ⟨o1, e1, fun x e => ?_⟩ ⟨o2, e2, fun x e => ?_⟩
    · rw [d1] at e
      cases e
    · rw [d2] at e
      cases e
  keep := fun n h h' st g => by
    obtain ⟨g1, g2, ⟨u, v, g3⟩, g4, g5⟩ := st
    exact ⟨g z (by simp) _ g1, g t (by simp) _ g2, ⟨u, v, g o (by simp) _ g3⟩, g4.at fun ob e => g i (by simp) ob e, g5.at fun ob e => g j (by simp) ob e⟩
  item := by
    intro X hP hw hK hc n pins s σ H E I hf st hg
    subst hP hw hK
    obtain ⟨g1, g2, ⟨u0, v0, g3⟩, g4, g5⟩ := st
    obtain ⟨us, vs, u, v, hus, hvs, hu, hv⟩ := hg
    obtain ⟨its, r1, p1, _⟩ := I.tuple hus
    obtain ⟨its2, r2, p2, _⟩ := I.list hvs
    obtain ⟨x, hx, rx⟩ := r1.get hu
    obtain ⟨y, hy, ry⟩ := r2.get hv
    have lt1 : n < its.toArray.size := by
      obtain ⟨b, _⟩ := List.getElem?_eq_some_iff.mp hx
      simpa using b
    have lt2 : n < its2.toArray.size := by
      obtain ⟨b, _⟩ := List.getElem?_eq_some_iff.mp hy
      simpa using b
    have hzl : z < s.heap.objs.size := Heap.lt_size g1
    have hh : X.A.in1.handled = none := I.ok.hd hc
    refine wpAny_pyNext_zipD2_item (sepTL D) (Draws.tuple hh i p D.l1i1 its.toArray) (Draws.list hh j q D.l2i2 its2.toArray) g1 g2 g3 ⟨g4, p1⟩ ⟨g5, p2.isList⟩ lt1 lt2 fun x1 y1 h' tk q1 q2 z' o' st1 st2 hT hsz hk => ?_
    have ex : x1 = x := by
      have e2 : its[n]? = some x1 := by simpa using q1
      exact Option.some.inj (e2.symm.trans hx)
    have ey : y1 = y := by
      have e2 : its2[n]? = some y1 := by simpa using q2
      exact Option.some.inj (e2.symm.trans hy)
    subst ex ey
    refine ⟨_, rfl, wpAny_letOwnedTupleGo_zip (s := { s with heap := h', toks := tk }) z' fun h2 z2 sb => ?_⟩
    have hT2 : h2.get? s.heap.objs.size = some { cls := .type "tuple", data := .seq #[x1, y1] } := (sb.2 _ (Nat.ne_of_gt hzl)).trans hT
    have new : ObjOk X.prog X.w (upd H s.heap.objs.size (.tup [u, v])) h2 s.heap.objs.size (.tup [u, v]) :=
      ⟨by show 2 ≤ sizeLine; decide, [x1, y1], .cons rx (.cons ry .nil), ⟨_, hT2, rfl, _, rfl⟩⟩
    have kept : ∀ c ob, c ∉ [z, t, o, i, j] → s.heap.get? c = some ob → h2.get? c = some ob := fun c ob nc e => by
      simp only [List.mem_cons, List.not_mem_nil, or_false, not_or] at nc
      exact (sb.2 c nc.1).trans (hk c ob nc.1 nc.2.2.1 nc.2.2.2.1 nc.2.2.2.2 e)
    have I1 : Inv X pins σ (upd H s.heap.objs.size (.tup [u, v])) { s with heap := h2, toks := tk } :=
      I.turnedNew (t' := tk) (ch := [z, t, o, i, j]) kept hf (Nat.le_refl _) new
    refine ⟨.ref s.heap.objs.size, _, I1, rfl, ⟨_, u, v, rfl, I.hok.fresh (Nat.le_refl _), rfl, fun l hl => ?_, fun l hl => ?_⟩, ⟨z2, ?_, ⟨x1, y1, ?_⟩, ?_, ?_⟩, fun c hcm => ?_⟩
    · rw [I.tuple_inj hl hus]
      exact hu
    · rw [I.list_inj hl hvs]
      exact hv
    · exact (sb.2 _ D.TIz).trans (hk t _ D.TIz D.TITO D.TIi1 D.TIi2 g2)
    · exact (sb.2 _ D.TOz).trans o'
    · exact st1.1.at fun ob e => (sb.2 _ D.i1z).trans e
    · exact st2.1.at fun ob e => (sb.2 _ D.i2z).trans e
    · have lt : c < s.heap.objs.size := by
        refine five (P := fun c => c < s.heap.objs.size) hcm hzl (Heap.lt_size g2) (Heap.lt_size g3) ?_ ?_
        · obtain ⟨_, e1, _⟩ := g4
          exact Heap.lt_size e1
        · obtain ⟨_, e1, _⟩ := g5
          exact Heap.lt_size e1
      rw [upd_ne (Nat.ne_of_lt lt)]
      exact (hf c hcm).1
  done := by
    intro X hP hw hK hc n pins s σ H E I hf st hg
    subst hP hw hK
    obtain ⟨g1, g2, ⟨u0, v0, g3⟩, g4, g5⟩ := st
    obtain ⟨us, vs, hus, hvs, le1, le2, hend⟩ := hg
    obtain ⟨its, r1, p1, _⟩ := I.tuple hus
    obtain ⟨its2, r2, p2, _⟩ := I.list hvs
    have l1 : its.toArray.size = us.length := by rw [List.size_toArray, r1.length]
    have l2 : its2.toArray.size = vs.length := by rw [List.size_toArray, r2.length]
    have hh : X.A.in1.handled = none := I.ok.hd hc
    exact wpAny_pyNext_zipD2_end (sepTL D) (Draws.tuple hh i p D.l1i1 its.toArray) (Draws.list hh j q D.l2i2 its2.toArray) g1 g2 g3 ⟨g4, p1⟩ ⟨g5, p2.isList⟩ (by omega) (by omega) (by omega) fun h' tk hk =>
      ⟨rfl, I.turnedL (t' := tk) (ch := [z, t, o, i, j]) (fun c ob nc e => by
        simp only [List.mem_cons, List.not_mem_nil, or_false, not_or] at nc
        exact hk c ob nc.1 nc.2.2.1 nc.2.2.2.1 nc.2.2.2.2 e) hf⟩
  self := fun A n s Q E st h => wpAny_pyIter_zip st.1 h
/-- zip(e, e2), e a tuple and e2 a list -/
def iTL (K : PySem.W.Frag) (ta : TA) : TI := fun σ H R => ta σ H fun vs H1 => ∃ p q us ws, vs = [.ref p, .ref q] ∧ SqT K H1 p us ∧ SqL K H1 q ws ∧ R (ItTL K p q) H1
theorem pi_TL {X : Cx} {e e2 : Expr} {ta : TA} {p1 pos tpos : Pos} {es : List Expr} {k : Nat} (hg : Gl X "zip") (hm : X.mg "zip" = none) (ha : PA X [e, e2] ta)
    (hs : starEach [e, e2] X.env = (false, eval e X.env) :: starEach [e2] X.env := by rfl) (hpl : (backTo pos (starEach [e2] X.env)).any (·.1) = false := by rfl) :
    PI X (.Tuple es k tpos) (.Call (.Name "zip" p1) [e, e2] [] pos) (iTL X.K ta) := by
  refine ⟨fun pins s σ H R I h => Call_ (ld_blt I hg hm PyProof.Rows.boot_zip (PyProof.Rows.callWith_type1 (thn (ha.run pos pins s σ H _ I h) fun us s1 ⟨vs, H1, I1, r1, q1⟩ => ?_) hs hpl))⟩
  obtain ⟨p, q, xs, ys, rfl, hx, hy, g⟩ := q1
  have e3 : us = [.ref p, .ref q] := by
    cases r1 with
    | cons a b =>
      cases b with
      | cons c d =>
        cases d
        cases a
        cases c
        rfl
  subst e3
  obtain ⟨its, rx, px, _⟩ := I1.tuple hx
  obtain ⟨its2, ry, py, _⟩ := I1.list hy
  have lp : p < s1.heap.objs.size := by
    obtain ⟨_, e1, _⟩ := id px
    exact Heap.lt_size e1
  refine zip_begins2 (begins_tuple p its.toArray) (begins_list q its2.toArray) px py.isList fun h' hz hTI hTO h1 h2 hsz hk => wpAny_pyIter_zip hz ?_
  have I2 : Inv X pins σ H1 { s1 with heap := h' } := I1.kept (t' := s1.toks) hk
  refine ⟨s1.heap.objs.size + 4, [s1.heap.objs.size + 4, s1.heap.objs.size + 2, s1.heap.objs.size + 3, s1.heap.objs.size, s1.heap.objs.size + 1], _, _, H1, rfl, I2,
    turnTL (PySem.W.ktu_apart s1.heap.objs.size p q lp py.lt), ⟨hz, hTI, ⟨_, _, hTO⟩, ⟨_, h1, rfl, rfl⟩, ⟨_, h2, rfl, rfl⟩⟩, fun c hcm => ?_, g⟩
  have le : s1.heap.objs.size ≤ c := five (P := fun c => s1.heap.objs.size ≤ c) hcm (Nat.le_add_right _ _) (Nat.le_add_right _ _) (Nat.le_add_right _ _) (Nat.le_refl _) (Nat.le_add_right _ _)
  exact I1.fpOk le (I1.hok.fresh le)
/-- a comprehension over it -/
theorem walkTL {K : PySem.W.Frag} {p q : Addr} {us vs : List V} (e : us.length = vs.length) : Walk (ItTL K p q) us.length (fun H => SqT K H p us ∧ SqL K H q vs) (YPair (fun n => us[n]?) (fun n => vs[n]?)) := by
  refine ⟨fun n _ hn g => ?_, fun _ g => ⟨us, vs, g.1, g.2, Nat.le_refl _, by omega, .inl rfl⟩, fun n H v H' _ g y => ?_⟩
  · have h2 : n < vs.length := by omega
    exact ⟨us, vs, us[n], vs[n], g.1, g.2, List.getElem?_eq_getElem hn, List.getElem?_eq_getElem h2⟩
  · obtain ⟨T, x, z, h1, h2, h3, h4, h5⟩ := y
    exact ⟨T, x, z, h1, h2, h3, h4 us g.1, h5 vs g.2⟩
end Xk
section
open PySem PySem.Spec PyProof.Rows L2
namespace Xk
variable {K : PySem.W.Frag} {σ : L2.St} {H : Hp} {Q : VK} {te : TE} {g : TG} {t : TT} {X : Cx}
theorem k_TL {e e2 : Expr} {ta : TA} {p1 pos tpos : Pos} {es : List Expr} {k : Nat} (hk : X.K = K) (hg : Gl X "zip") (hm : X.mg "zip" = none) (ha : PA X [e, e2] ta)
    (hs : starEach [e, e2] X.env = (false, eval e X.env) :: starEach [e2] X.env := by rfl) (hpl : (backTo pos (starEach [e2] X.env)).any (·.1) = false := by rfl) :
    PI X (.Tuple es k tpos) (.Call (.Name "zip" p1) [e, e2] [] pos) (iTL K ta) := hk ▸ pi_TL hg hm ha hs hpl
def rLcZ (K : PySem.W.Frag) (g : TG) (tt : TT) (te : TE) (vs : List Nat) (σ : L2.St) (Q : VK) : List V → Hp → Prop := fun zs H1 => ∃ p q us ws, zs = [.ref p, .ref q] ∧ SqT K H1 p us ∧ SqL K H1 q ws ∧ RLc (ItTL K p q) g tt te vs σ Q H1
theorem x_lcZ1 {tr : TA} {vs : List Nat} (q : tr σ H (rLcZ K g t te vs σ Q)) : tLc (iTL K tr) g t te vs σ H Q := q
theorem x_lcZ {a b : Addr} {us ws : List V} {vs : List Nat} (Pv : Addr → Nat → Hp → Prop) (e : us.length = ws.length) (hx : SqT K H a us) (hy : SqL K H b ws) (h0 : ∀ Dl, Fr Dl H → Pv Dl 0 (upd H Dl (.lst [])))
    (hl : ∀ Dl i H', Fr Dl H → Pv Dl i H' → SqT K H' a us ∧ SqL K H' b ws)
    (hs : ∀ Dl, Fr Dl H → ∀ i x y H1 T H', us[i]? = some x → ws[i]? = some y → Pv Dl i H1 → Fr T H1 → Same H1 H' → H' T = some (.tup [x, y]) → g (.ref T) (wipe σ vs) H' fun σ2 H2 => wipe σ2 vs = wipe σ vs ∧ t σ2 H2 fun c H3 =>
      if c = true then te σ2 H3 fun y H4 => ∃ acc, H4 Dl = some (.lst acc) ∧ acc.length < sizeLine ∧ Pv Dl (i + 1) (upd H4 Dl (.lst (acc ++ [y]))) else Pv Dl (i + 1) H3)
    (hd : ∀ Dl H', Fr Dl H → Pv Dl us.length H' → Q (.ref Dl) H') : rLcZ K g t te vs σ Q [.ref a, .ref b] H := ⟨a, b, us, ws, rfl, hx, hy, fun Dl hD =>
  lc_it (walkTL e) (Pv Dl) (h0 Dl ⟨hD⟩) (fun i H' _ p => hl Dl i H' ⟨hD⟩ p) (fun i x H1 H' hi p y => by
    obtain ⟨T, u, v, rfl, hT, rfl, e1, e2⟩ := y
    exact hs Dl ⟨hD⟩ i u v H1 T _ e1 e2 p ⟨hT⟩ (same_new hT) upd_same) (fun H' p => hd Dl H' ⟨hD⟩ p)⟩
/-- texts in order -/
def nLtS : R2 := fun x y H Q => ∃ i j, x = .str i ∧ y = .str j ∧ Q (.bl (decide (i.cps.toList < j.cps.toList))) H
def nLeS : R2 := fun x y H Q => ∃ i j, x = .str i ∧ y = .str j ∧ Q (.bl (!decide (j.cps.toList < i.cps.toList))) H
theorem op_nLtS : OpR X (compareOp .Lt) nLtS := op_lt_str
theorem op_nLeS : OpR X (compareOp .LtE) nLeS := op_le_str
def rPar (i j : Nat) (σ : L2.St) (R : L2.St → Hp → Prop) : List V → Hp → Prop := fun vs H1 => ∃ v w, vs = [v, w] ∧ R ((σ.set i (some v)).set j (some w)) H1
theorem x_spar {i j : Nat} {ta : TA} {tz : TS} {D : Ends} (q : ta σ H (rPar i j σ (tz D))) : tSeq (tPar i j ta) tz D σ H := q
theorem x_par {i j : Nat} {ta : TA} {D : Ends} (q : ta σ H (rPar i j σ D.nx)) : tPar i j ta D σ H := q
theorem x_rPar {i j : Nat} {R : L2.St → Hp → Prop} {v u : V} (q : R ((σ.set i (some v)).set j (some u)) H) : rPar i j σ R [v, u] H := ⟨v, u, rfl, q⟩
def nGeS : R2 := fun x y H Q => ∃ i j, x = .str i ∧ y = .str j ∧ Q (.bl (!decide (i.cps.toList < j.cps.toList))) H
theorem op_nGeS : OpR X (compareOp .GtE) nGeS := op_ge_str
theorem x_nGeS {i j : Str} (q : Q (.bl (!decide (i.cps.toList < j.cps.toList))) H) : nGeS (.str i) (.str j) H Q := ⟨i, j, rfl, rfl, q⟩
theorem x_nLtS {i j : Str} (q : Q (.bl (decide (i.cps.toList < j.cps.toList))) H) : nLtS (.str i) (.str j) H Q := ⟨i, j, rfl, rfl, q⟩
theorem x_nLeS {i j : Str} (q : Q (.bl (!decide (j.cps.toList < i.cps.toList))) H) : nLeS (.str i) (.str j) H Q := ⟨i, j, rfl, rfl, q⟩
theorem x_ext {l b : Addr} {xs zs : List V} (h : H l = some (.lst xs)) (h' : H b = some (.lst zs)) (hz : xs.length + zs.length ≤ 100000) (q : Q .non (upd H l (.lst (xs ++ zs)))) : rExtend (.ref l) [.ref b] H Q := ⟨l, b, xs, zs, rfl, rfl, h, h', size_ok hz, q⟩
theorem x_sortS {a : Addr} {xs : List Str} (h : SqL K H a (xs.map V.str)) (hl : xs.length < 64) (k : ∀ p H2 (ys : List Str), ys.Perm xs → sortedS ys = true → Fr p H → Same H H2 → H2 p = some (.lst (ys.map V.str)) → Q (.ref p) H2) : rSortedS K [.ref a] H Q :=
  ⟨a, xs, rfl, h, hl, fun ys p h1 h2 hp => k p _ ys h1 h2 ⟨hp⟩ (same_new hp) upd_same⟩
end Xk
end
namespace Xk
open PySem PySem.Spec PyProof.Rows L2
theorem k_fld {X : Cx} {K : PySem.W.Frag} {e : Expr} {f : Str} {pos : Pos} {ta : TE} (hk : X.K = K) (he : PE X e ta) (hb : attributeBase e f X.env (eval e X.env) = eval e X.env) : PE X (.Attribute e f pos) (tFld K ta f) := hk ▸ pe_fld he hb
end Xk
namespace Xk
open PySem PySem.Spec PyProof.Rows L2
def rSubSl (x v : V) (l u : Option Int) (σ : L2.St) (R : L2.St → Hp → Prop) : Hp → Prop := fun H3 => ∃ (a b : Addr) (xs ys : List V) (i j : Int), x = .ref a ∧ v = .ref b ∧ l = some i ∧ u = some j ∧
  H3 a = some (.lst xs) ∧ H3 b = some (.lst ys) ∧ a ≠ b ∧ 0 ≤ i ∧ i ≤ j ∧ j ≤ xs.length ∧ xs.length + ys.length ≤ sizeLine ∧ R σ (upd H3 a (.lst (xs.take i.toNat ++ ys ++ xs.drop j.toNat)))
theorem x_gSubSl {to : TE} {tl th : TO} {v : V} {σ : L2.St} {H : Hp} {R : L2.St → Hp → Prop} (q : to σ H fun x H1 => tl σ H1 fun l H2 => th σ H2 fun u H3 => rSubSl x v l u σ R H3) : gSubSl to tl th v σ H R := q
theorem x_rSubSl {a b : Addr} {xs ys : List V} {i j : Int} {n m : Nat} {σ : L2.St} {H : Hp} {R : L2.St → Hp → Prop} (h : H a = some (.lst xs)) (h' : H b = some (.lst ys)) (ne : a ≠ b) (hi : i = (n : Int)) (hj : j = (m : Int)) (nm : n ≤ m) (hm : m ≤ xs.length) (hz : xs.length + ys.length ≤ 100000)
    (q : R σ (upd H a (.lst (xs.take n ++ ys ++ xs.drop m)))) : rSubSl (.ref a) (.ref b) (some i) (some j) σ R H := by
  refine ⟨a, b, xs, ys, i, j, rfl, rfl, rfl, rfl, h, h', ne, by omega, by omega, by omega, size_ok hz, ?_⟩
  rw [hi, hj, Int.toNat_natCast, Int.toNat_natCast]
  exact q
end Xk
/-! enumerate of a tuple -/
namespace Xk
open PySem PySem.Spec PyProof.Rows L2
theorem wp_ite {M : Model} {A : Around} {E : Value → Shared → Prop} {s : Shared} {α : Type} {c : Prop} [Decidable c] {a b : Sem α} {Q : α → Shared → Prop} (h1 : wpAny M A a Q E s) (h2 : wpAny M A b Q E s) : wpAny M A (if c then a else b) Q E s := by
  by_cases h : c
  · exact wpAny_ite_true (decide_eq_true h) h1
  · exact wpAny_ite_false (decide_eq_false h) h2
theorem enumT0 {prog : Program} {w : World} {A : Around} {E : Value → Shared → Prop} {R : Fin → Shared → Prop} {s : Shared} {v : Value} {o : Obj} {H : Heap → Prop} (b : Begins v o H) (h1 : H s.heap)
  (h2 : R (Fin.done (Flow.ret (Value.ref (s.heap.push o).objs.size)))
        { heap := (s.heap.push o).push { cls := Value.type "enumerate", data := Data.fields #[Value.none, Value.bool false, Value.ref s.heap.objs.size, rawInt 0, Value.none, Value.none] },
          gens := s.gens, drawn := s.drawn, toks := s.toks, os := s.os }) :
  wpAny (model prog w) A (do
      let it ← pyIter v
      let r ← Builtin.SmallTypes.newRecord (Value.type "enumerate") (Builtin.SmallTypes.ownedTupleFields ++ [it, rawInt 0, Value.none, Value.none])
      ret r) R E s := by
  refine wpAny_bind (b.iter prog w A _ s _ h1 ?_)
  refine wpAny_bind ?_
  refine wpAny_bind (wpAny_alloc' ?_)
  refine wpAny_pure ?_
  exact wpAny_pure h2
theorem enumT1 {v : Value} {o : Obj} {H : Heap → Prop} (b : Begins v o H) : Meets (Builtin.«enumerate.__new__» { pos := [.type "enumerate", v] }) fun A R s => H s.heap ∧
   R (Except.ok (Flow.ret (Value.ref (s.heap.push o).objs.size)))
        { heap := (s.heap.push o).push { cls := Value.type "enumerate", data := Data.fields #[Value.none, Value.bool false, Value.ref s.heap.objs.size, rawInt 0, Value.none, Value.none] },
          gens := s.gens, drawn := s.drawn, toks := s.toks, os := s.os } := by
  intro prog w A R s hs
  obtain ⟨h1, h2⟩ := hs
  refine wpAny_bind ?_
  refine wpAny_bind ?_
  refine wpAny_of_eq (a := true) rfl ?_
  refine wpAny_ite_false rfl ?_
  refine wpAny_bind ?_
  refine wpAny_of_eq sub_enumerate ?_
  refine wpAny_ite_false rfl ?_
  refine wpAny_pure ?_
  refine wpAny_ite_true (by decide) ?_
  refine wpAny_bind ?_
  refine wpAny_bind (wpAny_stack_any fun st => wpAny_pure ?_)
  refine wp_ite ?_ ?_
  · refine wpAny_bind ?_
    refine wpAny_of_eq (a := (v, none)) rfl ?_
    exact enumT0 b h1 h2
  · refine wpAny_bind ?_
    refine wpAny_of_eq (a := (v, none)) rfl ?_
    exact enumT0 b h1 h2
theorem enum_one {prog : Program} {w : World} {A : Around} {E : Value → Shared → Prop} {s : Shared} {v : Value} {o : Obj} {H : Heap → Prop} {Q : Value → Shared → Prop} (b : Begins v o H) (h1 : H s.heap)
  (q : ∀ h' : Heap, IsEnum h' (s.heap.objs.size + 1) s.heap.objs.size 0 Value.none → h'.get? s.heap.objs.size = some o → h'.objs.size = s.heap.objs.size + 2 → (∀ (b : Addr) (o : Obj), s.heap.get? b = some o → h'.get? b = some o) →
     Q (Value.ref (s.heap.objs.size + 1)) { heap := h', gens := s.gens, drawn := s.drawn, toks := s.toks, os := s.os }) :
  wpAny (model prog w) A (call (Value.type "enumerate") [v]) Q E s := by
  refine callType_new F.called_enumerate (by decide) (F.typeCall_enumerate_1 v) (F.newCall_enumerate_1 v) (fun obj => F.args_object_init_2 obj v) F.entry_enumerate_new (enumT1 b) ⟨h1, ?_⟩
  have e1 : (s.heap.push o).objs.size = s.heap.objs.size + 1 := by rw [Heap.size_push]
  have g : ((s.heap.push o).push { cls := Value.type "enumerate", data := Data.fields #[Value.none, Value.bool false, Value.ref s.heap.objs.size, rawInt 0, Value.none, Value.none] }).get? (s.heap.push o).objs.size = some { cls := Value.type "enumerate", data := Data.fields #[Value.none, Value.bool false, Value.ref s.heap.objs.size, rawInt 0, Value.none, Value.none] } := Heap.get?_push_size _ rfl
  refine ⟨?_, ?_⟩
  · rw [e1] at g ⊢
    exact ⟨_, g, rfl⟩
  · rw [e1] at g ⊢
    refine q _ g ?_ (by rw [Heap.size_push, Heap.size_push]) fun b' o' e => Heap.get?_push_of_some _ (Heap.get?_push_of_some _ e)
    exact Heap.get?_push_of_some _ (Heap.get?_push_size _ b.free)
/-- a tuple at a, each item with its number -/
def ItET (K : PySem.W.Frag) (a : Addr) : It where
  go := fun i H => ∃ (xs : List V) (x : V), SqT K H a xs ∧ xs[i]? = some x
  yld := fun i H v H' => ∃ T x, v = .ref T ∧ H T = none ∧ H' = upd H T (.tup [.int (i : Nat), x]) ∧ ∀ xs : List V, SqT K H a xs → xs[i]? = some x
  stop := fun i H => ∃ xs : List V, SqT K H a xs ∧ i = xs.length
theorem turnET {P : Program} {w : World} {K : PySem.W.Frag} {es : List Expr} {k : Nat} {pos : Pos} {a e it : Addr} (d1 : e ≠ it) (d2 : a ≠ it) (d3 : e ≠ a) :
    Turn P w K (.Tuple es k pos) (ItET K a) [e, it] e (fun i h => (∃ old, IsEnum h e it (i : Nat) old) ∧ h.IsTupleIter it a i) where
  mem := List.mem_cons_self
  obj := fun n h st c hc => by
    obtain ⟨⟨old, g1⟩, ⟨o1, e1, _, dd1⟩⟩ := st
    simp only [List.mem_cons, List.not_mem_nil, or_false] at hc
    rcases hc with rfl | rfl
    · exact ⟨_, g1, fun _ e => nomatch e⟩
    · refine ⟨o1, e1, fun x e => ?_⟩
      rw [dd1] at e
      cases e
  keep := fun n h h' st g => by
    obtain ⟨⟨old, g1⟩, g2⟩ := st
    exact ⟨⟨old, g e (by simp) _ g1⟩, g2.at fun ob e => g it (by simp) ob e⟩
  item := by
    intro X hP hw hK hc n pins s σ H E I hf st hg
    subst hP hw hK
    obtain ⟨⟨old, g1⟩, g2⟩ := st
    obtain ⟨us, u, hus, hu⟩ := hg
    obtain ⟨its, r1, p1, _⟩ := I.tuple hus
    obtain ⟨x, hx, rx⟩ := r1.get hu
    have lt1 : n < its.toArray.size := by
      obtain ⟨b, _⟩ := List.getElem?_eq_some_iff.mp hx
      simpa using b
    have hzl : e < s.heap.objs.size := Heap.lt_size g1
    have hil : it < s.heap.objs.size := by
      obtain ⟨_, e1, _⟩ := id g2
      exact Heap.lt_size e1
    have hh : X.A.in1.handled = none := I.ok.hd hc
    refine wpAny_pyNext_enum_itemD (Draws.tuple hh it a d2 its.toArray) g1 ⟨g2, p1⟩ lt1 d1 (by simp [d1, d3]) fun x1 h' tk q1 eo st1 hT hsz hk => ?_
    have ex : x1 = x := by
      have e2 : its[n]? = some x1 := by simpa using q1
      exact Option.some.inj (e2.symm.trans hx)
    subst ex
    refine ⟨_, rfl, wpAny_letOwnedTupleGo_enum (s := { s with heap := h', toks := tk + 1 }) eo fun h2 z2 sb => ?_⟩
    have hT2 : h2.get? s.heap.objs.size = some { cls := .type "tuple", data := .seq #[Value.int (n : Nat) tk, x1] } := (sb.2 _ (Nat.ne_of_gt hzl)).trans hT
    have new : ObjOk X.prog X.w (upd H s.heap.objs.size (.tup [.int (n : Nat), u])) h2 s.heap.objs.size (.tup [.int (n : Nat), u]) :=
      ⟨by show 2 ≤ sizeLine; decide, [Value.int (n : Nat) tk, x1], .cons (by first | exact ⟨tk, rfl⟩ | exact rfl | constructor) (.cons rx .nil), ⟨_, hT2, rfl, _, rfl⟩⟩
    have kept : ∀ c ob, c ∉ [e, it] → s.heap.get? c = some ob → h2.get? c = some ob := fun c ob nc e => by
      simp only [List.mem_cons, List.not_mem_nil, or_false, not_or] at nc
      exact (sb.2 c nc.1).trans (hk c ob nc.1 nc.2 e)
    have I1 : Inv X pins σ (upd H s.heap.objs.size (.tup [.int (n : Nat), u])) { s with heap := h2, toks := tk + 1 } :=
      I.turnedNew (t' := tk + 1) (ch := [e, it]) kept hf (Nat.le_refl _) new
    refine ⟨.ref s.heap.objs.size, _, I1, rfl, ⟨_, u, rfl, I.hok.fresh (Nat.le_refl _), rfl, fun l hl => ?_⟩, ⟨⟨_, z2⟩, ?_⟩, fun c hcm => ?_⟩
    · rw [I.tuple_inj hl hus]
      exact hu
    · exact st1.1.at fun ob e => (sb.2 _ d1.symm).trans e
    · have lt : c < s.heap.objs.size := by
        simp only [List.mem_cons, List.not_mem_nil, or_false] at hcm
        rcases hcm with rfl | rfl
        · exact hzl
        · exact hil
      rw [upd_ne (Nat.ne_of_lt lt)]
      exact (hf c hcm).1
  done := by
    intro X hP hw hK hc n pins s σ H E I hf st hg
    subst hP hw hK
    obtain ⟨⟨old, g1⟩, g2⟩ := st
    obtain ⟨us, hus, rfl⟩ := hg
    obtain ⟨its, r1, p1, _⟩ := I.tuple hus
    have l1 : its.toArray.size = us.length := by rw [List.size_toArray, r1.length]
    have hh : X.A.in1.handled = none := I.ok.hd hc
    refine wpAny_pyNext_enum_endD (Draws.tuple hh it a d2 its.toArray) g1 (by rw [l1]; exact ⟨g2, p1⟩) fun h' hk => ?_
    exact ⟨rfl, I.turnedL (t' := s.toks) (ch := [e, it]) (fun c ob nc e => by
      simp only [List.mem_cons, List.not_mem_nil, or_false, not_or] at nc
      exact hk c ob nc.2 e) hf⟩
  self := fun A n s Q E st h => wpAny_pyIter_enum st.1.choose_spec h
/-- enumerate(e), e a tuple -/
def iET (K : PySem.W.Frag) (ta : TA) : TI := fun σ H R => ta σ H fun vs H1 => ∃ p us, vs = [.ref p] ∧ SqT K H1 p us ∧ R (ItET K p) H1
theorem pi_ET {X : Cx} {e : Expr} {ta : TA} {p1 pos tpos : Pos} {es : List Expr} {k : Nat} (hg : Gl X "enumerate") (hm : X.mg "enumerate" = none) (ha : PA X [e] ta)
    (hs : starEach [e] X.env = [(false, eval e X.env)] := by rfl) (hpl : (backTo pos (starEach [] X.env)).any (·.1) = false := by rfl) :
    PI X (.Tuple es k tpos) (.Call (.Name "enumerate" p1) [e] [] pos) (iET X.K ta) := by
  refine ⟨fun pins s σ H R I h => Call_ (ld_blt I hg hm PyProof.Rows.boot_enumerate (PyProof.Rows.callWith_type1 (thn (ha.run pos pins s σ H _ I h) fun us s1 ⟨vs, H1, I1, r1, q1⟩ => ?_) hs hpl))⟩
  obtain ⟨p, xs, rfl, hx, g⟩ := q1
  have e3 : us = [.ref p] := by
    cases r1 with
    | cons a b =>
      cases b
      cases a
      rfl
  subst e3
  obtain ⟨its, rx, px, _⟩ := I1.tuple hx
  have lp : p < s1.heap.objs.size := by
    obtain ⟨_, e1, _⟩ := id px
    exact Heap.lt_size e1
  refine enum_one (begins_tuple p its.toArray) px fun h' hz h1 hsz hk => wpAny_pyIter_enum hz ?_
  have I2 : Inv X pins σ H1 { s1 with heap := h' } := I1.kept (t' := s1.toks) hk
  refine ⟨s1.heap.objs.size + 1, [s1.heap.objs.size + 1, s1.heap.objs.size], _, _, H1, rfl, I2,
    turnET (Nat.succ_ne_self _) (Nat.ne_of_lt lp) (Nat.ne_of_gt (Nat.lt_succ_of_lt lp)), ⟨⟨_, hz⟩, ⟨_, h1, rfl, rfl⟩⟩, fun c hcm => ?_, g⟩
  have le : s1.heap.objs.size ≤ c := by
    simp only [List.mem_cons, List.not_mem_nil, or_false] at hcm
    rcases hcm with rfl | rfl
    · exact Nat.le_add_right _ _
    · exact Nat.le_refl _
  exact I1.fpOk le (I1.hok.fresh le)
/-- a comprehension over it -/
theorem walkET {K : PySem.W.Frag} {p : Addr} {us : List V} : Walk (ItET K p) us.length (fun H => SqT K H p us) (YPair (fun n => some (.int (n : Nat))) (fun n => us[n]?)) := by
  refine ⟨fun n _ hn g => ?_, fun _ g => ⟨us, g, rfl⟩, fun n H v H' _ g y => ?_⟩
  · exact ⟨us, us[n], g, List.getElem?_eq_getElem hn⟩
  · obtain ⟨T, x, h1, h2, h3, h4⟩ := y
    exact ⟨T, _, x, h1, h2, h3, rfl, h4 us g⟩
end Xk
section
open PySem PySem.Spec PyProof.Rows L2
namespace Xk
variable {K : PySem.W.Frag} {σ : L2.St} {H : Hp} {Q : VK} {te : TE} {g : TG} {t : TT} {X : Cx}
theorem k_ET {e : Expr} {ta : TA} {p1 pos tpos : Pos} {es : List Expr} {k : Nat} (hk : X.K = K) (hg : Gl X "enumerate") (hm : X.mg "enumerate" = none) (ha : PA X [e] ta)
    (hs : starEach [e] X.env = [(false, eval e X.env)] := by rfl) (hpl : (backTo pos (starEach [] X.env)).any (·.1) = false := by rfl) :
    PI X (.Tuple es k tpos) (.Call (.Name "enumerate" p1) [e] [] pos) (iET K ta) := hk ▸ pi_ET hg hm ha hs hpl
def rLcET (K : PySem.W.Frag) (g : TG) (tt : TT) (te : TE) (vs : List Nat) (σ : L2.St) (Q : VK) : List V → Hp → Prop := fun zs H1 => ∃ p us, zs = [.ref p] ∧ SqT K H1 p us ∧ RLc (ItET K p) g tt te vs σ Q H1
theorem x_lcET1 {tr : TA} {vs : List Nat} (q : tr σ H (rLcET K g t te vs σ Q)) : tLc (iET K tr) g t te vs σ H Q := q
theorem x_lcET {a : Addr} {us : List V} {vs : List Nat} (Pv : Addr → Nat → Hp → Prop) (hx : SqT K H a us) (h0 : ∀ Dl, Fr Dl H → Pv Dl 0 (upd H Dl (.lst [])))
    (hl : ∀ Dl i H', Fr Dl H → Pv Dl i H' → SqT K H' a us)
    (hs : ∀ Dl, Fr Dl H → ∀ i x H1 T H', us[i]? = some x → Pv Dl i H1 → Fr T H1 → Same H1 H' → H' T = some (.tup [.int (i : Nat), x]) → g (.ref T) (wipe σ vs) H' fun σ2 H2 => wipe σ2 vs = wipe σ vs ∧ t σ2 H2 fun c H3 =>
      if c = true then te σ2 H3 fun y H4 => ∃ acc, H4 Dl = some (.lst acc) ∧ acc.length < sizeLine ∧ Pv Dl (i + 1) (upd H4 Dl (.lst (acc ++ [y]))) else Pv Dl (i + 1) H3)
    (hd : ∀ Dl H', Fr Dl H → Pv Dl us.length H' → Q (.ref Dl) H') : rLcET K g t te vs σ Q [.ref a] H := ⟨a, us, rfl, hx, fun Dl hD =>
  lc_it walkET (Pv Dl) (h0 Dl ⟨hD⟩) (fun i H' _ p => hl Dl i H' ⟨hD⟩ p) (fun i x H1 H' hi p y => by
    obtain ⟨T, u, v, rfl, hT, rfl, e1, e2⟩ := y
    cases Option.some.inj e1
    exact hs Dl ⟨hD⟩ i v H1 T _ e2 p ⟨hT⟩ (same_new hT) upd_same) (fun H' p => hd Dl H' ⟨hD⟩ p)⟩
end Xk
end
/-! dict comprehensions over a tuple -/
section
open PySem PySem.Spec PyProof.Rows L2
namespace Xk
variable {K : PySem.W.Frag} {σ : L2.St} {H : Hp} {Q : VK} {tk tv : TE} {g : TG} {t : TT}
def RDc (J : It) (g : TG) (tt : TT) (tk tv : TE) (vs : List Nat) (σ : L2.St) (Q : VK) : Hp → Prop := fun H1 => ∀ D, H1 D = none → ∃ W : Nat → Nat → Hp → Prop, (∃ m, W 0 m (upd H1 D (.dK []))) ∧ ∀ i m H, W i m H →
  (J.stop i H ∧ Q (.ref D) H) ∨ (J.go i H ∧ ∃ Nx : Hp → Prop, (∀ H', Nx H' → ∃ m', m' < m ∧ W (i + 1) m' H') ∧ ∀ x H', J.yld i H x H' → g x (wipe σ vs) H' fun σ2 H2 => wipe σ2 vs = wipe σ vs ∧ tt σ2 H2 fun b H3 =>
    if b = true then tk σ2 H3 fun y H4 => tv σ2 H4 fun z H5 => ∃ kvs k, y = kV k ∧ H5 D = some (.dK kvs) ∧ kvs.length < sizeLine ∧ Nx (upd H5 D (.dK (putK kvs k z))) else Nx H3)
def rDcT (K : PySem.W.Frag) (g : TG) (tt : TT) (tk tv : TE) (vs : List Nat) (σ : L2.St) (Q : VK) : VK := fun x H1 => ∃ a, x = .ref a ∧ (∃ xs, SqT K H1 a xs) ∧ RDc (Itt K a) g tt tk tv vs σ Q H1
theorem x_dcT1 {tx : TE} {vs : List Nat} (q : tx σ H (rDcT K g t tk tv vs σ Q)) : tDc (iTup K tx) g t tk tv vs σ H Q := q
theorem x_dcT {a : Addr} {xs : List V} {vs : List Nat} (Pv : Addr → Nat → Hp → Prop) (hx : SqT K H a xs) (h0 : ∀ Dl, Fr Dl H → Pv Dl 0 (upd H Dl (.dK []))) (hl : ∀ Dl i H', Fr Dl H → Pv Dl i H' → SqT K H' a xs)
    (hs : ∀ Dl, Fr Dl H → ∀ i x H', xs[i]? = some x → Pv Dl i H' → g x (wipe σ vs) H' fun σ2 H2 => wipe σ2 vs = wipe σ vs ∧ t σ2 H2 fun b H3 =>
      if b = true then tk σ2 H3 fun y H4 => tv σ2 H4 fun z H5 => ∃ kvs k, y = kV k ∧ H5 Dl = some (.dK kvs) ∧ kvs.length < sizeLine ∧ Pv Dl (i + 1) (upd H5 Dl (.dK (putK kvs k z))) else Pv Dl (i + 1) H3)
    (hd : ∀ Dl H', Fr Dl H → Pv Dl xs.length H' → Q (.ref Dl) H') : rDcT K g t tk tv vs σ Q (.ref a) H := ⟨a, rfl, ⟨xs, hx⟩, fun Dl hD =>
  dc_tup (xs := xs) (Pv Dl) (h0 Dl ⟨hD⟩) (fun i H' _ p => hl Dl i H' ⟨hD⟩ p) (fun i x H' hi p => hs Dl ⟨hD⟩ i x H' hi p) (fun H' p => hd Dl H' ⟨hD⟩ p)⟩
end Xk
end
/-! sets of texts -/
namespace Xs
open PySem PySem.Spec PyProof.Rows L2
abbrev SK (P : Program) (w : World) := PySem.strKind P w
def txt (e : Int × Value) : Str := match e.2 with
  | .str z _ => z
  | _ => Str.empty
def Fine (P : Program) (w : World) (e : Int × Value) : Prop := ∃ z u, e.2 = Value.str z u ∧ e.1 = (SK P w).hash z
/-- the texts zs, in any order, are the set at a -/
def Txts (P : Program) (w : World) (h : Heap) (a : Addr) (zs : List Str) : Prop := ∃ ob rows ep tab, h.get? a = some ob ∧ ob.ExactSet ∧ ob.data = .set rows ep tab ∧ (∀ e ∈ rows.toList, Fine P w e) ∧
  (rows.toList.map txt).Perm zs ∧ zs.Nodup ∧ rows.size < scanBound ∧ tab.fits rows.size = true ∧ Ris tab.place.toList ∧ (w.params.followText "set-order" = true ∨ tab.led = true)
section
variable {P : Program} {w : World} {A : Around} {E : Value → Shared → Prop} {s : Shared} {a : Addr} {zs : List Str}
theorem Txts.at {h h' : Heap} (R : Txts P w h a zs) (k : ∀ ob, h.get? a = some ob → h'.get? a = some ob) : Txts P w h' a zs := by
  obtain ⟨ob, rows, ep, tab, g, rest⟩ := R
  exact ⟨ob, rows, ep, tab, k ob g, rest⟩
theorem is_self (z : Str) (u : Tok) : (SK P w).is z (.str z u) = true := by
  show Value.isStrOf z (.str z u) = true
  simp [Value.isStrOf]
theorem fine_elems {l : List (Int × Value)} (f : ∀ e ∈ l, Fine P w e) : ElemsOf (SK P w) l := fun e he => by
  obtain ⟨z, u, e1, e2⟩ := f e he
  refine ⟨⟨z, ?_, e2⟩, ?_⟩
  · rw [e1]
    exact is_self z u
  · rw [e1]
    rfl
theorem fine_is {e : Int × Value} (f : Fine P w e) (z : Str) : (SK P w).is z e.2 = true ↔ txt e = z := by
  obtain ⟨y, u, e1, _⟩ := f
  unfold txt
  rw [e1]
  constructor
  · intro q
    exact (SK P w).inj (.str y u) y z (is_self y u) q
  · intro q
    subst q
    exact is_self _ u
theorem fine_mem {l : List (Int × Value)} (f : ∀ e ∈ l, Fine P w e) (z : Str) : z ∈ l.map txt ↔ ∃ e ∈ l, (SK P w).is z e.2 = true := by
  rw [List.mem_map]
  constructor
  · rintro ⟨e, he, q⟩
    exact ⟨e, he, (fine_is (f e he) z).mpr q⟩
  · rintro ⟨e, he, q⟩
    exact ⟨e, he, (fine_is (f e he) z).mp q⟩
/-- the rows are stored, and laid anew if they are many -/
theorem stored {g : Bool → Sem Unit} (hg : ∀ (b : Bool) (s₁ : Shared) (Z : Unit → Shared → Prop), Z () s₁ → wpAny (model P w) A (g b) Z E s₁)
    {ob : Obj} {rows : Array (Int × Value)} {ep : Nat} {tab : SetTable} (ho : s.heap.get? a = some ob) (hex : ob.ExactSet) (hd : ob.data = .set rows ep tab)
    {rows1 : Array (Int × Value)} {tab2 : SetTable} {ys : List Str} (f1 : ∀ e ∈ rows1.toList, Fine P w e) (p1 : (rows1.toList.map txt).Perm ys) (nd : ys.Nodup)
    (lt : rows1.size < scanBound) (ft : tab2.fits rows1.size = true) (ri : Ris tab2.place.toList) (le : w.params.followText "set-order" = true ∨ tab2.led = true) {dum : Bool} {R : Option Bool → Shared → Prop}
    (hR : ∀ h', Heap.SameBut a s.heap h' → Txts P w h' a ys → R (some true) { s with heap := h' }) :
    wpAny (model P w) A (do
        storeSet a rows1 tab2
        if (!dum && tab2.tooFull) = true then do
            g (relayAll tab2 rows1 (SetTable.grown rows1.size)).2.2
            storeSet a (relayAll tab2 rows1 (SetTable.grown rows1.size)).1 (relayAll tab2 rows1 (SetTable.grown rows1.size)).2.1
            pure (some true)
          else pure (some true)) R E s := by
  have o1 := store_at (es' := rows1) (t' := tab2) ho hd
  have b1 := Heap.SameBut.update s.heap a (Obj.putSet rows1 tab2)
  refine wpAny_bind (wpAny_storeSet_of ho hd ?_ (fits_of_scanBound lt))
  split
  · have q1 := relayAll_perm tab2 rows1 (SetTable.grown rows1.size)
    have q2 := relayAll_fits tab2 rows1 (SetTable.grown rows1.size)
    have q3 := relayAll_ris tab2 rows1 (SetTable.grown rows1.size)
    have q4 := relayAll_led tab2 rows1 (SetTable.grown rows1.size)
    generalize relayAll tab2 rows1 (SetTable.grown rows1.size) = Z at q1 q2 q3 q4 ⊢
    obtain ⟨rows2, tab3, gv⟩ := Z
    dsimp only at q1 q2 q3 q4 ⊢
    have zz : rows2.size = rows1.size := by
      rw [← Array.length_toList, q1.length_eq, Array.length_toList]
    have lt2 : rows2.size < scanBound := by
      rw [zz]
      exact lt
    refine wpAny_bind (hg gv _ _ (wpAny_bind (wpAny_storeSet_of o1 rfl ?_ (fits_of_scanBound lt2))))
    have o2 := store_at (es' := rows2) (t' := tab3) o1 rfl
    refine wpAny_pure (hR _ (b1.trans (Heap.SameBut.update _ a _)) ⟨_, rows2, _, tab3, o2, hex, rfl, fun e he => f1 e (q1.mem_iff.mp he), (q1.map txt).trans p1, nd, lt2, q2, q3, ?_⟩)
    rcases le with z | z
    · exact .inl z
    · exact .inr (by rw [q4]; exact z)
  · exact wpAny_pure (hR _ b1 ⟨_, rows1, _, tab2, o1, hex, rfl, f1, p1, nd, lt, ft, ri, le⟩)
/-- a text is put in -/
theorem put {z : Str} {u : Tok} {Q : Bool → Shared → Prop} (R : Txts P w s.heap a zs) (room : zs.length + 1 < scanBound) (q1 : z ∈ zs → Q false s)
    (q2 : z ∉ zs → ∀ h', Heap.SameBut a s.heap h' → Txts P w h' a (z :: zs) → Q true { s with heap := h' }) : wpAny (model P w) A (setAddHashed a (.str z u) ((SK P w).hash z)) Q E s := by
  obtain ⟨ob, rows, ep, tab, ho, hex, hd, ff, pz, nd, lt, ft, ri, le⟩ := R
  have el : ElemsOf (SK P w) rows.toList := fine_elems ff
  have hz : (SK P w).is z (.str z u) = true := is_self z u
  have hsz : rows.size = zs.length := by
    rw [← Array.length_toList, ← pz.length_eq, List.length_map]
  unfold setAddHashed setAddHashedIn
  refine wpAny_holding (wpAny_bind (wpAny_setState_of ho hd ft ?_))
  dsimp only
  rw [byScan_of (x := .str z u) rfl lt el]
  simp only [↓reduceIte]
  unfold setAddByScan
  refine wpAny_bind (wpAny_bind (wpAny_rule (wpAny_bind (wpAny_setScan_of (knd := SK P w) hz ho hd ft el ?_))))
  cases fi : List.findIdx? (fun e => (SK P w).is z e.2) rows.toList with
  | some j =>
    dsimp only
    obtain ⟨hj, pj, _⟩ := List.findIdx?_eq_some_iff_getElem.mp fi
    have hm : z ∈ zs := pz.mem_iff.mp ((fine_mem ff z).mpr ⟨rows.toList[j], List.getElem_mem hj, pj⟩)
    exact wpAny_pure (wpAny_pure (q1 hm))
  | none =>
    dsimp only
    have hn : z ∉ zs := fun y => by
      obtain ⟨e, he, q⟩ := (fine_mem ff z).mp (pz.mem_iff.mpr y)
      have c := List.findIdx?_eq_none_iff.mp fi e he
      rw [q] at c
      cases c
    have gw : ∀ (b : Bool) {s₁ : Shared} {Z : Unit → Shared → Prop}, Z () s₁ → wpAny (model P w) A (match b with | true => rule "set.scan.the-table-gave-way" | false => pure ()) Z E s₁ := fun b s₁ Z q => by
      cases b
      · exact wpAny_pure q
      · exact wpAny_rule q
    have n1 := layNew_perm tab rows ((SK P w).hash z) (.str z u)
    have n2 := layNew_fits tab rows ((SK P w).hash z) (.str z u)
    have n3 := layNew_ris tab rows ((SK P w).hash z) (.str z u) ri
    have n4 := layNew_led tab rows ((SK P w).hash z) (.str z u)
    generalize layNew tab rows ((SK P w).hash z) (.str z u) = Z at n1 n2 n3 n4 ⊢
    obtain ⟨rows1, tab1, dum, gv⟩ := Z
    dsimp only at n1 n2 n3 n4 ⊢
    rw [Array.toList_push] at n1
    have pc : rows1.toList.Perm (((SK P w).hash z, Value.str z u) :: rows.toList) := n1.trans (List.perm_append_singleton _ _)
    have f1 : ∀ e ∈ rows1.toList, Fine P w e := fun e he => by
      rcases List.mem_cons.mp (pc.mem_iff.mp he) with y | y
      · exact ⟨z, u, by rw [y], by rw [y]⟩
      · exact ff e y
    have p1 : (rows1.toList.map txt).Perm (z :: zs) := (pc.map txt).trans (pz.cons z)
    have lt1 : rows1.size < scanBound := by
      have e : rows1.size = zs.length + 1 := by
        rw [← Array.length_toList, pc.length_eq, List.length_cons, Array.length_toList, hsz]
      omega
    have le1 : w.params.followText "set-order" = true ∨ tab1.led = true := by
      rcases le with y | y
      · exact .inl y
      · exact .inr (by rw [n4]; exact y)
    have nd1 : (z :: zs).Nodup := List.nodup_cons.mpr ⟨hn, nd⟩
    refine wpAny_bind (gw gv ?_)
    split
    · refine wpAny_bind ?_
      rw [hashByValue_scannable 8 (x := Value.str z u) rfl]
      refine wpAny_pure (stored (fun b s₁ Z q => ?_) ho hex hd f1 p1 nd1 lt1 ?_ ?_ ?_ fun h' sb r => ?_)
      · cases b
        · exact wpAny_pure q
        · exact wpAny_rule q
      · first | exact SetTable.fits_plain_off n2 | exact n2
      · exact n3
      · exact le1
      · dsimp only
        exact wpAny_pure (q2 hn h' sb r)
    · refine wpAny_bind (wpAny_pure ?_)
      simp only [↓reduceIte]
      refine stored (fun b s₁ Z q => ?_) ho hex hd f1 p1 nd1 lt1 n2 n3 le1 fun h' sb r => ?_
      · cases b
        · exact wpAny_pure q
        · exact wpAny_rule q
      · dsimp only
        exact wpAny_pure (q2 hn h' sb r)
/-- what was put in after i items -/
structure Sofar (xs : List Str) (i : Nat) (zs : List Str) : Prop where
  few : zs.length ≤ i
  mem : ∀ z, z ∈ zs ↔ z ∈ xs.take i
theorem Sofar.old {xs zs : List Str} {i : Nat} {z : Str} (g : Sofar xs i zs) (h : xs[i]? = some z) (hm : z ∈ zs) : Sofar xs (i + 1) zs := ⟨Nat.le_succ_of_le g.few, fun y => by
  rw [g.mem, List.take_add_one, h, List.mem_append]
  refine ⟨.inl, fun q => ?_⟩
  rcases q with q | q
  · exact q
  · rw [List.mem_singleton.mp q]
    exact (g.mem z).mp hm⟩
theorem Sofar.new {xs zs : List Str} {i : Nat} {z : Str} (g : Sofar xs i zs) (h : xs[i]? = some z) : Sofar xs (i + 1) (z :: zs) := ⟨Nat.succ_le_succ g.few, fun y => by
  rw [List.mem_cons, g.mem, List.take_add_one, h, List.mem_append]
  refine ⟨fun q => ?_, fun q => ?_⟩
  · rcases q with q | q
    · exact .inr (List.mem_singleton.mpr q)
    · exact .inl q
  · rcases q with q | q
    · exact .inr q
    · exact .inl (List.mem_singleton.mp q)⟩
/-- the loop that puts one item in after the other -/
theorem puts {I : Addr} {fp wr : List Addr} {G : Array GenState → Array GenState → Prop} {n : Nat} {Pv : Nat → Value → Prop} {St : Nat → Shared → Prop} {R : Result → Shared → Prop}
    (W : WalksS P w A.in1 I fp wr G n Pv St) (S : Addr) (out : S ∉ fp) (xs : List Str) (hn : n = xs.length) (room : n + 1 < scanBound) (val : ∀ i v, Pv i v → ∃ z u, xs[i]? = some z ∧ v = .str z u) :
    ∀ (m i : Nat) (s : Shared), n - i = m → i ≤ n → St i s → (∃ zs, Txts P w s.heap S zs ∧ Sofar xs i zs) →
      (∀ s' zs, Moved (S :: wr) G s s' → Txts P w s'.heap S zs → Sofar xs n zs → R (.ok (.ret .none)) s') → codeAny (model P w) A (.builtin "set.update.loop" ⟨[.ref S, .ref I], []⟩) R s := by
  have outw : S ∉ wr := fun z => out (W.sub _ z)
  have more : ∀ b ∈ wr, b ∈ S :: wr := fun b z => List.mem_cons_of_mem _ z
  intro m
  induction m with
  | zero =>
    rintro i s hm hi st ⟨zs, hZ, g⟩ hR
    obtain rfl : i = n := by omega
    refine codeAny_builtin PyProof.Rows.F.entry_set_update_loop ?_
    rw [Around.under_plainId PyProof.Rows.F.plain_set_update_loop _]
    show wpAny _ A.in1 (pyNext (.ref I) >>= _) _ _ s
    exact wpAny_bind (W.done s _ _ st fun s' mv => (wpAny_pure (hR s' zs (mv.mono more) (hZ.at fun ob e => mv.heap S ob outw e) g)))
  | succ m ih =>
    rintro i s hm hi st ⟨zs, hZ, g⟩ hR
    have lt : i < n := by omega
    refine codeAny_builtin PyProof.Rows.F.entry_set_update_loop ?_
    rw [Around.under_plainId PyProof.Rows.F.plain_set_update_loop _]
    show wpAny _ A.in1 (pyNext (.ref I) >>= _) _ _ s
    refine wpAny_bind (W.item i s _ _ lt st fun v s' hP st' mv => ?_)
    obtain ⟨z, u, hz, rfl⟩ := val i v hP
    have hZ' : Txts P w s'.heap S zs := hZ.at fun ob e => mv.heap S ob outw e
    have fw := g.few
    show wpAny _ A.in1 (holding [Value.str z u] (setAdd S (.str z u)) >>= _) _ _ s'
    refine wpAny_bind (wpAny_holding ?_)
    unfold setAdd
    refine wpAny_holding (wpAny_bind ((SK P w).pyHash (k := z) (is_self z u) ?_))
    refine put (s := { s' with toks := s'.toks + 1 }) hZ' (by omega) (fun hm2 => ?_) fun hm2 h' sb hZ2 => ?_
    · exact wpAny_pure ⟨plainId_quiet PyProof.Rows.F.plain_set_update_loop _, ih (i + 1) _ (by omega) lt (W.frame _ s' _ _ st' (Nat.le_succ _) fun b _ o e => e) ⟨zs, hZ', g.old hz hm2⟩ fun s2 ys mv2 r1 r2 =>
        hR s2 ys (Moved.trans W.gtrans ((mv.mono more).then_heap (Nat.le_succ _) fun b o _ e => e) mv2) r1 r2⟩
    · refine wpAny_pure ⟨plainId_quiet PyProof.Rows.F.plain_set_update_loop _, ih (i + 1) _ (by omega) lt (W.frame _ s' _ _ st' (Nat.le_succ _) fun b hb o e => ?_) ⟨z :: zs, hZ2, g.new hz⟩ fun s2 ys mv2 r1 r2 => ?_⟩
      · exact (sb.2 b fun y => out (y ▸ hb)).trans e
      · exact hR s2 ys (Moved.trans W.gtrans ((mv.mono more).then_heap (Nat.le_succ _) fun b o nb e => (sb.2 b fun y => nb (by rw [y]; exact List.mem_cons_self)).trans e) mv2) r1 r2
/-- a new set -/
theorem fresh {h : Heap} (ho : h.get? a = some { cls := .type "set", dict := none, data := .set #[] 0 (.fresh 0 0 (!w.params.followText "set-order")) }) : Txts P w h a [] :=
  ⟨_, #[], 0, _, ho, ⟨rfl, rfl, rfl⟩, rfl, fun e z => (by simp at z), .refl _, .nil, by decide, by rfl, .nil, by
    show w.params.followText "set-order" = true ∨ (!w.params.followText "set-order") = true
    cases w.params.followText "set-order" <;> simp⟩
abbrev newSet (w : World) : Obj := { cls := .type "set", dict := none, data := .set #[] 0 (.fresh 0 0 (!w.params.followText "set-order")) }
/-- set(l), l a list of texts -/
theorem made {l : Addr} {items : Array Value} {xs : List Str} {Q : Value → Shared → Prop} (hh : A.handled = none) (hl : s.heap.IsList l items) (hi : StrsAre items.toList xs) (room : xs.length + 1 < scanBound)
    (q : ∀ (h' : Heap) (tk : Nat) ys, Txts P w h' s.heap.objs.size ys → Sofar xs xs.length ys → (∀ b o, s.heap.get? b = some o → h'.get? b = some o) → Q (.ref s.heap.objs.size) { s with heap := h', toks := tk }) :
    wpAny (model P w) A (call (.type "set") [.ref l]) Q E s := by
  have isz : items.size = xs.length := by rw [← StrsAre.len_eq hi, Array.length_toList]
  obtain ⟨c, tl, hmro⟩ := PySem.F.called_set.mro
  have g1 := PySem.F.called_set.made
  have g2 := PySem.F.called_set.sub
  have g3 := PySem.F.called_set.notType
  have g4 := PySem.F.called_set.canCreate
  have g5 := PySem.F.typeCall_set_1 (.ref l)
  refine wpAny_call (codeAny_of_tree ?_)
  show wpAny _ _ (callAny (.type "set") _) _ _ _
  refine wpAny_pure ⟨Code.quiet_builtin _ (by decide +kernel), codeAny_builtin PySem.F.entry_type_call ?_⟩
  rw [Around.under_plain (weight_type_call_type "set" [.ref l] []) rfl]
  repeat (any_goals (first | assumption | wp_step))
  refine codeAny_mono (code_set_led1 (.ref l) (E := E) (Q₁ := fun ob s₁ => ob = .ref s.heap.objs.size ∧ s₁ = { s with heap := s.heap.push (newSet w) }) ⟨rfl, rfl⟩) fun r s₁ hr => ?_
  cases r with
  | error e => exact hr
  | ok fl =>
    cases fl with
    | ret ob =>
      obtain ⟨rfl, rfl⟩ := hr
      have hS : (s.heap.push (newSet w)).get? s.heap.objs.size = some (newSet w) := Heap.get?_push_size _ rfl
      have hT : Shared.TypeIs { s with heap := s.heap.push (newSet w) } (.ref s.heap.objs.size) "set" := ⟨_, hS, rfl⟩
      have g6 := PySem.F.called_set.init.lookup
      have g7 := PySem.F.called_set.init.bind (.ref s.heap.objs.size)
      repeat (any_goals (first | assumption | wp_step))
      refine codeAny_mono (codeAny_call_builtin (R := wants (fun r s₂ => r = .none ∧ ∃ h' tk ys, s₂ = { s with heap := h', toks := tk } ∧ Txts P w h' s.heap.objs.size ys ∧ Sofar xs xs.length ys ∧ ∀ b o, s.heap.get? b = some o → h'.get? b = some o) E)
        PySem.F.called_set.init.plain PySem.F.entry_set_init (check_set_init_1 hT ?_)) fun r₂ s₂ hr₂ => ?_
      · obtain ⟨⟨ocls, odict, odata, oslots⟩, hol, hcl, nl, hdl⟩ := hl
        simp only at hcl hdl
        subst hcl hdl
        have hol2 : (s.heap.push (newSet w)).get? l = some { cls := .type "list", dict := odict, data := .seq items nl, slots := oslots } := Heap.get?_push_of_some _ hol
        have t1 := PySem.F.sub_list_set
        have t2 := PySem.F.sub_list_frozenset
        have t3 : (Value.type "list" == Value.type "dict") = false := by decide
        have hl1 : (s.heap.push (newSet w)).IsList l items := ⟨_, hol2, rfl, nl, rfl⟩
        unfold Builtin.«set.__init__» noKeywords Builtin.Frozenset.updateFrom
        generalize hPI : pyIter = PI
        wp_walk
        subst hPI
        refine wpAny_pyIter_list hl1 (wpAny_bind (wpAny_runValue ?_))
        have lS : l < s.heap.objs.size := Heap.lt_size hol
        have h3 : A.in1.in1.in1.handled = none := by simp [hh]
        have z1 : (s.heap.push (newSet w)).objs.size = s.heap.objs.size + 1 := Heap.size_push ..
        have nI : l ≠ (s.heap.push (newSet w)).objs.size := by
          rw [z1]
          exact Nat.ne_of_lt (Nat.lt_succ_of_lt lS)
        have nS : s.heap.objs.size ∉ [(s.heap.push (newSet w)).objs.size, l] := by
          rw [z1]
          simp only [List.mem_cons, List.not_mem_nil, or_false, not_or]
          exact ⟨Nat.ne_of_lt (Nat.lt_succ_self _), Nat.ne_of_gt lS⟩
        have vl : ∀ (i : Nat) (v : Value), items[i]? = some v → ∃ z u, xs[i]? = some z ∧ v = .str z u := fun i v hv => by
          obtain ⟨u, e⟩ := SS.strs_at hi i v (by rw [Array.getElem?_toList]; exact hv)
          have lt : i < xs.length := by
            obtain ⟨b, _⟩ := Array.getElem?_eq_some_iff.mp hv
            omega
          exact ⟨xs.getD i Str.empty, u, by rw [List.getD_eq_getElem?_getD, List.getElem?_eq_getElem lt]; rfl, e⟩
        refine puts ((Walks.list h3 _ l nI items).toS) s.heap.objs.size nS xs isz (by omega) vl (items.size - 0) 0 _ (by omega) (Nat.zero_le _) ⟨⟨_, Heap.get?_push_size _ rfl, rfl, rfl⟩, (hl1.push _)⟩ ?hS0 ?hR
        case hS0 => exact ⟨[], fresh (Heap.get?_push_of_some _ hS), Nat.le_refl _, fun z => Iff.rfl⟩
        case hR =>
          rintro ⟨h', g', d', tk', os'⟩ ys mv r1 r2
          obtain rfl : g' = s.gens := mv.gens
          obtain rfl : d' = s.drawn := mv.drawn
          obtain rfl : os' = s.os := mv.os
          show wpAny _ _ _ _ _ _
          refine wpAny_pure (wpAny_pure ⟨rfl, h', tk', ys, rfl, r1, isz ▸ r2, fun b o e => ?_⟩)
          have lb := Heap.lt_size e
          refine mv.heap b o ?_ (Heap.get?_push_of_some _ (Heap.get?_push_of_some _ e))
          simp only [List.mem_cons, List.not_mem_nil, or_false, not_or]
          exact ⟨Nat.ne_of_lt lb, by rw [z1]; exact Nat.ne_of_lt (Nat.lt_succ_of_lt lb)⟩
      · cases r₂ with
        | error e => exact hr₂
        | ok fl₂ =>
          cases fl₂ with
          | ret r =>
            obtain ⟨rfl, h', tk, ys, rfl, r1, r2, r3⟩ := hr₂
            repeat (any_goals (first | assumption | wp_step))
            exact q _ _ _ r1 r2 r3
          | _ => exact hr₂.elim
    | _ => exact hr.elim
theorem strs_map : ∀ (l : List (Int × Value)), (∀ e ∈ l, Fine P w e) → StrsAre (l.map (·.2)) (l.map txt)
  | [], _ => .nil
  | e :: l, f => by
    obtain ⟨z, u, e1, _⟩ := f e (List.mem_cons_self ..)
    have t := strs_map l fun x hx => f x (List.mem_cons_of_mem _ hx)
    have e2 : txt e = z := by
      unfold txt
      rw [e1]
    rw [List.map_cons, List.map_cons, e1, e2]
    exact .cons z u t
theorem strs_perm {us vs : List Value} (p : us.Perm vs) : ∀ {xs : List Str}, StrsAre vs xs → ∃ ys, StrsAre us ys ∧ ys.Perm xs := by
  induction p with
  | nil => exact fun h => ⟨_, h, .refl _⟩
  | cons x p ih =>
    intro xs h
    cases h with
    | cons n t hr =>
      obtain ⟨ys, h1, h2⟩ := ih hr
      exact ⟨_, .cons _ _ h1, h2.cons _⟩
  | swap x y l =>
    intro xs h
    cases h with
    | cons n t hr =>
      cases hr with
      | cons n2 t2 hr2 => exact ⟨_, .cons _ _ (.cons _ _ hr2), .swap _ _ _⟩
  | trans p1 p2 ih1 ih2 =>
    intro xs h
    obtain ⟨ys, h1, h2⟩ := ih2 h
    obtain ⟨zs, h3, h4⟩ := ih1 h1
    exact ⟨zs, h3, h4.trans h2⟩
/-- sorted(a), a a set of texts -/
theorem sortedOf {Q : Value → Shared → Prop} (R : Txts P w s.heap a zs) (hh : A.handled = none) (few : zs.length < 64)
    (q : ∀ s' p (out : Array Value) (c : Nat) (ys : List Str), (∀ b o, s.heap.get? b = some o → s'.heap.get? b = some o) → s'.gens = s.gens → s'.os = s.os → s.heap.objs.size ≤ p →
      s'.heap.get? p = some (seqObj "list" out c) → StrsAre out.toList ys → ys.Perm zs → sortedS ys = true → Q (.ref p) s') :
    wpAny (model P w) A (call (.builtin "sorted") [.ref a]) Q E s := by
  obtain ⟨ob, rows, ep, tab, ho, hex, hd, ff, pz, nd, lt, ft, ri, le⟩ := R
  have hsz : rows.toList.length = zs.length := by
    rw [← pz.length_eq, List.length_map]
  refine Calls.call_function_entry kind_sorted plain_sorted entry_sorted (args_sorted1 _) ?_
  unfold Builtin.«sorted»
  refine wpAny_bind (m := checkCount "sorted" 1 1 _) (wpAny_pure (wpAny_bind (collect_set (A := A.in1) hh ⟨ob, ho, hex.1, hd⟩ ft lt ri le fun s1 vs k1 z1 gn1 os1 pm => ?_)))
  have vl : vs.length < 64 := by
    rw [pm.length_eq, List.length_map, hsz]
    exact few
  obtain ⟨xs, hx, px⟩ := strs_perm pm (strs_map rows.toList ff)
  refine wpAny_bind (wpAny_newList ?_ (by rw [sizeLine_eq]; omega))
  have oL : (s1.heap.push (seqObj "list" vs.toArray 0)).get? s1.heap.objs.size = some (seqObj "list" vs.toArray 0) := Heap.get?_push_size _ rfl
  refine wpAny_bind (wpAny_holding (wpAny_call_entry slot_list_sort ⟨_, oL, rfl⟩ entry_list_sort
    (list_sort_treeK strKind_oneLt oL hx.keysOf (fun v₁ v₂ rest e => keyKind_strs (by rw [← e]; exact hx)) vl fun st hp hs => ?_) (args_list_sort _)))
  obtain ⟨ys, y1, y2, y3⟩ := sorted_out_str hx hp hs
  obtain ⟨c, hc⟩ := sortedHeap_at (vs := vs) (out := (arrOf st).map (·.2)) oL
  refine ⟨_, rfl, wpAny_pure ⟨_, rfl, q _ s1.heap.objs.size _ c ys (fun b u e => ?_) gn1 os1 z1 hc y1 (y2.trans (px.trans pz)) y3⟩⟩
  have e1 := k1 b u e
  have lb := Heap.lt_size e1
  show (sortedHeap (s1.heap.push (seqObj "list" vs.toArray 0)) s1.heap.objs.size vs ((arrOf st).map (·.2))).get? b = some u
  rw [sortedHeap_old (Nat.ne_of_lt lb) (by rw [size_push']; exact Nat.lt_succ_of_lt lb)]
  exact Heap.get?_push_of_some _ e1
end
/-! the same over the layer -/
def TxO (P : Program) (w : World) (a : Addr) (zs : List Str) : HO := .ext fun h => Txts P w h a zs
theorem txo_ok {P : Program} {w : World} {H : Hp} {h : Heap} {a : Addr} {zs : List Str} (R : Txts P w h a zs) : ObjOk P w H h a (TxO P w a zs) := by
  have ⟨ob, _, _, _, ho, _⟩ := R
  exact ⟨R, ⟨ob, ho⟩, fun h1 h2 p k => p.at k⟩
def rSetOfS (K : PySem.W.Frag) (P : Program) (w : World) : List V → Hp → VK → Prop := fun vs H Q => ∃ (l : Addr) (xs : List Str), vs = [V.ref l] ∧ SqL K H l (xs.map V.str) ∧ xs.length ≤ 1000 ∧
  ∀ a zs, H a = none → zs.Nodup → (∀ z, z ∈ zs ↔ z ∈ xs) → zs.length ≤ xs.length → Q (.ref a) (upd H a (TxO P w a zs))
def rSortedSetS (P : Program) (w : World) : List V → Hp → VK → Prop := fun vs H Q => ∃ (a : Addr) (zs : List Str), vs = [V.ref a] ∧ H a = some (TxO P w a zs) ∧ zs.length < 64 ∧
  ∀ (ys : List Str) p, ys.Perm zs → sortedS ys = true → H p = none → Q (.ref p) (upd H p (.lst (ys.map V.str)))
section
variable {X : Cx}
theorem cr_setOfS (hc : X.calm = true) : CallR X (.type "set") (rSetOfS X.K X.prog X.w) := by
  intro pins s σ H vs us Q I r h
  obtain ⟨l, xs, rfl, hl, room, q⟩ := h
  rw [Vals.ref1 r]
  obtain ⟨its, rv, pl, hz⟩ := I.list hl
  refine made (P := X.prog) (w := X.w) (I.ok.hd hc) pl.isList (by simpa using rv.strs) (by unfold scanBound; omega) fun h' tk ys r1 r2 k => ?_
  have r3 : ys.Nodup := by
    obtain ⟨_, _, _, _, _, _, _, _, _, nd, _⟩ := r1
    exact nd
  refine ⟨.ref s.heap.objs.size, upd H s.heap.objs.size (TxO X.prog X.w s.heap.objs.size ys), I.laid (t' := tk) k (Nat.le_refl _) (txo_ok r1), rfl, q _ ys (I.hok.fresh (Nat.le_refl _)) r3 (fun z => ?_) r2.few⟩
  rw [r2.mem, List.take_length]
theorem cr_sortedSetS (hc : X.calm = true) : CallR X (.builtin "sorted") (rSortedSetS X.prog X.w) := by
  intro pins s σ H vs us Q I r h
  obtain ⟨a, zs, rfl, ha, few, q⟩ := h
  have R : Txts X.prog X.w s.heap a zs := (I.hok a _ ha).1
  rw [Vals.ref1 r]
  refine sortedOf R (I.ok.hd hc) few fun s' p out c ys k g o hp hg hs pm so => ?_
  have hlen : (ys.map V.str).length ≤ sizeLine := by
    rw [List.length_map, pm.length_eq, sizeLine_eq]
    omega
  have hn : H p = none := I.hok.fresh hp
  have J : Inv X pins σ (upd H p (.lst (ys.map V.str))) { s with heap := s'.heap, gens := s'.gens, drawn := s'.drawn, toks := s'.toks } :=
    I.call (ch := []) (Un.laid k hp hn) (I.hok.laid k hp ⟨hlen, out.toList, c, vals_of_strs hs, by rw [Array.toArray_toList]; exact hg⟩) (by rw [g]; exact I.bare) (fun _ z => nomatch z)
  have e : s' = { s with heap := s'.heap, gens := s'.gens, drawn := s'.drawn, toks := s'.toks } := by
    cases s'
    cases s
    cases o
    rfl
  rw [e]
  exact ⟨.ref p, _, J, rfl, q ys p pm so hn⟩
end
end Xs
namespace Xk
open PySem PySem.Spec PyProof.Rows L2
section
variable {K : PySem.W.Frag} {P : Program} {w : World} {X : Cx} {H : Hp} {Q : VK}
theorem k_setOfS (hc : X.calm = true) (e : X.K = K) (e1 : X.prog = P) (e2 : X.w = w) : CallR X (.type "set") (Xs.rSetOfS K P w) := e ▸ e1 ▸ e2 ▸ Xs.cr_setOfS hc
theorem k_sortedSetS (hc : X.calm = true) (e1 : X.prog = P) (e2 : X.w = w) : CallR X (.builtin "sorted") (Xs.rSortedSetS P w) := e1 ▸ e2 ▸ Xs.cr_sortedSetS hc
theorem x_setOfS {l : Addr} {xs : List Str} (h : SqL K H l (xs.map V.str)) (hl : xs.length ≤ 1000) (k : ∀ a H2 zs, Fr a H → Same H H2 → H2 a = some (Xs.TxO P w a zs) → zs.Nodup → (∀ z, z ∈ zs ↔ z ∈ xs) → zs.length ≤ xs.length → Q (.ref a) H2) : Xs.rSetOfS K P w [.ref l] H Q :=
  ⟨l, xs, rfl, h, hl, fun a zs ha h1 h2 h3 => k a _ zs ⟨ha⟩ (same_new ha) upd_same h1 h2 h3⟩
theorem x_sortedSetS {a : Addr} {zs : List Str} (h : H a = some (Xs.TxO P w a zs)) (hl : zs.length < 64) (k : ∀ p H2 (ys : List Str), ys.Perm zs → sortedS ys = true → Fr p H → Same H H2 → H2 p = some (.lst (ys.map V.str)) → Q (.ref p) H2) : Xs.rSortedSetS P w [.ref a] H Q :=
  ⟨a, zs, rfl, h, hl, fun ys p h1 h2 hp => k p _ ys h1 h2 ⟨hp⟩ (same_new hp) upd_same⟩
end
end Xk

namespace Xk
open PySem PySem.Spec PyProof.Rows L2
section
variable {X : Cx}
/-- sorted(xs) of a list of data of one shape -/
def rSortX (K : PySem.W.Frag) : List V → Hp → VK → Prop := fun vs H Q => ∃ (a : Addr) (bs : List (V × PyData)), vs = [V.ref a] ∧ SqL K H a (bs.map (·.1)) ∧ (∀ b ∈ bs, Dp K H b.1 b.2 ∧ b.2.depth ≤ 9) ∧
  PySem.W.AllAlike (bs.map (·.2)) ∧ PySem.W.Sortable (bs.map (·.2)) ∧ ∀ p, H p = none → Q (.ref p) (upd H p (.lst ((bs.mergeSort (PySem.W.dataLe false (·.2))).map (·.1))))
theorem eachV {R : Value → PyData → Prop} : ∀ {its : List Value} {bs : List (V × PyData)}, Vals (bs.map (·.1)) its → (∀ b ∈ bs, ∀ u, RelV b.1 u → R u b.2) → PySem.W.EachIs (fun u (b : V × PyData) => RelV b.1 u ∧ R u b.2) its bs
  | its, [], h, _ => by cases h; exact .nil
  | its, b :: r, h, hr => by
    cases h with
    | cons h1 h2 => exact .cons ⟨h1, hr b (List.mem_cons_self ..) _ h1⟩ (eachV h2 fun c hc => hr c (List.mem_cons_of_mem _ hc))
theorem eachB {R : Value → PyData → Prop} : ∀ {its : List Value} {bs : List (V × PyData)}, PySem.W.EachIs (fun u (b : V × PyData) => RelV b.1 u ∧ R u b.2) its bs → Vals (bs.map (·.1)) its
  | _, _, .nil => .nil
  | _, _, .cons h t => .cons h.1 (eachB t)
theorem k_sortX0 (hu : X.A.units + 64 < cLine) : CallR X (.builtin "sorted") (rSortX X.K) := by
  intro pins s σ H vs us Q I r h
  obtain ⟨a, bs, rfl, hs, hd, hal, hk, q⟩ := h
  obtain ⟨its, rv, hl, hz⟩ := I.list hs
  rw [Vals.ref1 r]
  have e := eachV (R := fun u d => ∃ as, Reads s.heap u d as) rv fun b hb u ru => Dp.reads I b.2 b.1 u (hd b hb).1 ru
  have hlen : bs.length ≤ sizeLine := by rw [List.length_map] at hz; exact hz
  refine PySem.W.sorted_data (enc := fun b : V × PyData => b.2) hl.isList e (e.mono fun _ _ h => h.2) hal hk hlen (fun b hb => ?_) fun out ho eo => ?_
  · have := (hd b hb).2
    omega
  · obtain ⟨ep, he'⟩ := PyProof.Rows.sortedAll_at s.heap its out.toArray
    have hlen2 : ((bs.mergeSort (PySem.W.dataLe false (·.2))).map (·.1)).length ≤ sizeLine := by rw [List.length_map, List.length_mergeSort]; exact hlen
    exact ⟨.ref _, upd H (s.heap.objs.size + 1) (.lst ((bs.mergeSort (PySem.W.dataLe false (·.2))).map (·.1))), I.laid (t' := s.toks) (fun _ _ => PyProof.Rows.sortedAll_old) (Nat.le_succ _) ⟨hlen2, out, ep, eachB (R := fun u d => ∃ as, Reads s.heap u d as) eo, he'⟩, rfl, q _ (I.hok.fresh (Nat.le_succ _))⟩
/-- data compared -/
def rLtD (K : PySem.W.Frag) : R2 := fun x y H Q => ∃ d e, Dp K H x d ∧ Dp K H y e ∧ PySem.W.alike d e = true ∧ d ≠ .none ∧ d.depth ≤ 60 ∧ Q (.bl (PySem.W.dataLt d e)) H
def rLeD (K : PySem.W.Frag) : R2 := fun x y H Q => ∃ d e, Dp K H x d ∧ Dp K H y e ∧ PySem.W.alike d e = true ∧ d ≠ .none ∧ d.depth ≤ 60 ∧ Q (.bl (!PySem.W.dataLt e d)) H
theorem k_ltD0 (hu : X.A.units + 64 < cLine) : OpR X (compareOp .Lt) (rLtD X.K) := by
  intro pins s σ H x y v u Q I rx ry h
  obtain ⟨d, e, hd, he, ha, hn, hz, q⟩ := h
  obtain ⟨as, r1⟩ := Dp.reads I d x v hd rx
  obtain ⟨bs, r2⟩ := Dp.reads I e y u he ry
  exact PySem.W.rcLt_alike d e X.A s v u as bs r1 r2 ha hn (by have := Nat.min_le_left d.depth e.depth; omega) X.prog X.w X.xe (EP X pins σ Q) ⟨.bl _, H, I, rfl, q⟩
theorem k_leD0 (hu : X.A.units + 64 < cLine) : OpR X (compareOp .LtE) (rLeD X.K) := by
  intro pins s σ H x y v u Q I rx ry h
  obtain ⟨d, e, hd, he, ha, hn, hz, q⟩ := h
  obtain ⟨as, r1⟩ := Dp.reads I d x v hd rx
  obtain ⟨bs, r2⟩ := Dp.reads I e y u he ry
  exact PySem.W.rcLe_alike d e X.A s v u as bs r1 r2 ha hn (by have := Nat.min_le_left d.depth e.depth; omega) X.prog X.w X.xe (EP X pins σ Q) ⟨.bl _, H, I, rfl, q⟩
theorem k_sortX {K : PySem.W.Frag} (hu : X.A.units + 64 < cLine) (e : X.K = K) : CallR X (.builtin "sorted") (rSortX K) := e ▸ k_sortX0 hu
theorem k_ltD {K : PySem.W.Frag} (hu : X.A.units + 64 < cLine) (e : X.K = K) : OpR X (compareOp .Lt) (rLtD K) := e ▸ k_ltD0 hu
theorem k_leD {K : PySem.W.Frag} (hu : X.A.units + 64 < cLine) (e : X.K = K) : OpR X (compareOp .LtE) (rLeD K) := e ▸ k_leD0 hu
end
end Xk

/-! dicts whose keys are tuples: setdefault, sorted -/
namespace Xk
open PySem PySem.Spec PyProof.Rows L2
section
variable {X : Cx} {pins : List (Addr × Obj)} {σ : L2.St} {H : Hp} {s : Shared} {a b : Addr} {r : Value} {d : V} {k : List Key} {A : Around} {E : Value → Shared → Prop}
theorem d_setdT {kvs : List (List Key × V)} {Q : Value → Shared → Prop} (hu : A.units + 1 < cLine) (I : Inv X pins σ H s) (e : H a = some (.dT kvs)) (eb : H b = some (.tup (k.map kV))) (rd : RelV d r) (hl : kvs.length < sizeLine)
    (h1 : ∀ v, valV kvs k = some v → ∀ (w' : Value) (s' : Shared), Inv X pins σ H s' → RelV v w' → Q w' s') (h2 : valV kvs k = none → ∀ (w' : Value) (s' : Shared), Inv X pins σ (upd H a (.dT (putK kvs k d))) s' → RelV d w' → Q w' s') :
    wpAny (model X.prog X.w) A (call (.builtin "dict.setdefault") [.ref a, .ref b, r]) Q E s := by
  obtain ⟨z, hd, xs, rel, dd⟩ := dt_of I.hok e
  have hz : xs.length ≤ sizeLine := by rw [← Paired.length rel]; exact z
  refine call_setdefault_heap (knd := tupleKind (mixKind X.prog X.w)) (hsz := hz) (tupleKind_room_in1 hu) (key_of I.hok eb) hd dd (fun p hp => ?_) fun hn h' dd' hs => ?_
  · have q := rel.val k
    rw [hp] at q
    cases q0 : valV kvs k with
    | none =>
      rw [q0] at q
      exact (show False from q).elim
    | some v0 =>
      rw [q0] at q
      exact h1 v0 q0 _ _ (I.tok _) q
  · have q := rel.val k
    rw [hn] at q
    cases q0 : valV kvs k with
    | some v0 =>
      rw [q0] at q
      exact (show False from q).elim
    | none =>
      have hl2 : (putK kvs k d).length ≤ sizeLine := by
        have := length_putK kvs k d
        omega
      obtain ⟨q, es, ep, hq, g2, g3, g4, _, g5⟩ := dd'
      refine h2 q0 _ _ (d_write I (by rw [e]; exact True.intro) hs ⟨q, hq⟩ ⟨hl2, hd, _, (rel.put k eb rd).keeps fun c ys ec => ?_, q, es, ep, hq, g2, g3, g4, g5⟩) rd
      rw [upd_ne (ne_of ec e (fun z => nomatch z))]
      exact ec
end
/-- d.setdefault(y, z), tuple keys -/
def rDSetT (a : Addr) (y z : V) (Q : VK) (H3 : Hp) : Prop := ∃ (kvs : List (List Key × V)) (k : List Key) (b : Addr), H3 a = some (.dT kvs) ∧ y = .ref b ∧ H3 b = some (.tup (k.map kV)) ∧ kvs.length < sizeLine ∧
  (∀ v, valV kvs k = some v → Q v H3) ∧ (valV kvs k = none → Q z (upd H3 a (.dT (putK kvs k z))))
def tDSetT (td ty tx : TE) : TE := fun σ H Q => td σ H fun x H1 => ∃ a kvs, x = .ref a ∧ H1 a = some (.dT kvs) ∧ ty σ H1 fun y H2 => tx σ H2 fun z H3 => rDSetT a y z Q H3
section
variable {X : Cx} {o e f : Expr} {td ty tx : TE} {apos cpos : Pos}
theorem pe_dsetT (hu : X.A.units + 1 < cLine) (ho : PE X o td) (he : PE X e ty) (hf : PE X f tx) (m : M2 X o "setdefault" apos e f cpos) : PE X (.Call (.Attribute o "setdefault" apos) [e, f] [] cpos) (tDSetT td ty tx) := by
  refine ⟨fun pins s σ H Q I h => ?_⟩
  refine wpAny_Call_method m.base m.few m.line PySem.F.plainAttrs_dict PySem.F.slot_dict_setdefault PySem.F.type_dict_setdefault (thn (ho.run pins s σ H _ I h) fun u s1 ⟨x, H1, I1, rx, a, kvs, ex, d, q1⟩ => ?_)
  subst ex
  obtain rfl : u = Value.ref a := rx
  have hty : s1.TypeIs (.ref a) "dict" := by
    obtain ⟨_, _, xs, _, dd⟩ := dt_of I1.hok d
    exact dd.typeIs
  have hnd : ∀ b, Value.ref a = .ref b → ∃ ob, s1.heap.get? b = some ob ∧ ob.dict = none := fun b q => by
    cases q
    obtain ⟨_, _, xs, _, ob, _, _, h1, h2, _⟩ := dt_of I1.hok d
    exact ⟨ob, h1, h2.2.1⟩
  refine ⟨hty, hnd, ?_⟩
  rw [m.trees]
  refine Calls.callWith_builtin rfl (Calls.evalArgs_plain (Calls.spliced_cons (thn (he.run pins s1 σ H1 _ I1 q1) fun iv s2 ⟨y, H2, I2, ry, q2⟩ =>
    Calls.spliced_cons (thn (hf.run pins s2 σ H2 _ I2 q2) fun fv s3 ⟨z, H3, I3, rz, kvs, k, b, ea, ey, eb, hl, q3, q4⟩ => Calls.spliced_nil ?_))))
  subst ey
  obtain rfl : iv = Value.ref b := ry
  exact d_setdT hu I3 ea eb rz hl (fun v hv w' s4 I4 rw' => ⟨v, _, I4, rw', q3 v hv⟩) fun hn w' s4 I4 rw' => ⟨z, _, I4, rw', q4 hn⟩
end
/-- sorted(d), the keys tuples of ints: the keys' own tuples, ascending -/
def rSortT (xs : List V) (H : Hp) (Q : VK) : Prop := ∃ (d : Addr) (kvs : List (List Key × V)) (ks : List (List Int)), xs = [.ref d] ∧ H d = some (.dT kvs) ∧ kvs.map (·.1) = ks.map (fun k => k.map Sum.inl) ∧ (∀ k ∈ ks, k ≠ []) ∧ ks.length ≤ 1000 ∧
  ∀ (p : Addr) (zs : List (Addr × List Int)), H p = none → (zs.map (·.2)).Perm ks → (zs.map (·.2)).Pairwise (· ≤ ·) → (∀ z ∈ zs, H z.1 = some (.tup (z.2.map V.int))) → Q (.ref p) (upd H p (.lst (zs.map fun z => V.ref z.1)))
theorem kt_list {H : Hp} : ∀ {kvs : List (List Key × V)} {ts : List (List Key × Addr × Value)} {ks : List (List Int)}, KT H kvs ts → kvs.map (·.1) = ks.map (fun k => k.map Sum.inl) →
    ∃ L : List (Addr × List Int), L.map (·.1) = ts.map (fun x => x.2.1) ∧ L.map (·.2) = ks ∧ ∀ e ∈ L, H e.1 = some (.tup (e.2.map V.int))
  | [], _, ks, r, e => by
    cases r
    cases ks with
    | nil => exact ⟨[], rfl, rfl, fun e he => by cases he⟩
    | cons k r => cases e
  | p :: kvs, _, ks, r, e => by
    cases ks with
    | nil => cases e
    | cons k ks =>
      rw [List.map_cons, List.map_cons] at e
      injection e with e1 e2
      cases r with
      | @cons _ q _ qs h t =>
        obtain ⟨L, h1, h2, h3⟩ := kt_list t e2
        refine ⟨(q.2.1, k) :: L, by rw [List.map_cons, List.map_cons, h1], by rw [List.map_cons, h2], fun x hx => ?_⟩
        rcases List.mem_cons.mp hx with rfl | hx
        · have z := h.2.1
          rw [e1, List.map_map] at z
          exact z
        · exact h3 x hx
theorem reads_ints {h : Heap} : ∀ {ns : List Int} {us : List Value}, Vals (ns.map V.int) us → ReadsAll h us (ns.map PyData.int) []
  | [], _, r => by
    cases r
    exact .nil
  | n :: ns, _, r => by
    cases r with
    | cons r1 r2 =>
      obtain ⟨t, rfl⟩ := r1
      exact ReadsAll.cons (Reads.int n t) (reads_ints r2)
theorem tup_dataLe (x : Addr × List Int → List Int) : PySem.W.dataLe false (fun b : Addr × List Int => PyData.tuple ((x b).map .int)) = fun p q => decide (x p ≤ x q) := by
  rw [PySem.W.dataLe_eq]
  funext p q
  show (!PySem.W.dataLt _ _) = _
  rw [PySem.W.dataLt_tuple]
  have h := PySem.W.dataLt_ints (x q) (x p)
  unfold PySem.W.rowLt at h
  rw [h, ← decide_not]
  exact decide_eq_decide.mpr List.not_lt
section
variable {X : Cx}
theorem k_sortT (hcalm : X.calm = true) (hu : X.A.units + 64 < cLine) : CallR X (.builtin "sorted") rSortT := by
  intro pins s σ H xs us Q I r h
  obtain ⟨d, kvs, ks, rfl, hd, hks, hne, hl, q⟩ := h
  obtain ⟨u, rfl, rx⟩ := vals1 r
  cases rx
  obtain ⟨z, hs, ts, pr, o, es, ep, ho, hx, hdt, he, hn⟩ := (show ObjOk X.prog X.w H s.heap d (.dT kvs) from I.hok d _ hd)
  have l1 : es.size = ts.length := size_of_entries he
  have l2 : kvs.length = ts.length := Paired.length pr
  obtain ⟨L, hL1, hL2, hL3⟩ := kt_list pr hks
  have lL : L.length = ts.length := by
    have z := congrArg List.length hL1
    rw [List.length_map, List.length_map] at z
    exact z
  have lk : L.length ≤ 1000 := by
    have z := congrArg List.length hL2
    rw [List.length_map] at z
    omega
  have h16 : es.size ≤ sizeLine := by rw [l1, ← lL, sizeLine_eq]; omega
  refine Calls.call_function_entry PyProof.Rows.kind_sorted PyProof.Rows.plain_sorted PyProof.Rows.entry_sorted (PyProof.Rows.args_sorted1 _) ?_
  unfold Builtin.«sorted»
  refine wpAny_bind (m := checkCount "sorted" 1 1 _) (wpAny_pure ?_)
  refine wpAny_bind (PySem.W.kdu_collect (A := X.A.in1) (kdl_raw hs hx hdt) (I.ok.hd hcalm) ho h16 fun h' tk acc hk hacc => ?_)
  have ea : acc.toList = L.map fun x => Value.ref x.1 := by
    have hl : acc.toList.length = ts.length := by rw [Array.length_toList, hacc.1]; exact l1
    have e2 : (L.map fun x => Value.ref x.1) = ts.map fun x => Value.ref x.2.1 := by
      have z := congrArg (List.map Value.ref) hL1
      rw [List.map_map, List.map_map] at z
      exact z
    rw [e2]
    apply List.ext_getElem?
    intro j
    rw [List.getElem?_map]
    cases hj : acc.toList[j]? with
    | none =>
      have h1 := List.getElem?_eq_none_iff.mp hj
      rw [List.getElem?_eq_none (by omega)]
      all_goals rfl
    | some v =>
      obtain ⟨en, hen, hv⟩ := hacc.2 j v (by rw [← Array.getElem?_toList]; exact hj)
      have qe := entry_at he j
      rw [hen] at qe
      cases hb : ts[j]? with
      | none =>
        rw [hb] at qe
        exact nomatch (show some en = none from qe)
      | some b =>
        rw [hb] at qe
        have e2 : en = entryOfKey (tupleKind (mixKind X.prog X.w)) b := Option.some.inj qe
        rw [hv, e2]
        all_goals rfl
  have I1 : Inv X pins σ H { s with heap := h', toks := tk } := I.kept hk
  have hal : acc.toList.length = L.length := by rw [ea, List.length_map]
  refine wpAny_bind (wpAny_newList ?_ (by rw [hal, sizeLine_eq]; omega))
  have hoL : (h'.push (seqObj "list" acc.toList.toArray 0)).get? h'.objs.size = some (seqObj "list" acc.toList.toArray 0) := Heap.get?_push_size _ rfl
  show wpAny _ _ _ _ _ { s with heap := h'.push (seqObj "list" acc.toList.toArray 0), toks := tk }
  have er : PySem.W.EachIs (fun (v : Value) (b : Addr × List Int) => v = .ref b.1 ∧ ∃ as, Reads (h'.push (seqObj "list" acc.toList.toArray 0)) v (PyData.tuple (b.2.map .int)) as ∧ h'.objs.size ∉ as) acc.toList L := by
    rw [ea]
    have key : ∀ M : List (Addr × List Int), (∀ e ∈ M, H e.1 = some (.tup (e.2.map V.int))) → PySem.W.EachIs (fun (v : Value) (b : Addr × List Int) => v = .ref b.1 ∧ ∃ as, Reads (h'.push (seqObj "list" (L.map fun x => Value.ref x.1).toArray 0)) v (PyData.tuple (b.2.map .int)) as ∧ h'.objs.size ∉ as) (M.map fun x => Value.ref x.1) M := by
      intro M
      induction M with
      | nil => exact fun _ => .nil
      | cons e M ih =>
        intro hM
        refine .cons ⟨rfl, [], ?_, List.not_mem_nil⟩ (ih fun x hx => hM x (List.mem_cons_of_mem _ hx))
        obtain ⟨_, its, r, o, h1, h2, n, h3⟩ := (show ObjOk X.prog X.w H h' e.1 (.tup (e.2.map V.int)) from I1.hok _ _ (hM e (List.mem_cons_self ..)))
        exact Reads.tuple (Heap.get?_push_of_some _ h1) h2 h3 (by simpa using reads_ints r)
    exact key L hL3
  have enc1 : PySem.W.AllAlike (L.map fun b => PyData.tuple (b.2.map .int)) := PySem.W.AllAlike.of fun b b' => by
    show PySem.W.alikeAll _ _ = true
    exact PySem.W.alike_ints _ _
  have enc2 : PySem.W.Sortable (L.map fun b => PyData.tuple (b.2.map .int)) := .inl fun d hd => by
    obtain ⟨b, hb, rfl⟩ := List.mem_map.mp hd
    have hb2 : b.2 ≠ [] := hne _ (by rw [← hL2]; exact List.mem_map_of_mem (f := fun e : Addr × List Int => e.2) hb)
    cases e : b.2 with
    | nil => exact absurd e hb2
    | cons x r => exact ⟨_, _, rfl⟩
  refine wpAny_bind (wpAny_holding (PySem.W.list_sort_data (s := { s with heap := h'.push (seqObj "list" acc.toList.toArray 0), toks := tk }) (R := fun (v : Value) (b : Addr × List Int) => v = .ref b.1) (enc := fun b => PyData.tuple (b.2.map .int)) hoL (er.mono fun _ _ h => h.1) (er.mono fun _ _ h => h.2) enc1 enc2 (by rw [sizeLine_eq]; omega) (fun b _ => ?_) fun out ho2 eo => ?_))
  · have : (PyData.tuple (b.2.map .int)).depth = 1 := by
      rw [PyData.depth, PySem.W.depth_ints]
    have hA : X.A.in1.units ≤ X.A.units + 2 := by
      show _ ≤ _
      first
        | exact Nat.le_refl _
        | exact Nat.le_succ _
        | simp [Around.in1]
        | omega
    omega
  · obtain ⟨e', he'⟩ := PyProof.Rows.sortedHeap_at (vs := acc.toList) (out := out.toArray) hoL
    rw [tup_dataLe] at eo
    have perm : (L.mergeSort fun p q => decide (p.2 ≤ q.2)).Perm L := List.mergeSort_perm ..
    have ev : out = (L.mergeSort fun p q => decide (p.2 ≤ q.2)).map fun x => Value.ref x.1 := by
      have key : ∀ {o : List Value} {M : List (Addr × List Int)}, PySem.W.EachIs (fun (v : Value) (b : Addr × List Int) => v = .ref b.1) o M → o = M.map fun x => Value.ref x.1 := fun e => by
        induction e with
        | nil => rfl
        | cons h t ih => rw [List.map_cons, ← ih, h]
      exact key eo
    have pw : (L.mergeSort fun p q => decide (p.2 ≤ q.2)).Pairwise fun p q => p.2 ≤ q.2 := by
      refine (List.pairwise_mergeSort (fun a b c h1 h2 => ?_) (fun a b => ?_) L).imp fun h => of_decide_eq_true h
      · exact decide_eq_true (List.le_trans (of_decide_eq_true h1) (of_decide_eq_true h2))
      · rw [Bool.or_eq_true]
        rcases List.le_total a.2 b.2 with h | h
        · exact .inl (decide_eq_true h)
        · exact .inr (decide_eq_true h)
    generalize (L.mergeSort fun p q => decide (p.2 ≤ q.2)) = zs at *
    have lz : (zs.map fun z => V.ref z.1).length ≤ sizeLine := by rw [List.length_map, perm.length_eq, sizeLine_eq]; omega
    have vz : Vals (zs.map fun z => V.ref z.1) out := by
      rw [ev]
      have key := vals_refs (zs.map fun z => z.1)
      rw [List.map_map, List.map_map] at key
      exact key
    refine wpAny_pure ⟨_, rfl, .ref h'.objs.size, upd H h'.objs.size (.lst (zs.map fun z => V.ref z.1)), I1.laid (t' := tk) (fun b u e => ?_) (Nat.le_refl _)
      (show ObjOk X.prog X.w _ _ _ (.lst (zs.map fun z => V.ref z.1)) from ⟨lz, out, e', vz, he'⟩), rfl, q _ zs (I1.hok.fresh (Nat.le_refl _)) (by rw [← hL2]; exact perm.map _) (by rw [List.pairwise_map]; exact pw) fun z hz => hL3 z (perm.mem_iff.mp hz)⟩
    have hb : b < h'.objs.size := Heap.lt_size e
    rw [PyProof.Rows.sortedHeap_old (Nat.ne_of_lt hb) (by rw [size_push']; exact Nat.lt_succ_of_lt hb)]
    exact Heap.get?_push_of_some _ e
end
/-! ### set(xs) of a list of ints -/
abbrev nset (w : World) : Obj := { cls := .type "set", dict := none, data := .set #[] 0 (.fresh 0 0 (!w.params.followText "set-order")) }
section
variable {P : Program} {w : World} {A : Around} {E : Value → Shared → Prop} {s : Shared}
theorem madeI {l : Addr} {items : Array Value} {xs : List Int} {Q : Value → Shared → Prop} (hh : A.handled = none) (hl : s.heap.IsList l items) (hi : IntsAre items.toList xs) (room : xs.length + 1 < scanBound)
    (q : ∀ (h' : Heap) (tk c : Nat), SetR w h' s.heap.objs.size (fun j => decide (j ∈ xs)) c → c ≤ xs.length → (∀ b o, s.heap.get? b = some o → h'.get? b = some o) → Q (.ref s.heap.objs.size) { s with heap := h', toks := tk }) :
    wpAny (model P w) A (call (.type "set") [.ref l]) Q E s := by
  have isz : items.size = xs.length := by rw [← IntsAre.length hi, Array.length_toList]
  obtain ⟨c, tl, hmro⟩ := PySem.F.called_set.mro
  have g1 := PySem.F.called_set.made
  have g2 := PySem.F.called_set.sub
  have g3 := PySem.F.called_set.notType
  have g4 := PySem.F.called_set.canCreate
  have g5 := PySem.F.typeCall_set_1 (.ref l)
  refine wpAny_call (codeAny_of_tree ?_)
  show wpAny _ _ (callAny (.type "set") _) _ _ _
  refine wpAny_pure ⟨Code.quiet_builtin _ (by decide +kernel), codeAny_builtin PySem.F.entry_type_call ?_⟩
  rw [Around.under_plain (weight_type_call_type "set" [.ref l] []) rfl]
  repeat (any_goals (first | assumption | wp_step))
  refine codeAny_mono (code_set_led1 (.ref l) (E := E) (Q₁ := fun ob s₁ => ob = .ref s.heap.objs.size ∧ s₁ = { s with heap := s.heap.push (nset w) }) ⟨rfl, rfl⟩) fun r s₁ hr => ?_
  cases r with
  | error e => exact hr
  | ok fl =>
    cases fl with
    | ret ob =>
      obtain ⟨rfl, rfl⟩ := hr
      have hS : (s.heap.push (nset w)).get? s.heap.objs.size = some (nset w) := Heap.get?_push_size _ rfl
      have hT : Shared.TypeIs { s with heap := s.heap.push (nset w) } (.ref s.heap.objs.size) "set" := ⟨_, hS, rfl⟩
      have g6 := PySem.F.called_set.init.lookup
      have g7 := PySem.F.called_set.init.bind (.ref s.heap.objs.size)
      repeat (any_goals (first | assumption | wp_step))
      refine codeAny_mono (codeAny_call_builtin (R := wants (fun r s₂ => r = .none ∧ ∃ h' tk c, s₂ = { s with heap := h', toks := tk } ∧ SetR w h' s.heap.objs.size (fun j => decide (j ∈ xs)) c ∧ c ≤ xs.length ∧ ∀ b o, s.heap.get? b = some o → h'.get? b = some o) E)
        PySem.F.called_set.init.plain PySem.F.entry_set_init (check_set_init_1 hT ?_)) fun r₂ s₂ hr₂ => ?_
      · obtain ⟨⟨ocls, odict, odata, oslots⟩, hol, hcl, nl, hdl⟩ := hl
        simp only at hcl hdl
        subst hcl hdl
        have hol2 : (s.heap.push (nset w)).get? l = some { cls := .type "list", dict := odict, data := .seq items nl, slots := oslots } := Heap.get?_push_of_some _ hol
        have t1 := PySem.F.sub_list_set
        have t2 := PySem.F.sub_list_frozenset
        have t3 : (Value.type "list" == Value.type "dict") = false := by decide
        have hl1 : (s.heap.push (nset w)).IsList l items := ⟨_, hol2, rfl, nl, rfl⟩
        unfold Builtin.«set.__init__» noKeywords Builtin.Frozenset.updateFrom
        generalize hPI : pyIter = PI
        wp_walk
        subst hPI
        refine wpAny_pyIter_list hl1 (wpAny_bind (wpAny_runValue ?_))
        have lS : l < s.heap.objs.size := Heap.lt_size hol
        have h3 : A.in1.in1.in1.handled = none := by simp [hh]
        have z1 : (s.heap.push (nset w)).objs.size = s.heap.objs.size + 1 := Heap.size_push ..
        have nI : l ≠ (s.heap.push (nset w)).objs.size := by
          rw [z1]
          exact Nat.ne_of_lt (Nat.lt_succ_of_lt lS)
        have nS : s.heap.objs.size ∉ [(s.heap.push (nset w)).objs.size, l] := by
          rw [z1]
          simp only [List.mem_cons, List.not_mem_nil, or_false, not_or]
          exact ⟨Nat.ne_of_lt (Nat.lt_succ_self _), Nat.ne_of_gt lS⟩
        have vl : ∀ (i : Nat) (v : Value), items[i]? = some v → ∃ z u, xs[i]? = some z ∧ v = .int z u := fun i v hv => by
          obtain ⟨u, e⟩ := PyProof.Rows.IntsAre.int_at hi i v (by rw [Array.getElem?_toList]; exact hv)
          have lt : i < xs.length := by
            obtain ⟨b, _⟩ := Array.getElem?_eq_some_iff.mp hv
            omega
          exact ⟨xs.getD i 0, u, by rw [List.getD_eq_getElem?_getD, List.getElem?_eq_getElem lt]; rfl, e⟩
        refine set_update_ints ((Walks.list h3 _ l nI items).toS) s.heap.objs.size nS xs isz (by omega) vl (items.size - 0) 0 _ (by omega) (Nat.zero_le _) ⟨⟨_, Heap.get?_push_size _ rfl, rfl, rfl⟩, (hl1.push _)⟩ ?hS0 ?hR
        case hS0 => exact ⟨0, Nat.le_refl 0, setR_new_at (Heap.get?_push_of_some _ hS)⟩
        case hR =>
          rintro ⟨h', g', d', tk', os'⟩ c mv r2 r1
          obtain rfl : g' = s.gens := mv.gens
          obtain rfl : d' = s.drawn := mv.drawn
          obtain rfl : os' = s.os := mv.os
          show wpAny _ _ _ _ _ _
          refine wpAny_pure (wpAny_pure ⟨rfl, h', tk', c, rfl, r1, isz ▸ r2, fun b o e => ?_⟩)
          have lb := Heap.lt_size e
          refine mv.heap b o ?_ (Heap.get?_push_of_some _ (Heap.get?_push_of_some _ e))
          simp only [List.mem_cons, List.not_mem_nil, or_false, not_or]
          exact ⟨Nat.ne_of_lt lb, by rw [z1]; exact Nat.ne_of_lt (Nat.lt_succ_of_lt lb)⟩
      · cases r₂ with
        | error e => exact hr₂
        | ok fl₂ =>
          cases fl₂ with
          | ret r =>
            obtain ⟨rfl, h', tk, c, rfl, r1, r2, r3⟩ := hr₂
            repeat (any_goals (first | assumption | wp_step))
            exact q _ _ _ r1 r2 r3
          | _ => exact hr₂.elim
    | _ => exact hr.elim
end
def rSetOfL (K : PySem.W.Frag) (w : World) : List V → Hp → VK → Prop := fun vs H Q => ∃ (p : Addr) (ns : List Int), vs = [V.ref p] ∧ SqL K H p (ns.map V.int) ∧ ns.length ≤ 1000 ∧ ∀ a n, H a = none → n ≤ ns.length → Q (.ref a) (upd H a (SetO w a (fun j => decide (j ∈ ns)) n))
theorem cr_setOfL {X : Cx} (hc : X.calm = true) : CallR X (.type "set") (rSetOfL X.K X.w) := by
  intro pins s σ H xs us Q I r h
  obtain ⟨p0, ns, rfl, hq, hl, q⟩ := h
  cases r with
  | cons r rr =>
    cases rr
    cases r
    obtain ⟨its, rv, pt, hz⟩ := I.list hq
    have hi : IntsAre its.toArray.toList ns := ints_of_vals rv
    refine madeI (I.ok.hd hc) pt.isList hi (by unfold scanBound; omega) fun h' tk c R1 hcn k => ?_
    exact ⟨.ref _, upd H s.heap.objs.size (SetO X.w s.heap.objs.size (fun j => decide (j ∈ ns)) c), I.laid (t' := tk) k (Nat.le_refl _) (setO_new R1), rfl, q _ _ (I.hok.fresh (Nat.le_refl _)) hcn⟩
theorem k_setOfL {X : Cx} {K : PySem.W.Frag} {w : World} (hc : X.calm = true) (e : X.K = K) (e' : X.w = w) : CallR X (.type "set") (rSetOfL K w) := e ▸ e' ▸ cr_setOfL hc
theorem x_setOfL {K : PySem.W.Frag} {H : Hp} {Q : VK} {w : World} {p : Addr} {ns : List Int} (h : SqL K H p (ns.map V.int)) (hl : ns.length ≤ 1000) (k : ∀ a H2 n, Fr a H → Same H H2 → H2 a = some (SetO w a (fun j => decide (j ∈ ns)) n) → n ≤ ns.length → Q (.ref a) H2) : rSetOfL K w [.ref p] H Q :=
  ⟨p, ns, rfl, h, hl, fun a n h1 h2 => k a _ n ⟨h1⟩ (same_new h1) upd_same h2⟩
/-! ### list(d.values()) -/
def tListVals (td : TE) : TE := fun σ H Q => td σ H fun x H1 => ∃ a kvs, x = V.ref a ∧ H1 a = some (.dK kvs) ∧ ∀ p, H1 p = none → Q (.ref p) (upd H1 p (.lst (kvs.map (·.2))))
theorem vals_kv : ∀ {kvs : List (L2.Key × V)} {vs : List (L2.Key × Value)}, KV kvs vs → Vals (kvs.map (·.2)) (vs.map (·.2))
  | [], _, r => by
    cases r
    exact .nil
  | p :: kvs, _, r => by
    cases r with
    | cons h t => exact .cons h.2 (vals_kv t)
section
variable {X : Cx} {o : Expr} {p pos apos mpos : Pos} {td : TE}
theorem pe_listVals (hc : X.calm = true) (hg : Gl X "list") (hm : X.mg "list" = none) (hd : PE X o td) (hbase : attributeBase o "values" X.env (eval o X.env) = eval o X.env := by rfl) (hline : (apos.endLine == mpos.line) = true := by rfl)
    (hse : starEach [Expr.Call (.Attribute o "values" apos) [] [] mpos] X.env = [(false, eval (Expr.Call (.Attribute o "values" apos) [] [] mpos) X.env)] := by rfl) :
    PE X (.Call (.Name "list" p) [.Call (.Attribute o "values" apos) [] [] mpos] [] pos) (tListVals td) := by
  refine ⟨fun pins s σ H Q I h => ?_⟩
  refine wpAny_Call_Name_kw (ld_blt I hg hm (u := .type "list") (by first | rfl | decide +kernel) ?_ (by first | decide +kernel | decide) (by first | decide +kernel | decide))
  rw [hse]
  refine PySem.callWith_type1 (wpAny_Call_method0_late hbase hline (thn (hd.run pins s σ H _ I h) fun v s1 ⟨x, H1, I1, r1, a, kvs, ex, ha, q⟩ => ?_))
  subst ex
  obtain rfl : v = Value.ref a := r1
  obtain ⟨hz, hsys, vs, rel, dof⟩ := dk_of I1.hok ha
  obtain ⟨ep, dat⟩ := dof.dictAt
  have dat' := dat
  obtain ⟨ob, es, ho, ex, hdat, hko, hpr, hnd⟩ := dat'
  refine ⟨"dict", "dict.values", PySem.F.plainAttrs_dict, PySem.F.slot_dict_values, PySem.F.type_dict_values, ⟨ob, ho, ex.1⟩, fun b e => ?_, Calls.callWith_builtin rfl (PySem.evalArgs_none ?_)⟩
  · cases e
    exact ⟨ob, ho, ex.2.1⟩
  refine call_meetsIn PySem.F.slot_dict_values ⟨ob, ho, ex.1⟩ PySem.F.entry_dict_values (PySem.F.args_dict_values_1 _) (meets_dict_values (mixKind X.prog X.w) a hsys) ⟨⟨vs, dof⟩, ?_⟩
  have k1 : ∀ b u, s1.heap.get? b = some u → (s1.heap.push { cls := .type "dict_values", data := .fields #[.ref a] }).get? b = some u := fun b u e => Heap.get?_push_of_some _ e
  have dat1 : (s1.heap.push { cls := .type "dict_values", data := .fields #[.ref a] }).DictAt (mixKind X.prog X.w) a vs ep := dat.keep k1
  have hlv : vs.length = kvs.length := (KV.length rel).symm
  have hlt : a < s1.heap.objs.size := Heap.lt_size ho
  refine PySem.W.kdl_call (s := { s1 with heap := s1.heap.push { cls := .type "dict_values", data := .fields #[.ref a] } }) (PySem.W.kdl_values (knd := mixKind X.prog X.w) (r := s1.heap.objs.size) (d := a) (kvs := vs) (ep := ep)) (I.ok.hd hc) ⟨⟨_, Heap.get?_push_size _ rfl, rfl, rfl⟩, dat1⟩ (by rw [hlv]; exact hz) fun h' tk acc' c' kp e it => ?_
  have ea : acc'.toList = vs.map (·.2) := by
    have hl : acc'.toList.length = vs.length := by rw [Array.length_toList, it.1]
    apply List.ext_getElem?
    intro j
    rw [List.getElem?_map]
    cases hj : acc'.toList[j]? with
    | none =>
      have h1 := List.getElem?_eq_none_iff.mp hj
      rw [List.getElem?_eq_none (by omega)]
      rfl
    | some v =>
      obtain ⟨k, hk⟩ := it.2 j v (by rw [← Array.getElem?_toList]; exact hj)
      rw [hk]
      rfl
  have hsz : (s1.heap.push { cls := .type "dict_values", data := .fields #[.ref a] }).objs.size = s1.heap.objs.size + 1 := Heap.size_push _ _
  have rv : Vals (kvs.map (·.2)) acc'.toList := by
    rw [ea]
    exact vals_kv rel
  refine ⟨.ref _, upd H1 (s1.heap.push { cls := .type "dict_values", data := .fields #[.ref a] }).objs.size (.lst (kvs.map (·.2))), I1.laid (t' := tk) (fun b u e => kp b u (k1 b u e)) (by rw [hsz]; exact Nat.le_succ _) ⟨by rw [List.length_map]; exact hz, acc'.toList, c', rv, by rw [Array.toArray_toList]; exact e⟩, rfl, q _ (I1.hok.fresh (by rw [hsz]; exact Nat.le_succ _))⟩
end
end Xk

namespace Xk
open PySem PySem.Spec PyProof.Rows L2
section
variable {X : Cx}
/-- max(xs) of a list of data of one shape, not empty: an item whose data is the greatest -/
def rMaxX (K : PySem.W.Frag) : List V → Hp → VK → Prop := fun vs H Q => ∃ (a : Addr) (b : V × PyData) (bs : List (V × PyData)), vs = [V.ref a] ∧ SqL K H a ((b :: bs).map (·.1)) ∧ (∀ c ∈ b :: bs, Dp K H c.1 c.2 ∧ c.2.depth ≤ 9) ∧
  PySem.W.AlikeAll ((b :: bs).map (·.2)) ∧ ∀ c ∈ b :: bs, c.2 = PySem.W.maxD b.2 (bs.map (·.2)) → Q c.1 H
theorem readsAll_of {h : Heap} : ∀ {its : List Value} {bs : List (V × PyData)}, PySem.W.EachIs (fun u (b : V × PyData) => RelV b.1 u ∧ ∃ as, Reads h u b.2 as) its bs → ∃ as, ReadsAll h its (bs.map (·.2)) as
  | _, _, .nil => ⟨_, .nil⟩
  | _, _, .cons h t => by
    obtain ⟨_, _, r⟩ := h
    obtain ⟨_, rs⟩ := readsAll_of t
    exact ⟨_, .cons r rs⟩
theorem each_at {R : Value → V × PyData → Prop} : ∀ {its : List Value} {bs : List (V × PyData)} {i : Nat} {u : Value}, PySem.W.EachIs R its bs → its[i]? = some u → ∃ b ∈ bs, R u b
  | _, _, _, _, .nil, e => by cases e
  | _, _, 0, _, .cons h _, e => ⟨_, List.mem_cons_self .., Option.some.inj (show some _ = some _ from e) ▸ h⟩
  | _, _, i + 1, _, .cons _ t, e => by
    obtain ⟨b, hb, r⟩ := each_at (i := i) t (by simpa using e)
    exact ⟨b, List.mem_cons_of_mem _ hb, r⟩
theorem depth9 : ∀ {bs : List (V × PyData)}, (∀ c ∈ bs, c.2.depth ≤ 9) → PyData.depthAll (bs.map (·.2)) ≤ 9
  | [], _ => Nat.zero_le _
  | b :: r, h => Nat.max_le.mpr ⟨h b (List.mem_cons_self ..), depth9 fun c hc => h c (List.mem_cons_of_mem _ hc)⟩
theorem k_maxX0 (hc : X.calm = true) (hu : X.A.units + 64 < cLine) : CallR X (.builtin "max") (rMaxX X.K) := by
  intro pins s σ H vs us Q I r h
  obtain ⟨a, b, bs, rfl, hs, hd, hal, q⟩ := h
  obtain ⟨its, rv, hl, hz⟩ := I.list hs
  rw [Vals.ref1 r]
  have e := eachV (R := fun u d => ∃ as, Reads s.heap u d as) rv fun c hc u ru => Dp.reads I c.2 c.1 u (hd c hc).1 ru
  obtain ⟨as, ra⟩ := readsAll_of e
  have dp := depth9 fun c hc => (hd c hc).2
  refine PySem.W.max_list_data (I.ok.hd hc) hl.isList (x := b.2) (xs := bs.map fun c : V × PyData => c.2) (as := as) (by simpa using ra) hal (by have dp' : PyData.depthAll (b.2 :: bs.map (·.2)) ≤ 9 := dp; omega) fun i v h' tk bs' hv rd hk => ?_
  obtain ⟨c, hc', r1, as1, r2⟩ := each_at e (by simpa using hv)
  have ed := (PyProof.Rows.reads_det (fun b o e _ => hk b o e) r2 rd).1
  exact ⟨c.1, H, I.kept hk, r1, q c hc' ed.symm⟩
theorem k_maxX {K : PySem.W.Frag} (hc : X.calm = true) (hu : X.A.units + 64 < cLine) (e : X.K = K) : CallR X (.builtin "max") (rMaxX K) := e ▸ k_maxX0 hc hu
end
/-! e.f op= value -/
def rFldA (K : PySem.W.Frag) (tv : TE) (rd : V → V → Hp → VK → Prop) (f : Str) (σ : L2.St) (R : Hp → Prop) : VK := fun x H1 => ∃ a C dx fs v, x = .ref a ∧ H1 a = some (.ins C dx fs) ∧ Cls K C ∧ NoAttr K C f ∧ fs.lookup f = some v ∧
  tv σ H1 fun y H2 => rd v y H2 fun z H3 => ∃ dx' fs', H3 a = some (.ins C dx' fs') ∧ fs'.length < 1000 ∧ R (upd H3 a (.ins C dx' (putF f z fs')))
theorem x_sfldaug {K : PySem.W.Frag} {ta tv : TE} {rd : V → V → Hp → VK → Prop} {f : Str} {D : Ends} {σ : L2.St} {H : Hp} (q : ta σ H (rFldA K tv rd f σ (D.nx σ))) : sFldAug K ta tv rd f D σ H := q
theorem x_ssfldaug {K : PySem.W.Frag} {ta tv : TE} {rd : V → V → Hp → VK → Prop} {f : Str} {D : Ends} {σ : L2.St} {H : Hp} {tz : TS} (q : ta σ H (rFldA K tv rd f σ fun H2 => tz D σ H2)) : tSeq (sFldAug K ta tv rd f) tz D σ H := q
end Xk


local macro_rules | `(tactic| wtm_at "key") => `(tactic| (first | assumption | exact rfl | fail "key"))
local macro_rules | `(tactic| wtm_at "few") => `(tactic| (first | assumption | exact Nat.le_of_ble_eq_true rfl | fail "few"))
local macro_rules | `(tactic| wtm_at "cls") => `(tactic| (first | assumption | fail "cls"))
local macro_rules | `(tactic| wtm_at "neq") => `(tactic| (first | assumption | exact Ne.symm (by assumption) | exact Xk.ne_new (by assumption) (by wtm_at "hx") | exact (Xk.ne_new (by assumption) (by wtm_at "hx")).symm | fail "neq"))
local macro_rules | `(tactic| wtm_at "hx") => `(tactic| (first | assumption | exact L2.upd_same | ((refine' (L2.upd_ne ?un).trans ?uh); (case un => wtm_at "neq"); (case uh => wtm_at "hx")) | ((refine' Xk.same_at ?ue ?uh); (case ue => assumption); (case uh => wtm_at "hx")) | ((refine' Xk.but_at ?ue ?un ?uh); (case ue => assumption); (case un => wtm_at "neq"); (case uh => wtm_at "hx")) | fail "hx"))
local macro_rules | `(tactic| wtm_at "free") => `(tactic| (first | assumption | ((refine' Xk.free_back ?uh ?ue); (case uh => assumption); (case ue => wtm_at "sm")) | ((refine' Xk.free_back ?uh ?ue); (case uh => (refine' Xk.fr_upd ?uf; case uf => assumption)); (case ue => wtm_at "sm")) | fail "free"))
local macro_rules | `(tactic| wtm_at "sm") => `(tactic| (first | assumption | exact L2.Same.refl _ | ((refine' Xk.same_mut ?ue ?uh); (case ue => wtm_at "sm"); (case uh => wtm_at "free")) | ((refine' L2.Same.trans ?ue ?uh); (case uh => assumption); (case ue => wtm_at "sm")) | ((refine' Xk.same_but ?ue ?uh ?us); (case ue => assumption); (case uh => wtm_at "free"); (case us => wtm_at "sm")) | fail "sm"))
local macro_rules | `(tactic| wtm_at "bm") => `(tactic| (first | assumption | exact Xk.But.refl _ _ | ((refine' Xk.but_mut ?ue); (case ue => wtm_at "bm")) | ((refine' Xk.but_new ?ue ?uh); (case ue => wtm_at "bm"); (case uh => wtm_at "free")) | ((refine' Xk.but_trans ?ue ?uh); (case uh => assumption); (case ue => wtm_at "bm")) | ((refine' Xk.but_trans ?ue (Xk.but_same ?uh)); (case uh => assumption); (case ue => wtm_at "bm")) | fail "bm"))
local macro_rules | `(tactic| wtm_at "sq") => `(tactic| (first | assumption | exact Xk.sq_of (by wtm_at "hx") | ((refine' Xk.sq_same ?uh ?ue); (case uh => assumption); (case ue => wtm_at "sm")) | fail "sq"))
local macro_rules | `(tactic| wtm_at "st") => `(tactic| (first | assumption | exact Xk.st_of (by wtm_at "hx") | ((refine' Xk.st_same ?uh ?ue); (case uh => assumption); (case ue => wtm_at "sm")) | fail "st"))
local macro_rules | `(tactic| wtm_at "side") => `(tactic| (first | assumption | decide | omega | (refine Or.inr ?_; omega) | (refine Or.inl ?_; omega) | (refine ⟨?_, ?_⟩ <;> omega) | (refine ⟨?_, ?_, ?_⟩ <;> first | omega | decide) | fail "side"))
local macro_rules | `(tactic| wtm_at "len") => `(tactic| (first | omega | (simp only [List.length_map, List.length_append, List.length_cons, List.length_nil, List.length_set, List.length_replicate] at *; omega) | exact Nat.le_of_ble_eq_true rfl | fail "len"))
local macro_rules | `(tactic| wtm_at "x") => `(tactic| (first
  | ((with_reducible refine' Xk.x_var ?a1 ?_); (case a1 => exact rfl))
  | (with_reducible refine Xk.x_c ?_)
  | (with_reducible refine Xk.x_op ?_)
  | (with_reducible refine Xk.x_I0 ?_)
  | ((with_reducible refine' Xk.x_I ?a1 ?_); (case a1 => wtm_at "side"))
  | (with_reducible refine Xk.x_cons ?_)
  | (with_reducible refine Xk.x_nil ?_)
  | (with_reducible refine Xk.x_cb ?_)
  | (with_reducible refine Xk.x_call ?_)
  | (with_reducible refine Xk.x_sasg ?_)
  | (with_reducible refine Xk.x_asg ?_)
  | (with_reducible refine Xk.x_ret ?_)
  | (with_reducible refine Xk.x_test ?_)
  | (with_reducible refine Xk.x_bl ?_)
  | (with_reducible refine Xk.x_isI ?_)
  | (with_reducible refine Xk.x_sif ?_)
  | (with_reducible refine Xk.x_ifS ?_)
  | (with_reducible refine Xk.x_and ?_)
  | (with_reducible refine Xk.x_or ?_)
  | (with_reducible refine Xk.x_not ?_)
  | (with_reducible refine Xk.x_B ?_)
  | (with_reducible refine Xk.x_nInt ?_)
  | (with_reducible refine Xk.x_nIntB ?_)
  | ((with_reducible refine' Xk.x_lenL ?a1 ?_); (case a1 => wtm_at "sq"))
  | ((with_reducible refine' Xk.x_lenT ?a1 ?_); (case a1 => wtm_at "st"))
  | (with_reducible refine Xk.x_un ?_)
  | (with_reducible refine Xk.x_U ?_)
  | ((with_reducible refine' Xk.x_eq ?a1 ?_); (case a1 => exact rfl))
  | ((with_reducible refine' Xk.x_ne ?a1 ?_); (case a1 => exact rfl))
  | ((with_reducible refine' Xk.x_ixL ?a1 ?a2 ?_); (case a1 => wtm_at "sq"); (case a2 => first | exact rfl | assumption | exact Xk.at_nat rfl (Xk.map_at (by assumption)) | exact Xk.at_nat rfl (by assumption)))
  | ((with_reducible refine' Xk.x_ixT ?a1 ?a2 ?_); (case a1 => wtm_at "st"); (case a2 => first | exact rfl | assumption | exact Xk.at_nat rfl (Xk.map_at (by assumption)) | exact Xk.at_nat rfl (by assumption)))
  | (with_reducible refine Xk.x_lst ?_)
  | (with_reducible refine Xk.x_tup ?_)
  | ((with_reducible refine' Xk.x_new ?a1 ?_); (case a1 => wtm_at "len"))
  | ((with_reducible refine' Xk.x_listL ?a1 ?_); (case a1 => wtm_at "sq"))
  | ((with_reducible refine' Xk.x_listT ?a1 ?_); (case a1 => wtm_at "st"))
  | ((with_reducible refine' Xk.x_tupleL ?a1 ?_); (case a1 => wtm_at "sq"))
  | ((with_reducible refine' Xk.x_tupleT ?a1 ?_); (case a1 => wtm_at "st"))
  | (with_reducible refine Xk.x_seq ?_)
  | (with_reducible refine Xk.x_next ?_)
  | (with_reducible refine Xk.x_sdrop ?_)
  | (with_reducible refine Xk.x_drop ?_)
  | (with_reducible refine Xk.x_bm ?_)
  | (with_reducible refine Xk.x_bm0 ?_)
  | ((with_reducible refine' Xk.x_tyL ?a1 ?_); (case a1 => wtm_at "sq"))
  | ((with_reducible refine' Xk.x_app ?a1 ?a2 ?_); (case a1 => wtm_at "hx"); (case a2 => wtm_at "len"))
  | (with_reducible refine Xk.x_sasgG ?_)
  | (with_reducible refine Xk.x_asgG ?_)
  | (with_reducible refine Xk.x_gName ?_)
  | ((with_reducible refine' Xk.x_gTup ?a1 ?a2 ?_); (case a1 => wtm_at "st"); (case a2 => exact rfl))
  | ((with_reducible refine' Xk.x_gLst ?a1 ?a2 ?_); (case a1 => wtm_at "sq"); (case a2 => exact rfl))
  | (with_reducible refine Xk.x_gCons ?_)
  | (with_reducible refine Xk.x_gNil ?_)
  | (with_reducible refine Xk.x_gSub ?_)
  | (with_reducible refine Xk.x_if ?_)
  | (with_reducible refine Xk.x_andV ?_)
  | (with_reducible refine Xk.x_orV ?_)
  | (with_reducible refine Xk.x_notV ?_)
  | (with_reducible refine Xk.x_chain ?_)
  | (with_reducible refine Xk.x_yes ?_)
  | (with_reducible refine Xk.x_sl ?_)
  | (with_reducible refine Xk.x_nopart ?_)
  | (with_reducible refine Xk.x_part ?_)
  | ((with_reducible refine' Xk.x_slL ?a1 ?_); (case a1 => wtm_at "sq"))
  | ((with_reducible refine' Xk.x_saug ?a1 ?_); (case a1 => exact rfl))
  | ((with_reducible refine' Xk.x_aug ?a1 ?_); (case a1 => exact rfl))
  | (with_reducible refine Xk.x_ipI ?_)
  | ((with_reducible refine' Xk.x_isiInt ?a1 ?_); (case a1 => first | exact Xk.kit_T (by decide +kernel) | exact Xk.kit_F (by decide +kernel)))
  | ((with_reducible refine' Xk.x_isiBl ?a1 ?_); (case a1 => first | exact Xk.kit_T (by decide +kernel) | exact Xk.kit_F (by decide +kernel)))
  | ((with_reducible refine' Xk.x_isiStr ?a1 ?_); (case a1 => first | exact Xk.kit_T (by decide +kernel) | exact Xk.kit_F (by decide +kernel)))
  | ((with_reducible refine' Xk.x_isiNon ?a1 ?_); (case a1 => first | exact Xk.kit_T (by decide +kernel) | exact Xk.kit_F (by decide +kernel)))
  | ((with_reducible refine' Xk.x_isiLst ?a1 ?a2 ?_); (case a1 => wtm_at "hx"); (case a2 => first | exact Xk.kit_T (by decide +kernel) | exact Xk.kit_F (by decide +kernel)))
  | ((with_reducible refine' Xk.x_isiTup ?a1 ?a2 ?_); (case a1 => wtm_at "hx"); (case a2 => first | exact Xk.kit_T (by decide +kernel) | exact Xk.kit_F (by decide +kernel)))
  | (with_reducible refine Xk.x_forR1 ?_)
  | (with_reducible refine Xk.x_forL1 ?_)
  | (with_reducible refine Xk.x_forT1 ?_)
  | (with_reducible refine Xk.x_brk ?_)
  | (with_reducible refine Xk.x_ct ?_)
  | (with_reducible refine Xk.x_retN ?_)
  | (with_reducible refine Xk.x_lcL1 ?_)
  | (with_reducible refine Xk.x_lcT1 ?_)
  | (with_reducible refine Xk.x_lcR1 ?_)
  | (with_reducible refine Xk.x_lcE1 ?_)
  | (with_reducible refine Xk.x_nocutW ?_)
  | (with_reducible refine Xk.x_nIsN ?_)
  | (with_reducible refine Xk.x_nNotN ?_)
  | (with_reducible refine Xk.x_and255 ?_)
  | (with_reducible refine Xk.x_wT ?_)
  | (with_reducible refine Xk.x_wF ?_)
  | (with_reducible refine Xk.x_lstRg ?_)
  | (with_reducible refine Xk.x_rg1 ?_)
  | ((with_reducible refine' Xk.x_nRg ?a1 ?_); (case a1 => omega))
  | (with_reducible refine L2.iteT ?_)
  | (with_reducible refine L2.iteF ?_)
  | (with_reducible refine Xk.x_nT ?_)
  | (with_reducible refine Xk.x_nF ?_)
  | ((with_reducible refine' Xk.x_dY ?a1 ?_); (case a1 => first | exact rfl | assumption | omega))
  | ((with_reducible refine' Xk.x_dN ?a1 ?_); (case a1 => first | assumption | omega | (intro z; cases z; done)))
  | ((with_reducible refine' Xk.x_ndY ?a1 ?_); (case a1 => first | exact rfl | assumption | omega))
  | ((with_reducible refine' Xk.x_ndN ?a1 ?_); (case a1 => first | assumption | omega | (intro z; cases z; done)))
  | (with_reducible refine Xk.x_lc2 ?_)
  | (with_reducible refine Xk.x_fld1 ?_)
  | ((with_reducible refine' Xk.x_rFld ?a1 ?a2 ?a3 ?a4 ?_); (case a1 => wtm_at "hx"); (case a2 => wtm_at "cls"); (case a3 => wtm_at "cls"); (case a4 => exact rfl))
  | (with_reducible refine Xk.x_ssfld ?_)
  | (with_reducible refine Xk.x_sfld ?_)
  | ((with_reducible refine' Xk.x_rSetF ?a1 ?a2 ?a3 ?a4 ?_); (case a1 => wtm_at "hx"); (case a2 => wtm_at "cls"); (case a3 => wtm_at "cls"); (case a4 => exact Nat.le_of_ble_eq_true rfl))
  | (with_reducible refine Xk.x_prop ?_)
  | ((with_reducible refine' Xk.x_rProp ?a1 ?_); (case a1 => wtm_at "hx"))
  | (with_reducible refine Xk.x_meth ?_)
  | ((with_reducible refine' Xk.x_rMeth ?a1 ?a2 ?_); (case a1 => wtm_at "hx"); (case a2 => exact rfl))
  | (with_reducible refine Xk.x_make ?_)
  | (with_reducible refine Xk.x_sdelT ?_)
  | (with_reducible refine Xk.x_delT ?_)
  | (with_reducible refine Xk.x_nMax2 ?_)
  | (with_reducible refine Xk.x_nMin2 ?_)
  | ((with_reducible refine' Xk.x_nRepS ?a1 ?a2 ?_); (case a1 => wtm_at "side"); (case a2 => decide))
  | (with_reducible refine Xk.x_inS ?_)
  | (with_reducible refine Xk.x_notInS ?_)
  | ((with_reducible refine' Xk.x_nAddS ?a1 ?_); (case a1 => wtm_at "len"))
  | ((with_reducible refine' Xk.x_nLenS ?a1 ?_); (case a1 => wtm_at "len"))
  | ((with_reducible refine' Xk.x_slS ?a1 ?_); (case a1 => wtm_at "len"))
  | (with_reducible refine Xk.x_lcS1 ?_)
  | (with_reducible refine Xk.x_forS1 ?_)
  | (with_reducible refine Xk.x_ord ?_)
  | (with_reducible refine Xk.x_dget1 ?_)
  | ((with_reducible refine' Xk.x_rGetD ?a1 ?_); (case a1 => wtm_at "hx"))
  | ((with_reducible refine' Xk.x_rGet1 ?a1 ?_); (case a1 => wtm_at "hx"))
  | (with_reducible refine Xk.x_dget2 ?_)
  | ((with_reducible refine' Xk.x_rGetE ?a1 ?_); (case a1 => wtm_at "hx"))
  | ((with_reducible refine' Xk.x_rGet2 ?a1 ?_); (case a1 => wtm_at "hx"))
  | (with_reducible refine Xk.x_dpop1 ?_)
  | ((with_reducible refine' Xk.x_rPopD ?a1 ?_); (case a1 => wtm_at "hx"))
  | (with_reducible refine Xk.x_dpop2 ?_)
  | ((with_reducible refine' Xk.x_rPopE ?a1 ?_); (case a1 => wtm_at "hx"))
  | (with_reducible refine Xk.x_din ?_)
  | ((with_reducible refine' Xk.x_rDInK ?a1 ?_); (case a1 => wtm_at "hx"))
  | (with_reducible refine Xk.x_dnew ?_)
  | (with_reducible refine Xk.x_notBl ?_)
  | (with_reducible refine Xk.x_isBl ?_)
  | (with_reducible refine Xk.x_dget ?_)
  | ((with_reducible refine' Xk.x_rDG ?a1 ?a2 ?_); (case a1 => wtm_at "hx"); (case a2 => wtm_at "key"))
  | (with_reducible refine Xk.x_sdput ?_)
  | (with_reducible refine Xk.x_dput ?_)
  | ((with_reducible refine' Xk.x_rDP ?a1 ?a2 ?a3 ?_); (case a1 => wtm_at "hx"); (case a2 => wtm_at "few"); (case a3 => wtm_at "key"))
  | (with_reducible refine Xk.x_pcons ?_)
  | (with_reducible refine Xk.x_pnil ?_)
  | (with_reducible refine Xk.x_forRev1 ?_)
  | (with_reducible refine Xk.x_forR2 ?_)
  | ((with_reducible refine' Xk.x_geP ?a1 ?a2 ?_); (case a1 => wtm_at "st"); (case a2 => wtm_at "st"))
  | ((with_reducible refine' Xk.x_ltP ?a1 ?a2 ?_); (case a1 => wtm_at "st"); (case a2 => wtm_at "st"))
  | (with_reducible refine Xk.x_lcZ1 ?_)
  | (with_reducible refine Xk.x_lcET1 ?_)
  | (with_reducible refine Xk.x_dcT1 ?_)
  | (with_reducible refine Xk.x_nLtS ?_)
  | (with_reducible refine Xk.x_nLeS ?_)
  | (with_reducible refine Xk.x_nGeS ?_)
  | (with_reducible refine Xk.x_spar ?_)
  | (with_reducible refine Xk.x_par ?_)
  | (with_reducible refine Xk.x_rPar ?_)
  | (with_reducible refine Xk.x_gSubSl ?_)
  | fail "x"))
local macro_rules | `(tactic| wtm_at "xs") => `(tactic| ((repeat wtm_at "x"); try dsimp only [L2.wipe, List.set, List.append_nil, List.cons_append, List.nil_append]))
local macro_rules | `(tactic| wtm_at "x0") => `(tactic| (dsimp only [L2.cxOf, L2.start, List.map, List.length, List.replicate, Nat.reduceAdd, Nat.reduceSub, List.cons_append, List.nil_append]))
local macro_rules | `(tactic| wtm_at "xc") => `(tactic| (dsimp only [L2.wipe, List.set, List.append_nil, List.cons_append, List.nil_append]))

namespace K71
open PySem PySem.Spec PyProof.Rows L2
def topS (i : Nat) : Stmt := PySem.Challenge.pw_crosskeep_k71_clients_and_their_history.main.body.getD i (.Pass ⟨0, 0, 0, 0⟩)
abbrev s_key_in : Stmt := topS 1
abbrev N_key_in : List Str := ["key", "start", "end"]
theorem sc_key_in : FnScope ["key", "start", "end"] ["key", "start", "end"] (defScope s_key_in) := ⟨rfl, rfl, rfl, by decide +kernel, rfl, by decide +kernel, by decide +kernel⟩
abbrev s_is_within : Stmt := topS 2
abbrev N_is_within : List Str := ["start", "end", "low", "high"]
theorem sc_is_within : FnScope ["start", "end", "low", "high"] ["start", "end", "low", "high"] (defScope s_is_within) := ⟨rfl, rfl, rfl, by decide +kernel, rfl, by decide +kernel, by decide +kernel⟩
abbrev s_with_ends : Stmt := topS 3
abbrev N_with_ends : List Str := ["ranges", "ends", "start", "cell", "end"]
theorem sc_with_ends : FnScope ["ranges", "ends", "start", "cell", "end"] ["ranges"] (defScope s_with_ends) := ⟨rfl, rfl, rfl, by decide +kernel, rfl, by decide +kernel, by decide +kernel⟩
abbrev s_first_beliefs : Stmt := topS 5
abbrev N_first_beliefs : List Str := ["ranges", "start", "end", "cell"]
theorem sc_first_beliefs : FnScope ["ranges", "start", "end", "cell"] ["ranges"] (defScope s_first_beliefs) := ⟨rfl, rfl, rfl, by decide +kernel, rfl, by decide +kernel, by decide +kernel⟩
abbrev s_cell_of : Stmt := topS 6
abbrev N_cell_of : List Str := ["beliefs", "key", "start", "end", "cell", "epoch"]
theorem sc_cell_of : FnScope ["beliefs", "key", "start", "end", "cell", "epoch"] ["beliefs", "key"] (defScope s_cell_of) := ⟨rfl, rfl, rfl, by decide +kernel, rfl, by decide +kernel, by decide +kernel⟩
abbrev s_learned : Stmt := topS 7
abbrev N_learned : List Str := ["beliefs", "hint", "low", "high", "row"]
theorem sc_learned : FnScope ["beliefs", "hint", "low", "high", "row"] ["beliefs", "hint"] (defScope s_learned) := ⟨rfl, rfl, rfl, by decide +kernel, rfl, by decide +kernel, by decide +kernel⟩
abbrev s_places_of : Stmt := topS 8
abbrev N_places_of : List Str := ["beliefs", "names", "key"]
theorem sc_places_of : FnScope ["beliefs", "names", "key"] ["beliefs", "names"] (defScope s_places_of) := ⟨rfl, rfl, rfl, by decide +kernel, rfl, by decide +kernel, by decide +kernel⟩
abbrev s__cut : Stmt := topS 9
abbrev N__cut : List Str := ["beliefs", "bound", "rows", "start", "end", "cell", "epoch"]
theorem sc__cut : FnScope ["beliefs", "bound", "rows", "start", "end", "cell", "epoch"] ["beliefs", "bound"] (defScope s__cut) := ⟨rfl, rfl, rfl, by decide +kernel, rfl, by decide +kernel, by decide +kernel⟩
abbrev s__row_behind : Stmt := topS 10
abbrev N__row_behind : List Str := ["row", "hint", "start", "end", "_", "epoch", "low", "high", "told_cell", "told_epoch"]
theorem sc__row_behind : FnScope ["row", "hint", "start", "end", "_", "epoch", "low", "high", "told_cell", "told_epoch"] ["row", "hint"] (defScope s__row_behind) := ⟨rfl, rfl, rfl, by decide +kernel, rfl, by decide +kernel, by decide +kernel⟩
abbrev s_key_of_deed : Stmt := topS 12
abbrev N_key_of_deed : List Str := ["deed"]
theorem sc_key_of_deed : FnScope ["deed"] ["deed"] (defScope s_key_of_deed) := ⟨rfl, rfl, rfl, by decide +kernel, rfl, by decide +kernel, by decide +kernel⟩
abbrev s_keys_of : Stmt := topS 14
abbrev N_keys_of : List Str := ["deal", "checks", "deeds", "key", "value", "deed"]
theorem sc_keys_of : FnScope ["deal", "checks", "deeds", "key", "value", "deed"] ["deal"] (defScope s_keys_of) := ⟨rfl, rfl, rfl, by decide +kernel, rfl, by decide +kernel, by decide +kernel⟩
abbrev s_OpenCall___init__ : Stmt := inClass (topS 16) 0
abbrev N_OpenCall___init__ : List Str := ["self", "number", "deal", "places"]
theorem sc_OpenCall___init__ : FnScope ["self", "number", "deal", "places"] ["self", "number", "deal", "places"] (defScope s_OpenCall___init__) := ⟨rfl, rfl, rfl, by decide +kernel, rfl, by decide +kernel, by decide +kernel⟩
abbrev s_OpenCall_home : Stmt := inClass (topS 16) 1
abbrev N_OpenCall_home : List Str := ["self"]
theorem sc_OpenCall_home : FnScope ["self"] ["self"] (defScope s_OpenCall_home) := ⟨rfl, rfl, rfl, by decide +kernel, rfl, by decide +kernel, by decide +kernel⟩
abbrev s_OpenCall_request : Stmt := inClass (topS 16) 2
abbrev N_OpenCall_request : List Str := ["self"]
theorem sc_OpenCall_request : FnScope ["self"] ["self"] (defScope s_OpenCall_request) := ⟨rfl, rfl, rfl, by decide +kernel, rfl, by decide +kernel, by decide +kernel⟩
abbrev s_Client___init__ : Stmt := inClass (topS 17) 0
abbrev N_Client___init__ : List Str := ["self", "ranges"]
theorem sc_Client___init__ : FnScope ["self", "ranges"] ["self", "ranges"] (defScope s_Client___init__) := ⟨rfl, rfl, rfl, by decide +kernel, rfl, by decide +kernel, by decide +kernel⟩
abbrev s_Client_begin : Stmt := inClass (topS 17) 1
abbrev N_Client_begin : List Str := ["self", "deal"]
theorem sc_Client_begin : FnScope ["self", "deal"] ["self", "deal"] (defScope s_Client_begin) := ⟨rfl, rfl, rfl, by decide +kernel, rfl, by decide +kernel, by decide +kernel⟩
abbrev s_Client_hear : Stmt := inClass (topS 17) 2
abbrev N_Client_hear : List Str := ["self", "number", "answer", "hint"]
theorem sc_Client_hear : FnScope ["self", "number", "answer", "hint"] ["self", "number", "answer"] (defScope s_Client_hear) := ⟨rfl, rfl, rfl, by decide +kernel, rfl, by decide +kernel, by decide +kernel⟩
abbrev s_CallRow___init__ : Stmt := inClass (topS 19) 0
abbrev N_CallRow___init__ : List Str := ["self", "client", "number", "deal", "asked"]
theorem sc_CallRow___init__ : FnScope ["self", "client", "number", "deal", "asked"] ["self", "client", "number", "deal", "asked"] (defScope s_CallRow___init__) := ⟨rfl, rfl, rfl, by decide +kernel, rfl, by decide +kernel, by decide +kernel⟩
abbrev s_CallRow_as_row : Stmt := inClass (topS 19) 1
abbrev N_CallRow_as_row : List Str := ["self"]
theorem sc_CallRow_as_row : FnScope ["self"] ["self"] (defScope s_CallRow_as_row) := ⟨rfl, rfl, rfl, by decide +kernel, rfl, by decide +kernel, by decide +kernel⟩
abbrev s_History___init__ : Stmt := inClass (topS 20) 0
abbrev N_History___init__ : List Str := ["self"]
theorem sc_History___init__ : FnScope ["self"] ["self"] (defScope s_History___init__) := ⟨rfl, rfl, rfl, by decide +kernel, rfl, by decide +kernel, by decide +kernel⟩
abbrev s_History_ask : Stmt := inClass (topS 20) 1
abbrev N_History_ask : List Str := ["self", "client", "number", "deal", "row"]
theorem sc_History_ask : FnScope ["self", "client", "number", "deal", "row"] ["self", "client", "number", "deal"] (defScope s_History_ask) := ⟨rfl, rfl, rfl, by decide +kernel, rfl, by decide +kernel, by decide +kernel⟩
abbrev s_History_close : Stmt := inClass (topS 20) 2
abbrev N_History_close : List Str := ["self", "client", "number", "answer", "row"]
theorem sc_History_close : FnScope ["self", "client", "number", "answer", "row"] ["self", "client", "number", "answer"] (defScope s_History_close) := ⟨rfl, rfl, rfl, by decide +kernel, rfl, by decide +kernel, by decide +kernel⟩
abbrev s_History_rows : Stmt := inClass (topS 20) 3
abbrev N_History_rows : List Str := ["self", "row"]
theorem sc_History_rows : FnScope ["self", "row"] ["self"] (defScope s_History_rows) := ⟨rfl, rfl, rfl, by decide +kernel, rfl, by decide +kernel, by decide +kernel⟩
abbrev s__law_number : Stmt := topS 22
abbrev N__law_number : List Str := ["script", "k", "cell", "first", "second"]
theorem sc__law_number : FnScope ["script", "k", "cell", "first", "second"] ["script", "k"] (defScope s__law_number) := ⟨rfl, rfl, rfl, by decide +kernel, rfl, by decide +kernel, by decide +kernel⟩
abbrev s__law_take : Stmt := topS 23
abbrev N__law_take : List Str := ["box", "size", "digit"]
theorem sc__law_take : FnScope ["box", "size", "digit"] ["box", "size"] (defScope s__law_take) := ⟨rfl, rfl, rfl, by decide +kernel, rfl, by decide +kernel, by decide +kernel⟩
abbrev s__law_key : Stmt := topS 24
abbrev N__law_key : List Str := ["box", "sign", "signs", "size", "spot", "text", "k"]
theorem sc__law_key : FnScope ["box", "sign", "signs", "size", "spot", "text", "k"] ["box", "sign"] (defScope s__law_key) := ⟨rfl, rfl, rfl, by decide +kernel, rfl, by decide +kernel, by decide +kernel⟩
abbrev s__law_keys : Stmt := topS 25
abbrev N__law_keys : List Str := ["box", "found", "sign", "key"]
theorem sc__law_keys : FnScope ["box", "found", "sign", "key"] ["box"] (defScope s__law_keys) := ⟨rfl, rfl, rfl, by decide +kernel, rfl, by decide +kernel, by decide +kernel⟩
abbrev s__law_value : Stmt := topS 26
abbrev N__law_value : List Str := ["box", "kind"]
theorem sc__law_value : FnScope ["box", "kind"] ["box"] (defScope s__law_value) := ⟨rfl, rfl, rfl, by decide +kernel, rfl, by decide +kernel, by decide +kernel⟩
abbrev s__law_maybe : Stmt := topS 27
abbrev N__law_maybe : List Str := ["box"]
theorem sc__law_maybe : FnScope ["box"] ["box"] (defScope s__law_maybe) := ⟨rfl, rfl, rfl, by decide +kernel, rfl, by decide +kernel, by decide +kernel⟩
abbrev s__law_deed : Stmt := topS 28
abbrev N__law_deed : List Str := ["box", "keys", "key", "kind"]
theorem sc__law_deed : FnScope ["box", "keys", "key", "kind"] ["box", "keys"] (defScope s__law_deed) := ⟨rfl, rfl, rfl, by decide +kernel, rfl, by decide +kernel, by decide +kernel⟩
abbrev s__law_deal : Stmt := topS 29
abbrev N__law_deal : List Str := ["box", "keys", "rows", "checks", "k", "key", "value", "deeds"]
theorem sc__law_deal : FnScope ["box", "keys", "rows", "checks", "k", "key", "value", "deeds"] ["box", "keys", "rows"] (defScope s__law_deal) := ⟨rfl, rfl, rfl, by decide +kernel, rfl, by decide +kernel, by decide +kernel⟩
abbrev s__law_names : Stmt := topS 32
abbrev N__law_names : List Str := ["deal", "found", "key", "check", "deed"]
theorem sc__law_names : FnScope ["deal", "found", "key", "check", "deed"] ["deal"] (defScope s__law_names) := ⟨rfl, rfl, rfl, by decide +kernel, rfl, by decide +kernel, by decide +kernel⟩
abbrev s__law_cell : Stmt := topS 33
abbrev N__law_cell : List Str := ["rows", "key", "row"]
theorem sc__law_cell : FnScope ["rows", "key", "row"] ["rows", "key"] (defScope s__law_cell) := ⟨rfl, rfl, rfl, by decide +kernel, rfl, by decide +kernel, by decide +kernel⟩
abbrev s__law_answer : Stmt := topS 34
abbrev N__law_answer : List Str := ["box", "rows", "kind", "hints", "k", "row"]
theorem sc__law_answer : FnScope ["box", "rows", "kind", "hints", "k", "row"] ["box", "rows"] (defScope s__law_answer) := ⟨rfl, rfl, rfl, by decide +kernel, rfl, by decide +kernel, by decide +kernel⟩
abbrev s__law_agrees : Stmt := topS 35
abbrev N__law_agrees : List Str := ["clients", "models", "history", "records", "events", "k", "model", "client", "asked", "record"]
theorem sc__law_agrees : FnScope ["clients", "models", "history", "records", "events", "k", "model", "client", "asked", "record"] ["clients", "models", "history", "records", "events"] (defScope s__law_agrees) := ⟨rfl, rfl, rfl, by decide +kernel, rfl, by decide +kernel, by decide +kernel⟩
abbrev s_law : Stmt := topS 36
abbrev N_law : List Str := ["script", "box", "keys", "start", "ranges", "clients", "models", "history", "other", "records", "events", "k", "at", "model", "deal", "places", "number", "answer", "closes", "hint", "record", "key"]
theorem sc_law : FnScope ["script", "box", "keys", "start", "ranges", "clients", "models", "history", "other", "records", "events", "k", "at", "model", "deal", "places", "number", "answer", "closes", "hint", "record", "key"] ["script"] (defScope s_law) := ⟨rfl, rfl, rfl, by decide +kernel, rfl, by decide +kernel, by decide +kernel⟩
structure Txt (K : PySem.W.Frag) (mg : Str → Option Value) where
  C_CallRow : Addr
  Cls_CallRow : Cls K C_CallRow
  g_CallRow : mg "CallRow" = some (.ref C_CallRow)
  A_CallRow_client : NoAttr K C_CallRow "client"
  A_CallRow_number : NoAttr K C_CallRow "number"
  A_CallRow_deal : NoAttr K C_CallRow "deal"
  A_CallRow_asked : NoAttr K C_CallRow "asked"
  A_CallRow_answered : NoAttr K C_CallRow "answered"
  A_CallRow_answer : NoAttr K C_CallRow "answer"
  C_Client : Addr
  Cls_Client : Cls K C_Client
  g_Client : mg "Client" = some (.ref C_Client)
  A_Client_beliefs : NoAttr K C_Client "beliefs"
  A_Client_number : NoAttr K C_Client "number"
  A_Client_call : NoAttr K C_Client "call"
  C_History : Addr
  Cls_History : Cls K C_History
  g_History : mg "History" = some (.ref C_History)
  A_History_events : NoAttr K C_History "events"
  A_History__calls : NoAttr K C_History "_calls"
  A_History__by_name : NoAttr K C_History "_by_name"
  C_OpenCall : Addr
  Cls_OpenCall : Cls K C_OpenCall
  g_OpenCall : mg "OpenCall" = some (.ref C_OpenCall)
  A_OpenCall_number : NoAttr K C_OpenCall "number"
  A_OpenCall_deal : NoAttr K C_OpenCall "deal"
  A_OpenCall_places : NoAttr K C_OpenCall "places"
  f_key_in : Addr
  d_key_in : FuncData
  F_key_in : Fun K "key_in" "key_in" s_key_in f_key_in d_key_in
  b_key_in : Binds K d_key_in ["key", "start", "end"] []
  g_key_in : mg "key_in" = some (.ref f_key_in)
  f_is_within : Addr
  d_is_within : FuncData
  F_is_within : Fun K "is_within" "is_within" s_is_within f_is_within d_is_within
  b_is_within : Binds K d_is_within ["start", "end", "low", "high"] []
  g_is_within : mg "is_within" = some (.ref f_is_within)
  f_with_ends : Addr
  d_with_ends : FuncData
  F_with_ends : Fun K "with_ends" "with_ends" s_with_ends f_with_ends d_with_ends
  b_with_ends : Binds K d_with_ends ["ranges"] []
  g_with_ends : mg "with_ends" = some (.ref f_with_ends)
  f_first_beliefs : Addr
  d_first_beliefs : FuncData
  F_first_beliefs : Fun K "first_beliefs" "first_beliefs" s_first_beliefs f_first_beliefs d_first_beliefs
  b_first_beliefs : Binds K d_first_beliefs ["ranges"] []
  g_first_beliefs : mg "first_beliefs" = some (.ref f_first_beliefs)
  f_cell_of : Addr
  d_cell_of : FuncData
  F_cell_of : Fun K "cell_of" "cell_of" s_cell_of f_cell_of d_cell_of
  b_cell_of : Binds K d_cell_of ["beliefs", "key"] []
  g_cell_of : mg "cell_of" = some (.ref f_cell_of)
  f_learned : Addr
  d_learned : FuncData
  F_learned : Fun K "learned" "learned" s_learned f_learned d_learned
  b_learned : Binds K d_learned ["beliefs", "hint"] []
  g_learned : mg "learned" = some (.ref f_learned)
  f_places_of : Addr
  d_places_of : FuncData
  F_places_of : Fun K "places_of" "places_of" s_places_of f_places_of d_places_of
  b_places_of : Binds K d_places_of ["beliefs", "names"] []
  g_places_of : mg "places_of" = some (.ref f_places_of)
  f__cut : Addr
  d__cut : FuncData
  F__cut : Fun K "_cut" "_cut" s__cut f__cut d__cut
  b__cut : Binds K d__cut ["beliefs", "bound"] []
  g__cut : mg "_cut" = some (.ref f__cut)
  f__row_behind : Addr
  d__row_behind : FuncData
  F__row_behind : Fun K "_row_behind" "_row_behind" s__row_behind f__row_behind d__row_behind
  b__row_behind : Binds K d__row_behind ["row", "hint"] []
  g__row_behind : mg "_row_behind" = some (.ref f__row_behind)
  f_key_of_deed : Addr
  d_key_of_deed : FuncData
  F_key_of_deed : Fun K "key_of_deed" "key_of_deed" s_key_of_deed f_key_of_deed d_key_of_deed
  b_key_of_deed : Binds K d_key_of_deed ["deed"] []
  g_key_of_deed : mg "key_of_deed" = some (.ref f_key_of_deed)
  f_keys_of : Addr
  d_keys_of : FuncData
  F_keys_of : Fun K "keys_of" "keys_of" s_keys_of f_keys_of d_keys_of
  b_keys_of : Binds K d_keys_of ["deal"] []
  g_keys_of : mg "keys_of" = some (.ref f_keys_of)
  f_OpenCall___init__ : Addr
  d_OpenCall___init__ : FuncData
  F_OpenCall___init__ : Fun K "__init__" "OpenCall.__init__" s_OpenCall___init__ f_OpenCall___init__ d_OpenCall___init__
  b_OpenCall___init__ : Binds K d_OpenCall___init__ ["self", "number", "deal", "places"] []
  Mk_OpenCall : Mk K C_OpenCall f_OpenCall___init__
  f_OpenCall_home : Addr
  d_OpenCall_home : FuncData
  F_OpenCall_home : Fun K "home" "OpenCall.home" s_OpenCall_home f_OpenCall_home d_OpenCall_home
  b_OpenCall_home : Binds K d_OpenCall_home ["self"] []
  p_OpenCall_home : Addr
  P_OpenCall_home : PropOf K C_OpenCall "home" p_OpenCall_home f_OpenCall_home
  f_OpenCall_request : Addr
  d_OpenCall_request : FuncData
  F_OpenCall_request : Fun K "request" "OpenCall.request" s_OpenCall_request f_OpenCall_request d_OpenCall_request
  b_OpenCall_request : Binds K d_OpenCall_request ["self"] []
  M_OpenCall_request : Meth K C_OpenCall "request" f_OpenCall_request
  f_Client___init__ : Addr
  d_Client___init__ : FuncData
  F_Client___init__ : Fun K "__init__" "Client.__init__" s_Client___init__ f_Client___init__ d_Client___init__
  b_Client___init__ : Binds K d_Client___init__ ["self", "ranges"] []
  Mk_Client : Mk K C_Client f_Client___init__
  f_Client_begin : Addr
  d_Client_begin : FuncData
  F_Client_begin : Fun K "begin" "Client.begin" s_Client_begin f_Client_begin d_Client_begin
  b_Client_begin : Binds K d_Client_begin ["self", "deal"] []
  M_Client_begin : Meth K C_Client "begin" f_Client_begin
  f_Client_hear : Addr
  d_Client_hear : FuncData
  F_Client_hear : Fun K "hear" "Client.hear" s_Client_hear f_Client_hear d_Client_hear
  b_Client_hear : Binds K d_Client_hear ["self", "number", "answer"] []
  M_Client_hear : Meth K C_Client "hear" f_Client_hear
  f_CallRow___init__ : Addr
  d_CallRow___init__ : FuncData
  F_CallRow___init__ : Fun K "__init__" "CallRow.__init__" s_CallRow___init__ f_CallRow___init__ d_CallRow___init__
  b_CallRow___init__ : Binds K d_CallRow___init__ ["self", "client", "number", "deal", "asked"] []
  Mk_CallRow : Mk K C_CallRow f_CallRow___init__
  f_CallRow_as_row : Addr
  d_CallRow_as_row : FuncData
  F_CallRow_as_row : Fun K "as_row" "CallRow.as_row" s_CallRow_as_row f_CallRow_as_row d_CallRow_as_row
  b_CallRow_as_row : Binds K d_CallRow_as_row ["self"] []
  M_CallRow_as_row : Meth K C_CallRow "as_row" f_CallRow_as_row
  f_History___init__ : Addr
  d_History___init__ : FuncData
  F_History___init__ : Fun K "__init__" "History.__init__" s_History___init__ f_History___init__ d_History___init__
  b_History___init__ : Binds K d_History___init__ ["self"] []
  Mk_History : Mk K C_History f_History___init__
  f_History_ask : Addr
  d_History_ask : FuncData
  F_History_ask : Fun K "ask" "History.ask" s_History_ask f_History_ask d_History_ask
  b_History_ask : Binds K d_History_ask ["self", "client", "number", "deal"] []
  M_History_ask : Meth K C_History "ask" f_History_ask
  f_History_close : Addr
  d_History_close : FuncData
  F_History_close : Fun K "close" "History.close" s_History_close f_History_close d_History_close
  b_History_close : Binds K d_History_close ["self", "client", "number", "answer"] []
  M_History_close : Meth K C_History "close" f_History_close
  f_History_rows : Addr
  d_History_rows : FuncData
  F_History_rows : Fun K "rows" "History.rows" s_History_rows f_History_rows d_History_rows
  b_History_rows : Binds K d_History_rows ["self"] []
  M_History_rows : Meth K C_History "rows" f_History_rows
  f__law_number : Addr
  d__law_number : FuncData
  F__law_number : Fun K "_law_number" "_law_number" s__law_number f__law_number d__law_number
  b__law_number : Binds K d__law_number ["script", "k"] []
  g__law_number : mg "_law_number" = some (.ref f__law_number)
  f__law_take : Addr
  d__law_take : FuncData
  F__law_take : Fun K "_law_take" "_law_take" s__law_take f__law_take d__law_take
  b__law_take : Binds K d__law_take ["box", "size"] []
  g__law_take : mg "_law_take" = some (.ref f__law_take)
  f__law_key : Addr
  d__law_key : FuncData
  F__law_key : Fun K "_law_key" "_law_key" s__law_key f__law_key d__law_key
  b__law_key : Binds K d__law_key ["box", "sign"] []
  g__law_key : mg "_law_key" = some (.ref f__law_key)
  f__law_keys : Addr
  d__law_keys : FuncData
  F__law_keys : Fun K "_law_keys" "_law_keys" s__law_keys f__law_keys d__law_keys
  b__law_keys : Binds K d__law_keys ["box"] []
  g__law_keys : mg "_law_keys" = some (.ref f__law_keys)
  f__law_value : Addr
  d__law_value : FuncData
  F__law_value : Fun K "_law_value" "_law_value" s__law_value f__law_value d__law_value
  b__law_value : Binds K d__law_value ["box"] []
  g__law_value : mg "_law_value" = some (.ref f__law_value)
  f__law_maybe : Addr
  d__law_maybe : FuncData
  F__law_maybe : Fun K "_law_maybe" "_law_maybe" s__law_maybe f__law_maybe d__law_maybe
  b__law_maybe : Binds K d__law_maybe ["box"] []
  g__law_maybe : mg "_law_maybe" = some (.ref f__law_maybe)
  f__law_deed : Addr
  d__law_deed : FuncData
  F__law_deed : Fun K "_law_deed" "_law_deed" s__law_deed f__law_deed d__law_deed
  b__law_deed : Binds K d__law_deed ["box", "keys"] []
  g__law_deed : mg "_law_deed" = some (.ref f__law_deed)
  f__law_deal : Addr
  d__law_deal : FuncData
  F__law_deal : Fun K "_law_deal" "_law_deal" s__law_deal f__law_deal d__law_deal
  b__law_deal : Binds K d__law_deal ["box", "keys", "rows"] []
  g__law_deal : mg "_law_deal" = some (.ref f__law_deal)
  f__law_names : Addr
  d__law_names : FuncData
  F__law_names : Fun K "_law_names" "_law_names" s__law_names f__law_names d__law_names
  b__law_names : Binds K d__law_names ["deal"] []
  g__law_names : mg "_law_names" = some (.ref f__law_names)
  f__law_cell : Addr
  d__law_cell : FuncData
  F__law_cell : Fun K "_law_cell" "_law_cell" s__law_cell f__law_cell d__law_cell
  b__law_cell : Binds K d__law_cell ["rows", "key"] []
  g__law_cell : mg "_law_cell" = some (.ref f__law_cell)
  f__law_answer : Addr
  d__law_answer : FuncData
  F__law_answer : Fun K "_law_answer" "_law_answer" s__law_answer f__law_answer d__law_answer
  b__law_answer : Binds K d__law_answer ["box", "rows"] []
  g__law_answer : mg "_law_answer" = some (.ref f__law_answer)
  f__law_agrees : Addr
  d__law_agrees : FuncData
  F__law_agrees : Fun K "_law_agrees" "_law_agrees" s__law_agrees f__law_agrees d__law_agrees
  b__law_agrees : Binds K d__law_agrees ["clients", "models", "history", "records", "events"] []
  g__law_agrees : mg "_law_agrees" = some (.ref f__law_agrees)
  f_law : Addr
  d_law : FuncData
  F_law : Fun K "law" "law" s_law f_law d_law
  b_law : Binds K d_law ["script"] []
  g_law : mg "law" = some (.ref f_law)
  m_int : mg "int" = none
  m_len : mg "len" = none
  m_list : mg "list" = none
  m_max : mg "max" = none
  m_range : mg "range" = none
  m_set : mg "set" = none
  m_sorted : mg "sorted" = none
  m_tuple : mg "tuple" = none
  m_zip : mg "zip" = none
section
variable {P : Program} {w : World} {K : PySem.W.Frag} {mg : Str → Option Value} {base : Heap}
def sp__law_number (K : PySem.W.Frag) : Sp := fun vs H Q _ => ∃ (a : Addr) (k : Int) (ns : List Int), vs = [.ref a, .int k] ∧ SqL K H a (ns.map V.int) ∧ ns.length ≤ 63 ∧ 0 ≤ k ∧ k ≤ 1000 ∧ ∀ n : Int, 0 ≤ n → Q (.int n) H
theorem ok__law_number (T : Txt K mg) : FnOk P w K mg base CX0 1 T.f__law_number T.d__law_number ["script", "k"] (sp__law_number K) := by
  refine T.F__law_number.ok sc__law_number (fun vs H Q E h => ?_) (fun cdv A outer s H vs Q E hr h => ?_)
  · obtain ⟨a, k, ns, rfl, _⟩ := h
    rfl
  obtain ⟨a, k, ns, rfl, hS, hl, hk, hk2, q⟩ := h
  refine ⟨_, (pss_cons (ps_set (i := 2) sc__law_number.nd rfl (Or.inl rfl) (pe_int))
      (Evl.pss_cut (ps_if (pt_cmpR op_gt (pe_callB (Xk.k_len (K := K) (by rfl)) (by rfl) T.m_len PySem.boot_len (pa_cons (pv 0) pa_nil)) (pe_int) (nomark _)) (pss_one (ps_set (i := 2) sc__law_number.nd rfl (Or.inl rfl) (pe_ix (Xk.k_ixL (K := K) (by rfl)) (pv 0) (pe_op op_mod (pe_callTy Xk.call_nInt (by rfl) T.m_int (by decide +kernel) (pa_cons (pv 1) pa_nil)) (pe_callB (Xk.k_len (K := K) (by rfl)) (by rfl) T.m_len PySem.boot_len (pa_cons (pv 0) pa_nil))) (fun _ _ => rfl)))) pss_nil)
      (Evl.pss_cut (ps_if (pt_cmpR op_lt (pv 2) (pe_int) (nomark _)) (pss_one (ps_set (i := 2) sc__law_number.nd rfl (Or.inl rfl) (pe_op op_sub (pe_int) (pe_op op_mul (pe_int) (pv 2))))) pss_nil)
      (Evl.pss_cut (ps_if (PW.pt (pw_and (pt_cmpR op_ge (pv 2) (pe_op op_pow (pe_int) (pe_int)) (nomark _)) (pw_and1 (pt_cmpR op_lt (pv 1) (pe_callB (Xk.k_len (K := K) (by rfl)) (by rfl) T.m_len PySem.boot_len (pa_cons (pv 0) pa_nil)) (nomark _))))) (pss_one (ps_ret (pv 2))) pss_nil)
      (pss_cons (ps_set (i := 3) sc__law_number.nd rfl (Or.inl rfl) (pe_op op_mod (pe_callTy Xk.call_nInt (by rfl) T.m_int (by decide +kernel) (pa_cons (pe_op op_add (pe_op op_mul (pe_op op_add (pv 2) (pe_int)) (pe_int)) (pe_op op_mul (pe_op op_add (pv 1) (pe_int)) (pe_int))) pa_nil)) (pe_int)))
      (pss_cons (ps_set (i := 4) sc__law_number.nd rfl (Or.inl rfl) (pe_op op_mod (pe_callTy Xk.call_nInt (by rfl) T.m_int (by decide +kernel) (pa_cons (pe_op op_add (pe_op op_add (pe_op op_mul (pe_op op_add (pv 3) (pe_int)) (pe_int)) (pe_op op_mul (pe_op op_add (pv 2) (pe_int)) (pe_int))) (pv 1)) pa_nil)) (pe_int)))
      (pss_one (ps_ret (pe_op op_mod (pe_callTy Xk.call_nInt (by rfl) T.m_int (by decide +kernel) (pa_cons (pe_op op_add (pe_op op_add (pe_op op_mul (pv 3) (pe_int)) (pe_op op_mul (pv 4) (pe_int))) (pv 2)) pa_nil)) (pe_int)))))))))), ?_⟩
  wtm_at "x0"
  wtm_at "xs"
  refine Xk.x_cut (fun σ' H' => H = H' ∧ ∃ c : Int, σ' = [some (.ref a), some (.int k), some (.int c), none, none]) ?_ ?_
  · wtm_at "xs"
    refine Xk.x_itd (fun h => ?_) (fun h => ?_)
    · wtm_at "xs"
      rw [List.length_map] at h ⊢
      have h1 : k % (ns.length : Int) < ns.length := Int.emod_lt_of_pos _ h
      have h2 : 0 ≤ k % (ns.length : Int) := Int.emod_nonneg _ (by omega)
      obtain ⟨j, hj⟩ := Int.eq_ofNat_of_zero_le h2
      rw [hj] at h1 ⊢
      have h3 : j < ns.length := by omega
      refine Xk.x_ixL hS (atI_nat (j := j) (by rw [List.getElem?_map, List.getElem?_eq_getElem h3]; rfl)) ?_
      exact ⟨rfl, _, rfl⟩
    · wtm_at "xs"
      exact ⟨rfl, _, rfl⟩
  rintro σ' H' ⟨rfl, c, rfl⟩
  refine Xk.x_cut (fun σ' H' => H = H' ∧ ∃ c : Int, 0 ≤ c ∧ σ' = [some (.ref a), some (.int k), some (.int c), none, none]) ?_ ?_
  · wtm_at "xs"
    refine Xk.x_itd (fun h => ?_) (fun h => ?_)
    · wtm_at "xs"
      exact ⟨rfl, _, by omega, rfl⟩
    · wtm_at "xs"
      exact ⟨rfl, _, by omega, rfl⟩
  rintro σ' H' ⟨rfl, c, hc, rfl⟩
  refine Xk.x_cut (fun σ' H' => H = H' ∧ σ' = [some (.ref a), some (.int k), some (.int c), none, none]) ?_ ?_
  · wtm_at "xs"
    refine Xk.x_itd (fun h => ?_) (fun h => ?_)
    · wtm_at "xs"
      refine Xk.x_itd (fun h => ?_) (fun h => ?_)
      · wtm_at "xs"
        exact q _ hc
      · wtm_at "xs"
        exact ⟨rfl, rfl⟩
    · wtm_at "xs"
      exact ⟨rfl, rfl⟩
  rintro σ' H' ⟨rfl, rfl⟩
  wtm_at "xs"
  exact q _ (by omega)
def sp__law_take (K : PySem.W.Frag) : Sp := fun vs H Q _ => ∃ (a : Addr) (z n : Int), vs = [.ref a, .int z] ∧ H a = some (.lst [.int n]) ∧ 0 < z ∧ z < 1073741824 ∧ (0 ≤ n % z → n % z < z → Q (.int (n % z)) (upd H a (.lst [.int (n / z)])))
theorem ok__law_take (T : Txt K mg) : FnOk P w K mg base CX0 1 T.f__law_take T.d__law_take ["box", "size"] (sp__law_take K) := by
  refine T.F__law_take.ok sc__law_take (fun vs H Q E h => ?_) (fun cdv A outer s H vs Q E hr h => ?_)
  · obtain ⟨a, z, n, rfl, _⟩ := h
    rfl
  obtain ⟨a, z, n, rfl, hb, h0, h1, q⟩ := h
  refine ⟨_, (pss_cons (ps_set (i := 2) sc__law_take.nd rfl (Or.inl rfl) (pe_op op_mod (pe_callTy Xk.call_nInt (by rfl) T.m_int (by decide +kernel) (pa_cons (pe_ix (Xk.k_ixL (K := K) (by rfl)) (pv 0) (pe_int) (fun _ _ => rfl)) pa_nil)) (pv 1)))
      (pss_cons (ps_asg (pe_op op_fdiv (pe_ix (Xk.k_ixL (K := K) (by rfl)) (pv 0) (pe_int) (fun _ _ => rfl)) (pv 1)) (pg_sub (pv 0) (pe_int) set_list))
      (pss_one (ps_ret (pv 2))))), ?_⟩
  wtm_at "x0"
  wtm_at "xs"
  refine Xk.x_setL (j := 0) hb rfl ?_
  wtm_at "xs"
  exact q (Int.emod_nonneg _ (by omega)) (Int.emod_lt_of_pos _ h0)
--CUT--
/-- a draw from a box, said so that it goes on -/
theorem draw {K : PySem.W.Frag} {H : Hp} {Q : VK} {E : XK} {a : Addr} {z n : Int} (hb : H a = some (.lst [.int n])) (hz : 0 < z ∧ z < 1073741824)
    (q : ∀ (j : Nat) (m : Int) H', (j : Int) < z → Xk.But a H H' → H' a = some (.lst [.int m]) → Q (.int j) H') : sp__law_take K [.ref a, .int z] H Q E := by
  refine ⟨a, z, n, rfl, hb, hz.1, hz.2, fun h1 h2 => ?_⟩
  obtain ⟨j, hj⟩ := Int.eq_ofNat_of_zero_le h1
  rw [hj] at h2 ⊢
  exact q j (n / z) _ h2 (Xk.but_mut (Xk.But.refl _ _)) upd_same
def alphS : Str := "abcdefghijklmnopqrstuvwxyz0123456789"
/-- a text of a few signs -/
def Ok (s : Str) : Prop := s.length ≤ 20 ∧ Xk.AllC Xk.okC s = true
theorem one_len (c : Nat) : (⟨#[c]⟩ : Str).length = 1 := rfl
def sp__law_key (K : PySem.W.Frag) : Sp := fun vs H Q _ => ∃ (a : Addr) (n : Int) (z : Str), vs = [.ref a, .str z] ∧ H a = some (.lst [.int n]) ∧ z.length ≤ 1 ∧ Xk.AllC Xk.okC z = true ∧
  ∀ H' m s, Xk.But a H H' → H' a = some (.lst [.int m]) → Ok s → z.length ≤ s.length → Q (.str s) H'
theorem ok__law_key (T : Txt K mg) : FnOk P w K mg base CX0 2 T.f__law_key T.d__law_key ["box", "sign"] (sp__law_key K) := by
  refine T.F__law_key.ok sc__law_key (fun vs H Q E h => ?_) (fun cdv A outer s H vs Q E hr h => ?_)
  · obtain ⟨a, n, z, rfl, _⟩ := h
    rfl
  obtain ⟨a, n, z, rfl, hb, hz, hz2, q⟩ := h
  refine ⟨_, (pss_cons (ps_set (i := 2) sc__law_key.nd rfl (Or.inl rfl) (pe_str))
      (pss_cons (ps_set (i := 3) sc__law_key.nd rfl (Or.inl rfl) (pe_ix (Xk.k_ixL (K := K) (by rfl)) (pe_lst (pa_cons (pe_int) (pa_cons (pe_int) (pa_cons (pe_int) (pa_cons (pe_int) pa_nil))))) (pe_call (ok__law_take T) (hr.mono (by decide)) (by rfl) T.g__law_take T.F__law_take.kp T.b__law_take .nil pass0 (pa_cons (pv 0) (pa_cons (pe_int) pa_nil))) (fun _ _ => rfl)))
      (pss_cons (ps_set (i := 4) sc__law_key.nd rfl (Or.inl rfl) (pe_call (ok__law_take T) (hr.mono (by decide)) (by rfl) T.g__law_take T.F__law_take.kp T.b__law_take .nil pass0 (pa_cons (pv 0) (pa_cons (pv 3) pa_nil))))
      (pss_cons (ps_set (i := 5) sc__law_key.nd rfl (Or.inl rfl) (pe_str))
      (pss_cons (ps_for PassesOwn.never rfl (pi_range1 (by rfl) T.m_range (pa_cons (pe_op op_sub (pv 3) (pe_int)) pa_nil)) (pg_name (i := 6) sc__law_key.nd rfl (Or.inl rfl)) (pss_one (ps_set (i := 5) sc__law_key.nd rfl (Or.inl rfl) (pe_op Xk.op_nAddS (pv 5) (pe_ix ix_str (pv 2) (pe_call (ok__law_take T) (hr.mono (by decide)) (by rfl) T.g__law_take T.F__law_take.kp T.b__law_take .nil pass0 (pa_cons (pv 0) (pa_cons (pe_int) pa_nil))) (fun _ _ => rfl))))))
      (pss_one (ps_ret (pe_op Xk.op_nAddS (pe_op Xk.op_nAddS (pe_slice sl_str (pv 5) po_none (po_some (pv 4))) (pv 1)) (pe_slice sl_str (pv 5) (po_some (pv 4)) po_none))))))))), ?_⟩
  wtm_at "x0"
  wtm_at "xs"
  intro p H2 hp s2 h2
  have nap : p ≠ a := (Xk.ne_new hp hb).symm
  have hb2 := s2 _ _ hb
  wtm_at "xs"
  refine draw hb2 ⟨by decide, by decide⟩ fun j m H3 hj b3 hb3 => ?_
  obtain ⟨v, hv⟩ := Xk.lt_at (xs := [V.int 1, V.int 2, V.int 3, V.int 8]) (j := j) (by simp only [List.length_cons, List.length_nil]; omega)
  refine Xk.x_ixL (Xk.sq_of (b3 _ _ nap h2)) (Xk.at_nat rfl hv) ?_
  obtain ⟨c, rfl, c1, c2⟩ : ∃ c : Int, v = .int c ∧ 1 ≤ c ∧ c ≤ 8 := by
    have hm := List.mem_of_getElem? hv
    simp only [List.mem_cons, List.not_mem_nil, or_false] at hm
    rcases hm with rfl | rfl | rfl | rfl <;> exact ⟨_, rfl, by decide, by decide⟩
  have b03 := Xk.but_trans (Xk.but_same (p := a) s2) b3
  clear hv hj b3 h2 hb2 s2 hp
  wtm_at "xs"
  refine draw hb3 ⟨by omega, by omega⟩ fun g m2 H4 hg b4 hb4 => ?_
  have b04 := Xk.but_trans b03 b4
  clear b03 b4 hb3
  wtm_at "xs"
  refine Xk.x_range (fun i σ' H' => ∃ (t : Str) (m : Int) (y : Option V), σ' = [some (.ref a), some (.str z), some (.str alphS), some (.int c), some (.int g), some (.str t), y] ∧ Xk.But a H H' ∧ H' a = some (.lst [.int m]) ∧ t.length = i ∧ Xk.AllC Xk.okC t = true)
    ⟨by omega, by omega⟩ ⟨_, _, _, rfl, b04, hb4, rfl, rfl⟩ ?_ ?_
  · rintro i σ' H' hi ⟨t, m, y, rfl, b, hb5, ht, hk⟩
    wtm_at "xs"
    refine draw hb5 ⟨by decide, by decide⟩ fun j m H3 hj b3 hb3 => ?_
    obtain ⟨d, hd⟩ := Xk.lt_at (xs := alphS.cps.toList) (j := j) (by show j < 36; omega)
    refine Xk.x_ixS (by decide) (Xk.at_nat rfl hd) ?_
    have ho : Xk.okC d = true := by
      have h1 : alphS.cps.toList.all Xk.okC = true := by decide
      exact List.all_eq_true.mp h1 d (List.mem_of_getElem? hd)
    have hl2 : t.length + (⟨#[d]⟩ : Str).length ≤ 100000 := by rw [one_len]; omega
    refine Xk.x_nAddS hl2 ?_
    exact ⟨_, _, _, rfl, Xk.but_trans b b3, hb3, by rw [Xk.len_add, ht]; rfl, Xk.allC_add hk (by show List.all _ _ = true; simp [ho])⟩
  · rintro σ' H' ⟨t, m, y, rfl, b, hb5, ht, hk⟩
    have l1 := Xk.len_cut t none (some (g : Int))
    have l2 := Xk.len_cut t (some (g : Int)) none
    wtm_at "xs"
    refine Xk.x_nAddS (by rw [Xk.len_add]; omega) ?_
    refine q _ m _ b hb5 ⟨by rw [Xk.len_add, Xk.len_add]; omega, Xk.allC_add (Xk.allC_add (Xk.allC_cut hk) hz2) (Xk.allC_cut hk)⟩ (by rw [Xk.len_add, Xk.len_add]; omega)
--CUT--
theorem lt_irr (a : Str) : ¬ (LT.lt (Array.toList (PySem.Str.cps a)) (Array.toList (PySem.Str.cps a))) := List.lt_irrefl _
theorem lt_tr {a b c : Str} (h : (LT.lt (Array.toList (PySem.Str.cps a)) (Array.toList (PySem.Str.cps b)))) (h' : (LT.lt (Array.toList (PySem.Str.cps b)) (Array.toList (PySem.Str.cps c)))) : (LT.lt (Array.toList (PySem.Str.cps a)) (Array.toList (PySem.Str.cps c))) := List.lt_trans h h'
theorem lt_as {a b : Str} (h : (LT.lt (Array.toList (PySem.Str.cps a)) (Array.toList (PySem.Str.cps b)))) : ¬ (LT.lt (Array.toList (PySem.Str.cps b)) (Array.toList (PySem.Str.cps a))) := fun h' => lt_irr a (lt_tr h h')
theorem nl_lt {a b c : Str} (h : ¬ (LT.lt (Array.toList (PySem.Str.cps b)) (Array.toList (PySem.Str.cps a)))) (h' : (LT.lt (Array.toList (PySem.Str.cps b)) (Array.toList (PySem.Str.cps c)))) : (LT.lt (Array.toList (PySem.Str.cps a)) (Array.toList (PySem.Str.cps c))) := Std.lt_of_le_of_lt (List.not_lt.mp h) h'
theorem lt_nl {a b c : Str} (h : (LT.lt (Array.toList (PySem.Str.cps a)) (Array.toList (PySem.Str.cps b)))) (h' : ¬ (LT.lt (Array.toList (PySem.Str.cps c)) (Array.toList (PySem.Str.cps b)))) : (LT.lt (Array.toList (PySem.Str.cps a)) (Array.toList (PySem.Str.cps c))) := Std.lt_of_lt_of_le h (List.not_lt.mp h')
theorem nl_tr {a b c : Str} (h : ¬ (LT.lt (Array.toList (PySem.Str.cps b)) (Array.toList (PySem.Str.cps a)))) (h' : ¬ (LT.lt (Array.toList (PySem.Str.cps c)) (Array.toList (PySem.Str.cps b)))) : ¬ (LT.lt (Array.toList (PySem.Str.cps c)) (Array.toList (PySem.Str.cps a))) := fun z => h (lt_of_nl z h')
  where lt_of_nl {a b c : Str} (h : (LT.lt (Array.toList (PySem.Str.cps c)) (Array.toList (PySem.Str.cps a)))) (h' : ¬ (LT.lt (Array.toList (PySem.Str.cps c)) (Array.toList (PySem.Str.cps b)))) : (LT.lt (Array.toList (PySem.Str.cps b)) (Array.toList (PySem.Str.cps a))) := nl_lt h' h
theorem nil_le (a : Str) : ¬ (LT.lt (Array.toList (PySem.Str.cps a)) (Array.toList (PySem.Str.cps ""))) := List.not_lt_nil _
/-- a key is below an end -/
def below (k : Str) : Option Str → Bool
  | none => true
  | some t => decide ((LT.lt (Array.toList (PySem.Str.cps k)) (Array.toList (PySem.Str.cps t))))
section
variable {α : Type}
/-- rows with bounds that follow one another -/
def Ch : Str → List (Str × Option Str × α) → Prop
  | _, [] => False
  | s, [r] => r.1 = s ∧ r.2.1 = none
  | s, r :: r2 :: l => r.1 = s ∧ r.2.1 = some r2.1 ∧ (LT.lt (Array.toList (PySem.Str.cps s)) (Array.toList (PySem.Str.cps r2.1))) ∧ Ch r2.1 (r2 :: l)
theorem Ch.hd {s : Str} : ∀ {l : List (Str × Option Str × α)}, Ch s l → ∃ r t, l = r :: t ∧ r.1 = s
  | [], h => h.elim
  | [r], h => ⟨r, [], rfl, h.1⟩
  | r :: r2 :: l, h => ⟨r, r2 :: l, rfl, h.1⟩
theorem Ch.cons {s b : Str} {x : α} {l : List (Str × Option Str × α)} (h : (LT.lt (Array.toList (PySem.Str.cps s)) (Array.toList (PySem.Str.cps b)))) (hl : Ch b l) : Ch s ((s, some b, x) :: l) := by
  obtain ⟨r, t, rfl, rfl⟩ := hl.hd
  exact ⟨rfl, rfl, h, hl⟩
/-- a row cut at a bound -/
def cutR (b : Str) (r : Str × Option Str × α) : List (Str × Option Str × α) := if (decide ((LT.lt (Array.toList (PySem.Str.cps r.1)) (Array.toList (PySem.Str.cps b)))) && below b r.2.1) = true then [(r.1, some b, r.2.2), (b, r.2.1, r.2.2)] else [r]
def cutL (b : Option Str) (l : List (Str × Option Str × α)) : List (Str × Option Str × α) := match b with
  | none => l
  | some b => l.flatMap (cutR b)
theorem cut_off {s b : Str} : ∀ {l : List (Str × Option Str × α)}, Ch s l → ¬ (LT.lt (Array.toList (PySem.Str.cps s)) (Array.toList (PySem.Str.cps b))) → l.flatMap (cutR b) = l
  | [], h, _ => h.elim
  | [r], h, n => by
    have e : cutR b r = [r] := if_neg (by rw [h.1, decide_eq_false n, Bool.false_and]; decide)
    rw [List.flatMap_cons, e]
    rfl
  | r :: r2 :: l, h, n => by
    have e : cutR b r = [r] := if_neg (by rw [h.1, decide_eq_false n, Bool.false_and]; decide)
    have n2 : ¬ (LT.lt (Array.toList (PySem.Str.cps r2.1)) (Array.toList (PySem.Str.cps b))) := fun z => n (lt_tr h.2.2.1 z)
    rw [List.flatMap_cons, e, cut_off h.2.2.2 n2]
    rfl
theorem Ch.cut (b : Str) {s : Str} : ∀ {l : List (Str × Option Str × α)}, Ch s l → Ch s (l.flatMap (cutR b)) ∧ (l.flatMap (cutR b)).length ≤ l.length + 1
  | [], h => h.elim
  | [r], h => by
    obtain ⟨a, e, x⟩ := r
    obtain ⟨rfl, rfl⟩ : a = s ∧ e = none := h
    rw [List.flatMap_cons, List.flatMap_nil, List.append_nil]
    by_cases c : (LT.lt (Array.toList (PySem.Str.cps a)) (Array.toList (PySem.Str.cps b)))
    · have e : cutR b (a, none, x) = [(a, some b, x), (b, none, x)] := if_pos (by rw [decide_eq_true c]; rfl)
      rw [e]
      exact ⟨⟨rfl, rfl, c, rfl, rfl⟩, Nat.le_refl _⟩
    · have e : cutR b (a, none, x) = [(a, none, x)] := if_neg (by rw [decide_eq_false c, Bool.false_and]; decide)
      rw [e]
      exact ⟨⟨rfl, rfl⟩, Nat.le_succ _⟩
  | r :: r2 :: l, h => by
    obtain ⟨a, e, x⟩ := r
    obtain ⟨rfl, rfl, h3, h4⟩ : a = s ∧ e = some r2.1 ∧ (LT.lt (Array.toList (PySem.Str.cps s)) (Array.toList (PySem.Str.cps r2.1))) ∧ Ch r2.1 (r2 :: l) := h
    have ih := Ch.cut b h4
    by_cases c : (LT.lt (Array.toList (PySem.Str.cps a)) (Array.toList (PySem.Str.cps b))) ∧ (LT.lt (Array.toList (PySem.Str.cps b)) (Array.toList (PySem.Str.cps r2.1)))
    · have e : cutR b (a, some r2.1, x) = [(a, some b, x), (b, some r2.1, x)] := if_pos (by
        show (decide ((LT.lt (Array.toList (PySem.Str.cps a)) (Array.toList (PySem.Str.cps b)))) && decide ((LT.lt (Array.toList (PySem.Str.cps b)) (Array.toList (PySem.Str.cps r2.1))))) = true
        rw [decide_eq_true c.1, decide_eq_true c.2]
        rfl)
      rw [List.flatMap_cons, e, cut_off h4 (lt_as c.2)]
      exact ⟨⟨rfl, rfl, c.1, Ch.cons c.2 h4⟩, Nat.le_refl _⟩
    · have e : cutR b (a, some r2.1, x) = [(a, some r2.1, x)] := if_neg (by
        show ¬ (decide ((LT.lt (Array.toList (PySem.Str.cps a)) (Array.toList (PySem.Str.cps b)))) && decide ((LT.lt (Array.toList (PySem.Str.cps b)) (Array.toList (PySem.Str.cps r2.1))))) = true
        rw [Bool.and_eq_true, decide_eq_true_eq, decide_eq_true_eq]
        exact c)
      rw [List.flatMap_cons, e]
      exact ⟨Ch.cons h3 ih.1, Nat.succ_le_succ ih.2⟩
theorem cutL_ok (b : Option Str) {s : Str} {l : List (Str × Option Str × α)} (h : Ch s l) : Ch s (cutL b l) ∧ (cutL b l).length ≤ l.length + 1 := by
  cases b with
  | none => exact ⟨h, Nat.le_succ _⟩
  | some b => exact h.cut b
/-- no row goes over a bound at which it was cut -/
theorem cut_no {b : Str} {l : List (Str × Option Str × α)} {r : Str × Option Str × α} (h : r ∈ l.flatMap (cutR b)) : (decide ((LT.lt (Array.toList (PySem.Str.cps r.1)) (Array.toList (PySem.Str.cps b)))) && below b r.2.1) = false := by
  obtain ⟨r0, _, h1⟩ := List.mem_flatMap.mp h
  unfold cutR at h1
  split at h1
  · have e : decide ((LT.lt (Array.toList (PySem.Str.cps b)) (Array.toList (PySem.Str.cps b)))) = false := decide_eq_false (lt_irr b)
    rcases List.mem_cons.mp h1 with rfl | h1
    · show (_ && decide ((LT.lt (Array.toList (PySem.Str.cps b)) (Array.toList (PySem.Str.cps b))))) = false
      rw [e, Bool.and_false]
    · rw [List.mem_singleton.mp h1]
      show (decide ((LT.lt (Array.toList (PySem.Str.cps b)) (Array.toList (PySem.Str.cps b)))) && _) = false
      rw [e]
      rfl
  · rename_i c
    rw [List.mem_singleton.mp h1]
    exact Bool.eq_false_iff.mpr c
theorem Ch.wf {s : Str} : ∀ {l : List (Str × Option Str × α)}, Ch s l → ∀ r ∈ l, ∀ t, r.2.1 = some t → (LT.lt (Array.toList (PySem.Str.cps r.1)) (Array.toList (PySem.Str.cps t)))
  | [], h, _, _, _, _ => h.elim
  | [r], h, r', hr, t, e => by
    rw [List.mem_singleton.mp hr, h.2] at e
    cases e
  | r :: r2 :: l, h, r', hr, t, e => by
    rcases List.mem_cons.mp hr with rfl | hr
    · rw [h.2.1] at e
      cases e
      rw [h.1]
      exact h.2.2.1
    · exact Ch.wf h.2.2.2 r' hr t e
theorem Ch.cover {k s : Str} : ∀ {l : List (Str × Option Str × α)}, Ch s l → ¬ (LT.lt (Array.toList (PySem.Str.cps k)) (Array.toList (PySem.Str.cps s))) → ∃ r ∈ l, (!decide ((LT.lt (Array.toList (PySem.Str.cps k)) (Array.toList (PySem.Str.cps r.1)))) && below k r.2.1) = true
  | [], h, _ => h.elim
  | [r], h, n => ⟨r, List.mem_cons_self .., by rw [h.1, h.2, decide_eq_false n]; rfl⟩
  | r :: r2 :: l, h, n => by
    by_cases c : (LT.lt (Array.toList (PySem.Str.cps k)) (Array.toList (PySem.Str.cps r2.1)))
    · refine ⟨r, List.mem_cons_self .., ?_⟩
      rw [h.1, h.2.1, decide_eq_false n]
      show decide ((LT.lt (Array.toList (PySem.Str.cps k)) (Array.toList (PySem.Str.cps r2.1)))) = true
      exact decide_eq_true c
    · obtain ⟨r', h1, h2⟩ := Ch.cover h.2.2.2 c
      exact ⟨r', List.mem_cons_of_mem _ h1, h2⟩
theorem Ch.map {β : Type} {f : (Str × Option Str × α) → (Str × Option Str × β)} (hf : ∀ r, (f r).1 = r.1 ∧ (f r).2.1 = r.2.1) {s : Str} : ∀ {l : List (Str × Option Str × α)}, Ch s l → Ch s (l.map f)
  | [], h => h.elim
  | [r], h => ⟨(hf r).1.trans h.1, (hf r).2.trans h.2⟩
  | r :: r2 :: l, h => by
    have ih := Ch.map hf h.2.2.2
    refine ⟨(hf r).1.trans h.1, ?_, ?_, ?_⟩
    · rw [(hf r).2, h.2.1, (hf r2).1]
    · show (LT.lt (Array.toList (PySem.Str.cps s)) (Array.toList (PySem.Str.cps (f r2).1)))
      rw [(hf r2).1]
      exact h.2.2.1
    · show Ch (f r2).1 _
      rw [(hf r2).1]
      exact ih
end
--CUT--
def ov : Option Str → V
  | none => .non
  | some s => .str s
abbrev Br := Str × Option Str × Int × Int
def Br.v (r : Br) : List V := [.str r.1, ov r.2.1, .int r.2.2.1, .int r.2.2.2]
def Br.ok (r : Br) : Prop := Ok r.1 ∧ ∀ t, r.2.1 = some t → Ok t
structure RowsAt (H : Hp) (p : Addr) (L : List (Addr × Br)) : Prop where
  lst : H p = some (.lst (L.map fun e => V.ref e.1))
  tup : ∀ e ∈ L, H e.1 = some (.tup (Br.v e.2))
theorem RowsAt.same {H H' : Hp} {p : Addr} {L : List (Addr × Br)} (h : RowsAt H p L) (s : Same H H') : RowsAt H' p L := ⟨s _ _ h.lst, fun e he => s _ _ (h.tup e he)⟩
def sp_key_in (K : PySem.W.Frag) : Sp := fun vs H Q _ => ∃ (k s : Str) (e : Option Str), vs = [.str k, .str s, ov e] ∧ Q (.bl (!decide ((LT.lt (Array.toList (PySem.Str.cps k)) (Array.toList (PySem.Str.cps s)))) && below k e)) H
theorem ok_key_in (T : Txt K mg) : FnOk P w K mg base CX0 1 T.f_key_in T.d_key_in ["key", "start", "end"] (sp_key_in K) := by
  refine T.F_key_in.ok sc_key_in (fun vs H Q E h => ?_) (fun cdv A outer s H vs Q E hr h => ?_)
  · obtain ⟨k, s, e, rfl, _⟩ := h
    rfl
  obtain ⟨k, s, e, rfl, q⟩ := h
  refine ⟨_, (pss_one (ps_ret ((pe_and (pe_cmpR Xk.op_nLeS (pv 1) (pv 0) (nomark _)) (pe_one ((pe_or (pe_cmpR Xk.op_nIsN (pv 2) (pe_non) (nomark _)) (pe_one (pe_cmpR Xk.op_nLtS (pv 0) (pv 2) (nomark _)))))))))), ?_⟩
  wtm_at "x0"
  wtm_at "xs"
  refine Xk.x_itn (fun h => ?_) (fun h => ?_)
  · rw [decide_eq_false h] at q
    cases e with
    | none =>
      dsimp only [ov]
      wtm_at "xs"
      exact q
    | some t =>
      dsimp only [ov]
      wtm_at "xs"
      exact q
  · rw [decide_eq_true h] at q
    exact q
def withinB (s : Str) (e : Option Str) (lo : Str) (hi : Option Str) : Bool := !decide ((LT.lt (Array.toList (PySem.Str.cps s)) (Array.toList (PySem.Str.cps lo)))) && (match hi with
  | none => true
  | some h => match e with
    | none => false
    | some t => !decide ((LT.lt (Array.toList (PySem.Str.cps h)) (Array.toList (PySem.Str.cps t)))))
def sp_is_within (K : PySem.W.Frag) : Sp := fun vs H Q _ => ∃ (s lo : Str) (e hi : Option Str), vs = [.str s, ov e, .str lo, ov hi] ∧ Q (.bl (withinB s e lo hi)) H
theorem ok_is_within (T : Txt K mg) : FnOk P w K mg base CX0 1 T.f_is_within T.d_is_within ["start", "end", "low", "high"] (sp_is_within K) := by
  refine T.F_is_within.ok sc_is_within (fun vs H Q E h => ?_) (fun cdv A outer s H vs Q E hr h => ?_)
  · obtain ⟨s, lo, e, hi, rfl, _⟩ := h
    rfl
  obtain ⟨s, lo, e, hi, rfl, q⟩ := h
  refine ⟨_, (pss_one (ps_ret ((pe_and (pe_cmpR Xk.op_nLeS (pv 2) (pv 0) (nomark _)) (pe_one ((pe_or (pe_cmpR Xk.op_nIsN (pv 3) (pe_non) (nomark _)) (pe_one ((pe_and (pe_cmpR Xk.op_nNotN (pv 1) (pe_non) (nomark _)) (pe_one (pe_cmpR Xk.op_nLeS (pv 1) (pv 3) (nomark _))))))))))))), ?_⟩
  wtm_at "x0"
  unfold withinB at q
  wtm_at "xs"
  refine Xk.x_itn (fun h => ?_) (fun h => ?_)
  · rw [decide_eq_false h] at q
    cases hi with
    | none =>
      dsimp only [ov]
      wtm_at "xs"
      exact q
    | some t =>
      cases e with
      | none =>
        dsimp only [ov]
        wtm_at "xs"
        exact q
      | some u =>
        dsimp only [ov]
        wtm_at "xs"
        exact q
  · rw [decide_eq_true h] at q
    exact q
--CUT--
theorem keep_tup {H : Hp} {a c : Addr} {xs ys : List V} {o : HO} (h : H a = some (.tup xs)) (h' : H c = some (.lst ys)) : upd H c o a = some (.tup xs) :=
  (upd_ne (fun z => by subst z; rw [h] at h'; cases h')).trans h
structure RgAt (H : Hp) (p : Addr) (R : List (Addr × Str × Int)) : Prop where
  tup : H p = some (.tup (R.map fun e => V.ref e.1))
  it : ∀ e ∈ R, H e.1 = some (.tup [.str e.2.1, .int e.2.2])
theorem RgAt.same {H H' : Hp} {p : Addr} {R : List (Addr × Str × Int)} (h : RgAt H p R) (s : Same H H') : RgAt H' p R := ⟨s _ _ h.tup, fun e he => s _ _ (h.it e he)⟩
/-- ranges with their ends -/
def endsOf : List (Str × Int) → List (Str × Option Str × Int)
  | [] => []
  | [(s, c)] => [(s, none, c)]
  | (s, c) :: (t, d) :: r => (s, some t, c) :: endsOf ((t, d) :: r)
theorem endsOf_len : ∀ l, (endsOf l).length = l.length
  | [] => rfl
  | [_] => rfl
  | (s, c) :: (t, d) :: r => congrArg (· + 1) (endsOf_len ((t, d) :: r))
theorem endsOf_at : ∀ (l : List (Str × Int)) (i : Nat), (endsOf l)[i]? = l[i]?.map fun x => (x.1, l[i + 1]?.map (·.1), x.2)
  | [], i => rfl
  | [(s, c)], 0 => rfl
  | [(s, c)], i + 1 => rfl
  | (s, c) :: (t, d) :: r, 0 => rfl
  | (s, c) :: (t, d) :: r, i + 1 => endsOf_at ((t, d) :: r) i
def sp_with_ends (K : PySem.W.Frag) : Sp := fun vs H Q _ => ∃ p R, vs = [.ref p] ∧ RgAt H p R ∧ 1 ≤ R.length ∧ R.length ≤ 50 ∧
  ∀ H' q (W : List (Addr × Str × Option Str × Int)), Same H H' → H' q = some (.lst (W.map fun e => V.ref e.1)) → (∀ e ∈ W, H' e.1 = some (.tup [.str e.2.1, ov e.2.2.1, .int e.2.2.2])) → W.map (·.2) = endsOf (R.map (·.2)) → Q (.ref q) H'
theorem ok_with_ends (T : Txt K mg) : FnOk P w K mg base CX0 1 T.f_with_ends T.d_with_ends ["ranges"] (sp_with_ends K) := by
  refine T.F_with_ends.ok sc_with_ends (fun vs H Q E h => ?_) (fun cdv A outer s H vs Q E hr h => ?_)
  · obtain ⟨p, R, rfl, _⟩ := h
    rfl
  obtain ⟨p, R, rfl, hR, hl1, hl2, q⟩ := h
  refine ⟨_, (pss_cons (ps_set (i := 1) sc_with_ends.nd rfl (Or.inl rfl) (pe_op op_cat (pe_lc (own := [("start", 2), ("cell", 3)]) (g := gTup K 2 (gCons (gName 2) (gCons (gName 3) gNil))) (tt := tYes) rfl sc_with_ends.nd  (pi_tup (pe_slice sl_tupA (pv 0) (po_some (pe_int)) po_none)) (blkOk_by (N := N_with_ends) (sc := defScope s_with_ends) (own := [("start", 2), ("cell", 3)]) (by decide +kernel)) (fun _ _ _ _ _ => Xk.k_gtup (K := K) (by rfl) rfl (pgs_cons (pg_name (i := 2) sc_with_ends.nd rfl (Or.inl rfl)) (pgs_cons (pg_name (i := 3) sc_with_ends.nd rfl (Or.inl rfl)) pgs_nil))) (fun _ _ _ _ _ => pts_nil) (fun _ _ _ _ _ => (pv 2))) (pe_lst (pa_cons (pe_non) pa_nil))))
      (pss_one (ps_ret (pe_lc (own := [("end", 4), ("start", 2), ("cell", 3)]) (g := gTup K 2 (gCons (gTup K 2 (gCons (gName 2) (gCons (gName 3) gNil))) (gCons (gName 4) gNil))) (tt := tYes) rfl sc_with_ends.nd  (Xk.k_TL (K := K) (by rfl) (by rfl) T.m_zip (pa_cons (pv 0) (pa_cons (pv 1) pa_nil))) (blkOk_by (N := N_with_ends) (sc := defScope s_with_ends) (own := [("end", 4), ("start", 2), ("cell", 3)]) (by decide +kernel)) (fun _ _ _ _ _ => Xk.k_gtup (K := K) (by rfl) rfl (pgs_cons (Xk.k_gtup (K := K) (by rfl) rfl (pgs_cons (pg_name (i := 2) sc_with_ends.nd rfl (Or.inl rfl)) (pgs_cons (pg_name (i := 3) sc_with_ends.nd rfl (Or.inl rfl)) pgs_nil))) (pgs_cons (pg_name (i := 4) sc_with_ends.nd rfl (Or.inl rfl)) pgs_nil))) (fun _ _ _ _ _ => pts_nil) (fun _ _ _ _ _ => (pe_tup (pa_cons (pv 2) (pa_cons (pv 4) (pa_cons (pv 3) pa_nil))))))))), ?_⟩
  wtm_at "x0"
  wtm_at "xs"
  refine Xk.x_slA hR.tup fun q1 H1 s1 h1 => ?_
  rw [Xk.cut_drop (k := 1) (n := 1) rfl, ← List.map_drop] at h1
  refine Xk.x_lcT (xs := (R.drop 1).map fun e => V.ref e.1) (fun Dl i H' => Same H H' ∧ Same H1 H' ∧ H' Dl = some (.lst (((R.drop 1).take i).map fun e => V.str e.2.1))) (Xk.st_of h1) ?_ ?_ ?_ ?_
  · intro Dl hD
    exact ⟨Xk.same_mut s1 (Xk.free_back hD s1), Xk.same_fr hD, upd_same⟩
  · rintro Dl i H' hD ⟨_, s2, _⟩
    exact Xk.st_of (s2 _ _ h1)
  · rintro Dl hD i x H' hi ⟨s3, s2, h2⟩
    obtain ⟨e, he, rfl⟩ := Xk.of_map_at hi
    have hm := s3 _ _ (hR.it e (List.mem_of_mem_drop (List.mem_of_getElem? he)))
    refine Xk.x_gTup (Xk.st_of hm) rfl ?_
    wtm_at "xs"
    refine ⟨rfl, ?_⟩
    wtm_at "xs"
    refine ⟨_, h2, Xk.size_lt (by simp only [List.length_map, List.length_take, List.length_drop]; omega), Xk.same_mut s3 (Xk.free_back hD s1), Xk.same_mut s2 hD, ?_⟩
    rw [upd_same, List.take_add_one, he, List.map_append]
    rfl
  · rintro Dl H2 hD ⟨s3, s2, h2⟩
    rw [List.length_map, List.take_length] at h2
    wtm_at "xs"
    intro nl H3 hnl s4 h3
    have h23 := s4 _ _ h2
    refine Xk.x_cat h23 h3 (by simp only [List.length_map, List.length_drop, List.length_cons, List.length_nil]; omega) fun el H4 hel s5 h4 => ?_
    wtm_at "xs"
    have s04 := s3.trans (s4.trans s5)
    have hE : ∀ i y, ((R.drop 1).map (fun e => V.str e.2.1) ++ [V.non])[i]? = some y → y = ov ((R.map (·.2))[i + 1]?.map (·.1)) := by
      intro i y hy
      rw [List.getElem?_map]
      by_cases hi : i < (R.drop 1).length
      · rw [List.getElem?_append_left (by rw [List.length_map]; exact hi), List.getElem?_map, List.getElem?_drop, Nat.add_comm 1 i] at hy
        obtain ⟨e, he, rfl⟩ := Option.map_eq_some_iff.mp hy
        rw [he]
        rfl
      · have h6 := Xk.at_lt hy
        rw [List.length_append, List.length_map] at h6
        rw [List.length_drop] at hi h6
        have h7 : i + 1 = R.length := by
          simp only [List.length_cons, List.length_nil] at h6
          omega
        rw [List.getElem?_append_right (by rw [List.length_map, List.length_drop]; omega), List.length_map, List.length_drop, show i - (R.length - 1) = 0 by omega] at hy
        rw [h7, List.getElem?_eq_none (Nat.le_refl _)]
        exact (Option.some.inj hy).symm
    refine Xk.x_lcZ (us := R.map fun e => V.ref e.1) (ws := (R.drop 1).map (fun e => V.str e.2.1) ++ [V.non]) (fun Dl i H' => Same H4 H' ∧ ∃ W : List (Addr × Str × Option Str × Int), H' Dl = some (.lst (W.map fun e => V.ref e.1)) ∧ (∀ e ∈ W, H' e.1 = some (.tup [.str e.2.1, ov e.2.2.1, .int e.2.2.2])) ∧ W.map (·.2) = (endsOf (R.map (·.2))).take i)
      (by simp only [List.length_map, List.length_append, List.length_drop, List.length_cons, List.length_nil]; omega) (Xk.st_of (s04 _ _ hR.tup)) (Xk.sq_of h4) ?_ ?_ ?_ ?_
    · intro Dl hD
      exact ⟨Xk.same_fr hD, [], upd_same, fun e z => (by cases z), rfl⟩
    · rintro Dl i H' hD ⟨s6, _⟩
      exact ⟨Xk.st_of ((s04.trans s6) _ _ hR.tup), Xk.sq_of (s6 _ _ h4)⟩
    · rintro Dl hD i x y H5 T H6 hi hj ⟨s6, W, w1, w2, w3⟩ hT s7 hT2
      obtain ⟨e, he, rfl⟩ := Xk.of_map_at hi
      have hy := hE i y hj
      subst hy
      have s67 := s6.trans s7
      refine Xk.x_gTup (Xk.st_of hT2) rfl ?_
      wtm_at "xs"
      have hm := (s04.trans s67) _ _ (hR.it e (List.mem_of_getElem? he))
      refine Xk.x_gTup (Xk.st_of hm) rfl ?_
      wtm_at "xs"
      refine ⟨rfl, ?_⟩
      wtm_at "xs"
      intro tp H7 htp s8 h8
      have s78 := s7.trans s8
      have w17 := s78 _ _ w1
      have hWl : W.length ≤ R.length := by
        have h9 := congrArg List.length w3
        rw [List.length_map, List.length_take, endsOf_len, List.length_map] at h9
        omega
      refine ⟨_, w17, Xk.size_lt (by rw [List.length_map]; omega), Xk.same_mut (s6.trans s78) hD, W ++ [(tp, e.2.1, ((R.map (·.2))[i + 1]?.map (·.1)), e.2.2)], by rw [upd_same, List.map_append]; rfl, fun z hz => ?_, ?_⟩
      · rcases List.mem_append.mp hz with hz | hz
        · exact keep_tup (s78 _ _ (w2 z hz)) w17
        · rw [List.mem_singleton.mp hz]
          exact keep_tup h8 w17
      · have e9 : (R.map (·.2))[i]? = some e.2 := Xk.map_at he
        rw [List.map_append, w3, List.take_add_one, endsOf_at, e9]
        rfl
    · rintro Dl H5 hD ⟨s6, W, w1, w2, w3⟩
      wtm_at "xs"
      refine q _ Dl W (s04.trans s6) w1 w2 ?_
      rw [w3, List.length_map, List.take_of_length_le]
      rw [endsOf_len, List.length_map]
      exact Nat.le_refl _
--CUT--
def firstR (l : List (Str × Int)) : List Br := (endsOf l).map fun x => (x.1, x.2.1, x.2.2, 1)
theorem firstR_len (l : List (Str × Int)) : (firstR l).length = l.length := by
  unfold firstR
  rw [List.length_map, endsOf_len]
theorem firstR_at (l : List (Str × Int)) (i : Nat) : (firstR l)[i]? = l[i]?.map fun x => (x.1, l[i + 1]?.map (·.1), x.2, 1) := by
  unfold firstR
  rw [List.getElem?_map, endsOf_at, Option.map_map]
  rfl
/-- one more row -/
theorem RowsAt.snoc {H H' : Hp} {p t : Addr} {L : List (Addr × Br)} {r : Br} (h : RowsAt H p L) (s : Same H H') (h2 : H' t = some (.tup (Br.v r))) : RowsAt (upd H' p (.lst ((L.map fun e => V.ref e.1) ++ [.ref t]))) p (L ++ [(t, r)]) := by
  have h3 := s _ _ h.lst
  refine ⟨by rw [upd_same, List.map_append]; rfl, fun e he => ?_⟩
  rcases List.mem_append.mp he with he | he
  · exact keep_tup (s _ _ (h.tup e he)) h3
  · rw [List.mem_singleton.mp he]
    exact keep_tup h2 h3
def sp_first_beliefs (K : PySem.W.Frag) : Sp := fun vs H Q _ => ∃ p R, vs = [.ref p] ∧ RgAt H p R ∧ 1 ≤ R.length ∧ R.length ≤ 50 ∧
  ∀ H' q L, Same H H' → Xk.Fr q H → RowsAt H' q L → L.map (·.2) = firstR (R.map (·.2)) → Q (.ref q) H'
theorem ok_first_beliefs (T : Txt K mg) : FnOk P w K mg base CX0 2 T.f_first_beliefs T.d_first_beliefs ["ranges"] (sp_first_beliefs K) := by
  refine T.F_first_beliefs.ok sc_first_beliefs (fun vs H Q E h => ?_) (fun cdv A outer s H vs Q E hr h => ?_)
  · obtain ⟨p, R, rfl, _⟩ := h
    rfl
  obtain ⟨p, R, rfl, hR, hl1, hl2, q⟩ := h
  refine ⟨_, (pss_one (ps_ret (pe_lc (own := [("start", 1), ("end", 2), ("cell", 3)]) (g := gTup K 3 (gCons (gName 1) (gCons (gName 2) (gCons (gName 3) gNil)))) (tt := tYes) rfl sc_first_beliefs.nd  (pi_list (pe_call (ok_with_ends T) (hr.mono (by decide)) (by rfl) T.g_with_ends T.F_with_ends.kp T.b_with_ends .nil pass0 (pa_cons (pv 0) pa_nil))) (blkOk_by (N := N_first_beliefs) (sc := defScope s_first_beliefs) (own := [("start", 1), ("end", 2), ("cell", 3)]) (by decide +kernel)) (fun _ _ _ _ _ => Xk.k_gtup (K := K) (by rfl) rfl (pgs_cons (pg_name (i := 1) sc_first_beliefs.nd rfl (Or.inl rfl)) (pgs_cons (pg_name (i := 2) sc_first_beliefs.nd rfl (Or.inl rfl)) (pgs_cons (pg_name (i := 3) sc_first_beliefs.nd rfl (Or.inl rfl)) pgs_nil)))) (fun _ _ _ _ _ => pts_nil) (fun _ _ _ _ _ => (pe_tup (pa_cons (pv 1) (pa_cons (pv 2) (pa_cons (pv 3) (pa_cons (pe_int) pa_nil))))))))), ?_⟩
  wtm_at "x0"
  wtm_at "xs"
  refine ⟨p, R, rfl, hR, hl1, hl2, fun H1 wp W s1 hw1 hw2 hw3 => ?_⟩
  have hWl : W.length = R.length := by
    have h9 := congrArg List.length hw3
    rw [List.length_map, endsOf_len, List.length_map] at h9
    exact h9
  refine Xk.x_lcL (xs := W.map fun e => V.ref e.1) (fun Dl i H' => Same H1 H' ∧ ∃ L, RowsAt H' Dl L ∧ L.map (·.2) = (firstR (R.map (·.2))).take i) (Xk.sq_of hw1) ?_ ?_ ?_ ?_
  · intro Dl hD
    exact ⟨Xk.same_fr hD, [], ⟨upd_same, fun e z => (by cases z)⟩, rfl⟩
  · rintro Dl i H' hD ⟨s2, _⟩
    exact Xk.sq_of (s2 _ _ hw1)
  · rintro Dl hD i x H' hi ⟨s2, L, hL, hL2⟩
    obtain ⟨e, he, rfl⟩ := Xk.of_map_at hi
    refine Xk.x_gTup (Xk.st_of (s2 _ _ (hw2 e (List.mem_of_getElem? he)))) rfl ?_
    wtm_at "xs"
    refine ⟨rfl, ?_⟩
    wtm_at "xs"
    intro tp H3 htp s3 h3
    have hLl : L.length ≤ R.length := by
      have h9 := congrArg List.length hL2
      rw [List.length_map, List.length_take, firstR_len, List.length_map] at h9
      omega
    refine ⟨_, s3 _ _ hL.lst, Xk.size_lt (by rw [List.length_map]; omega), Xk.same_mut (s2.trans s3) hD, _, hL.snoc (r := (e.2.1, e.2.2.1, e.2.2.2, 1)) s3 h3, ?_⟩
    have e9 : (endsOf (R.map (·.2)))[i]? = some e.2 := by
      rw [← hw3]
      exact Xk.map_at he
    have e10 : (firstR (R.map (·.2)))[i]? = some (e.2.1, e.2.2.1, e.2.2.2, 1) := by
      unfold firstR
      rw [List.getElem?_map, e9]
      rfl
    rw [List.map_append, hL2, List.take_add_one, e10]
    rfl
  · rintro Dl H2 hD ⟨s2, L, hL, hL2⟩
    refine q H2 Dl L (s1.trans s2) (Xk.free_back hD s1) hL ?_
    rw [hL2, List.length_map, List.take_of_length_le]
    rw [firstR_len, List.length_map, hWl]
    exact Nat.le_refl _
--CUT--
theorem filt_next {β : Type} {f : β → Bool} {L : List (Addr × β)} {i : Nat} {e : Addr × β} (he : L[i]? = some e) : ((L.take (i + 1)).map (·.2)).filter f = ((L.take i).map (·.2)).filter f ++ (if f e.2 = true then [e.2] else []) := by
  rw [List.take_add_one, he, List.map_append, List.filter_append]
  congr 1
  show List.filter f [e.2] = _
  rw [List.filter_cons]
  rfl
theorem filt_len {β : Type} {f : β → Bool} {L : List (Addr × β)} {i : Nat} : (((L.take i).map (·.2)).filter f).length ≤ L.length :=
  Nat.le_trans (List.length_filter_le _ _) (by rw [List.length_map, List.length_take]; omega)
/-- the first cell that has the key -/
def hasK (k : Str) (r : Br) : Bool := !decide ((LT.lt (Array.toList (PySem.Str.cps k)) (Array.toList (PySem.Str.cps r.1)))) && below k r.2.1
def sp_cell_of (K : PySem.W.Frag) : Sp := fun vs H Q _ => ∃ p L k, vs = [.ref p, .str k] ∧ RowsAt H p L ∧ L.length ≤ 50 ∧ ∃ r, ((L.map (·.2)).filter (hasK k))[0]? = some r ∧
  ∀ H', Same H H' → Q (.int r.2.2.1) H'
theorem ok_cell_of (T : Txt K mg) : FnOk P w K mg base CX0 2 T.f_cell_of T.d_cell_of ["beliefs", "key"] (sp_cell_of K) := by
  refine T.F_cell_of.ok sc_cell_of (fun vs H Q E h => ?_) (fun cdv A outer s H vs Q E hr h => ?_)
  · obtain ⟨p, L, k, rfl, _⟩ := h
    rfl
  obtain ⟨p, L, k, rfl, hL, hl, r, hr0, q⟩ := h
  refine ⟨_, (pss_one (ps_ret (pe_ix (Xk.k_ixL (K := K) (by rfl)) (pe_lc (own := [("start", 2), ("end", 3), ("cell", 4), ("epoch", 5)]) (g := gTup K 4 (gCons (gName 2) (gCons (gName 3) (gCons (gName 4) (gCons (gName 5) gNil))))) rfl sc_cell_of.nd  (pi_list (pv 0)) (blkOk_by (N := N_cell_of) (sc := defScope s_cell_of) (own := [("start", 2), ("end", 3), ("cell", 4), ("epoch", 5)]) (by decide +kernel)) (fun _ _ _ _ _ => Xk.k_gtup (K := K) (by rfl) rfl (pgs_cons (pg_name (i := 2) sc_cell_of.nd rfl (Or.inl rfl)) (pgs_cons (pg_name (i := 3) sc_cell_of.nd rfl (Or.inl rfl)) (pgs_cons (pg_name (i := 4) sc_cell_of.nd rfl (Or.inl rfl)) (pgs_cons (pg_name (i := 5) sc_cell_of.nd rfl (Or.inl rfl)) pgs_nil))))) (fun _ _ _ _ _ => pts_one (pt_val (pe_call (ok_key_in T) (hr.mono (by decide)) (by rfl) T.g_key_in T.F_key_in.kp T.b_key_in .nil pass0 (pa_cons (pv 1) (pa_cons (pv 2) (pa_cons (pv 3) pa_nil)))))) (fun _ _ _ _ _ => (pv 4))) (pe_int) (fun _ _ => rfl)))), ?_⟩
  wtm_at "x0"
  have hl0 := Xk.sq_of (K := K) hL.lst
  wtm_at "xs"
  refine Xk.x_lcL (xs := L.map fun e => V.ref e.1) (fun Dl i H' => Same H H' ∧ H' Dl = some (.lst ((((L.take i).map (·.2)).filter (hasK k)).map fun r => V.int r.2.2.1))) hl0 ?_ ?_ ?_ ?_
  · intro Dl hD
    exact ⟨Xk.same_fr hD, upd_same⟩
  · rintro Dl i H' hD ⟨s2, _⟩
    exact Xk.sq_of (s2 _ _ hL.lst)
  · rintro Dl hD i x H' hi ⟨s2, h2⟩
    obtain ⟨e, he, rfl⟩ := Xk.of_map_at hi
    refine Xk.x_gTup (Xk.st_of (s2 _ _ (hL.tup e (List.mem_of_getElem? he)))) rfl ?_
    dsimp only [Br.v]
    wtm_at "xs"
    refine ⟨rfl, ?_⟩
    wtm_at "xs"
    refine ⟨k, e.2.1, e.2.2.1, rfl, ?_⟩
    have e1 := filt_next (f := hasK k) he
    have e2 := filt_len (f := hasK k) (L := L) (i := i)
    wtm_at "xs"
    refine Xk.x_itb (b := hasK k e.2) (fun hk => ?_) (fun hk => ?_)
    · rw [hk, if_pos rfl] at e1
      wtm_at "xs"
      refine ⟨_, h2, Xk.size_lt (by rw [List.length_map]; omega), Xk.same_mut s2 hD, ?_⟩
      rw [upd_same, e1, List.map_append]
      rfl
    · rw [hk, if_neg (by decide), List.append_nil] at e1
      refine ⟨s2, ?_⟩
      rw [e1]
      exact h2
  · rintro Dl H2 hD ⟨s2, h2⟩
    rw [List.length_map, List.take_length] at h2
    wtm_at "xs"
    exact q H2 s2
def sp__law_cell (K : PySem.W.Frag) : Sp := fun vs H Q _ => ∃ p L k, vs = [.ref p, .str k] ∧ RowsAt H p L ∧ L.length ≤ 50 ∧ ∃ r, ((L.map (·.2)).filter (hasK k))[0]? = some r ∧
  ∀ H', Same H H' → Q (.int r.2.2.1) H'
theorem ok__law_cell (T : Txt K mg) : FnOk P w K mg base CX0 1 T.f__law_cell T.d__law_cell ["rows", "key"] (sp__law_cell K) := by
  refine T.F__law_cell.ok sc__law_cell (fun vs H Q E h => ?_) (fun cdv A outer s H vs Q E hr h => ?_)
  · obtain ⟨p, L, k, rfl, _⟩ := h
    rfl
  obtain ⟨p, L, k, rfl, hL, hl, r, hr0, q⟩ := h
  refine ⟨_, (pss_one (ps_ret (pe_ix (Xk.k_ixL (K := K) (by rfl)) (pe_lc (own := [("row", 2)]) (g := gName 2) rfl sc__law_cell.nd  (pi_list (pv 0)) (blkOk_by (N := N__law_cell) (sc := defScope s__law_cell) (own := [("row", 2)]) (by decide +kernel)) (fun _ _ _ _ _ => pg_name (i := 2) sc__law_cell.nd rfl (Or.inl rfl)) (fun _ _ _ _ _ => pts_one (PW.pt (pw_and (pt_cmpR Xk.op_nLeS (pe_ix (Xk.k_ixT (K := K) (by rfl)) (pv 2) (pe_int) (fun _ _ => rfl)) (pv 1) (nomark _)) (pw_and1 (PW.pt (pw_or (pt_cmpR Xk.op_nIsN (pe_ix (Xk.k_ixT (K := K) (by rfl)) (pv 2) (pe_int) (fun _ _ => rfl)) (pe_non) (nomark _)) (pw_or1 (pt_cmpR Xk.op_nLtS (pv 1) (pe_ix (Xk.k_ixT (K := K) (by rfl)) (pv 2) (pe_int) (fun _ _ => rfl)) (nomark _))))))))) (fun _ _ _ _ _ => (pe_ix (Xk.k_ixT (K := K) (by rfl)) (pv 2) (pe_int) (fun _ _ => rfl)))) (pe_int) (fun _ _ => rfl)))), ?_⟩
  wtm_at "x0"
  have hl0 := Xk.sq_of (K := K) hL.lst
  wtm_at "xs"
  refine Xk.x_lcL (xs := L.map fun e => V.ref e.1) (fun Dl i H' => Same H H' ∧ H' Dl = some (.lst ((((L.take i).map (·.2)).filter (hasK k)).map fun r => V.int r.2.2.1))) hl0 ?_ ?_ ?_ ?_
  · intro Dl hD
    exact ⟨Xk.same_fr hD, upd_same⟩
  · rintro Dl i H' hD ⟨s2, _⟩
    exact Xk.sq_of (s2 _ _ hL.lst)
  · rintro Dl hD i x H' hi ⟨s2, h2⟩
    obtain ⟨⟨t, s0, eo, c, n⟩, he, rfl⟩ := Xk.of_map_at hi
    have he2 := s2 _ _ (hL.tup _ (List.mem_of_getElem? he))
    dsimp only [Br.v] at he2
    wtm_at "xs"
    refine ⟨rfl, ?_⟩
    have e1 := filt_next (f := hasK k) he
    have e2 := filt_len (f := hasK k) (L := L) (i := i)
    have no : hasK k (s0, eo, c, n) = false → Same H H' ∧ H' Dl = some (.lst ((((L.take (i + 1)).map (·.2)).filter (hasK k)).map fun r => V.int r.2.2.1)) := fun hk => by
      rw [hk, if_neg (by decide), List.append_nil] at e1
      refine ⟨s2, ?_⟩
      rw [e1]
      exact h2
    have yes : hasK k (s0, eo, c, n) = true → (((L.take i).map (·.2)).filter (hasK k)).length ≤ L.length → ∃ acc, H' Dl = some (.lst acc) ∧ acc.length < sizeLine ∧ Same H (upd H' Dl (.lst (acc ++ [V.int c]))) ∧ upd H' Dl (.lst (acc ++ [V.int c])) Dl = some (.lst ((((L.take (i + 1)).map (·.2)).filter (hasK k)).map fun r => V.int r.2.2.1)) := fun hk e2 => by
      rw [hk, if_pos rfl] at e1
      refine ⟨_, h2, Xk.size_lt (by rw [List.length_map]; omega), Xk.same_mut s2 hD, ?_⟩
      rw [upd_same, e1, List.map_append]
      rfl
    dsimp only at e1
    wtm_at "xs"
    refine Xk.x_itn (fun h => ?_) (fun h => ?_)
    · cases eo with
      | none =>
        dsimp only [ov] at he2
        wtm_at "xs"
        exact yes (by show (!decide ((LT.lt (Array.toList (PySem.Str.cps k)) (Array.toList (PySem.Str.cps s0)))) && true) = true; rw [decide_eq_false h]; rfl) e2
      | some u =>
        dsimp only [ov] at he2
        wtm_at "xs"
        refine Xk.x_itd (fun h5 => ?_) (fun h5 => ?_)
        · wtm_at "xs"
          exact yes (by show (!decide ((LT.lt (Array.toList (PySem.Str.cps k)) (Array.toList (PySem.Str.cps s0)))) && decide ((LT.lt (Array.toList (PySem.Str.cps k)) (Array.toList (PySem.Str.cps u))))) = true; rw [decide_eq_false h, decide_eq_true h5]; rfl) e2
        · wtm_at "xs"
          exact no (by show (!decide ((LT.lt (Array.toList (PySem.Str.cps k)) (Array.toList (PySem.Str.cps s0)))) && decide ((LT.lt (Array.toList (PySem.Str.cps k)) (Array.toList (PySem.Str.cps u))))) = false; rw [decide_eq_false h5, Bool.and_false])
    · wtm_at "xs"
      exact no (by show (!decide ((LT.lt (Array.toList (PySem.Str.cps k)) (Array.toList (PySem.Str.cps s0)))) && _) = false; rw [decide_eq_true h]; rfl)
  · rintro Dl H2 hD ⟨s2, h2⟩
    rw [List.length_map, List.take_length] at h2
    wtm_at "xs"
    exact q H2 s2
--CUT--
theorem cut_next {b : Str} {L : List (Addr × Br)} {i : Nat} {e : Addr × Br} (he : L[i]? = some e) : ((L.take (i + 1)).map (·.2)).flatMap (cutR b) = ((L.take i).map (·.2)).flatMap (cutR b) ++ cutR b e.2 := by
  rw [List.take_add_one, he, List.map_append, List.flatMap_append]
  congr 1
  exact List.append_nil _
theorem cut_pre {b : Str} {L : List (Addr × Br)} (i : Nat) : (((L.take i).map (·.2)).flatMap (cutR b)).length ≤ ((L.map (·.2)).flatMap (cutR b)).length := by
  conv => rhs; rw [← List.take_append_drop i L]
  rw [List.map_append, List.flatMap_append, List.length_append]
  omega
theorem cut_yes {b s : Str} {e : Option Str} {c n : Int} (h1 : (LT.lt (Array.toList (PySem.Str.cps s)) (Array.toList (PySem.Str.cps b)))) (h2 : below b e = true) : cutR b ((s, e, c, n) : Br) = [(s, some b, c, n), (b, e, c, n)] := if_pos (by show (decide ((LT.lt (Array.toList (PySem.Str.cps s)) (Array.toList (PySem.Str.cps b)))) && below b e) = true; rw [decide_eq_true h1, h2]; rfl)
theorem cut_not {b s : Str} {e : Option Str} {c n : Int} (h : ¬ (LT.lt (Array.toList (PySem.Str.cps s)) (Array.toList (PySem.Str.cps b))) ∨ below b e = false) : cutR b ((s, e, c, n) : Br) = [(s, e, c, n)] := if_neg (by
  show ¬ (decide ((LT.lt (Array.toList (PySem.Str.cps s)) (Array.toList (PySem.Str.cps b)))) && below b e) = true
  rcases h with h | h
  · rw [decide_eq_false h, Bool.false_and]
    decide
  · rw [h, Bool.and_false]
    decide)
theorem RowsAt.snoc2 {H H' : Hp} {p t u : Addr} {L : List (Addr × Br)} {r r2 : Br} (h : RowsAt H p L) (s : Same H H') (h2 : H' t = some (.tup (Br.v r))) (h3 : H' u = some (.tup (Br.v r2))) : RowsAt (upd H' p (.lst ((L.map fun e => V.ref e.1) ++ [.ref t, .ref u]))) p (L ++ [(t, r), (u, r2)]) := by
  have h4 := s _ _ h.lst
  refine ⟨by rw [upd_same, List.map_append]; rfl, fun e he => ?_⟩
  rcases List.mem_append.mp he with he | he
  · exact keep_tup (s _ _ (h.tup e he)) h4
  · rcases List.mem_cons.mp he with rfl | he
    · exact keep_tup h2 h4
    · rw [List.mem_singleton.mp he]
      exact keep_tup h3 h4
def sp__cut (K : PySem.W.Frag) : Sp := fun vs H Q _ => ∃ p L b, vs = [.ref p, ov b] ∧ RowsAt H p L ∧ L.length ≤ 50 ∧ (cutL b (L.map (·.2))).length ≤ L.length + 1 ∧
  ∀ H' q L', Same H H' → Xk.Fr q H → RowsAt H' q L' → L'.map (·.2) = cutL b (L.map (·.2)) → Q (.ref q) H'
theorem ok__cut (T : Txt K mg) : FnOk P w K mg base CX0 1 T.f__cut T.d__cut ["beliefs", "bound"] (sp__cut K) := by
  refine T.F__cut.ok sc__cut (fun vs H Q E h => ?_) (fun cdv A outer s H vs Q E hr h => ?_)
  · obtain ⟨p, L, b, rfl, _⟩ := h
    rfl
  obtain ⟨p, L, b, rfl, hL, hl, hlc, q⟩ := h
  refine ⟨_, (Evl.pss_cut (ps_if (pt_cmpR Xk.op_nIsN (pv 1) (pe_non) (nomark _)) (pss_one (ps_ret (pe_callTy (Xk.k_list (K := K) (by rfl)) (by rfl) T.m_list (by decide +kernel) (pa_cons (pv 0) pa_nil)))) pss_nil)
      (pss_cons (ps_set (i := 2) sc__cut.nd rfl (Or.inl rfl) (pe_lst pa_nil))
      (pss_cons (ps_for PassesOwn.never rfl (pi_list (pv 0)) (pg_tup rfl (pgs_cons (pg_name (i := 3) sc__cut.nd rfl (Or.inl rfl)) (pgs_cons (pg_name (i := 4) sc__cut.nd rfl (Or.inl rfl)) (pgs_cons (pg_name (i := 5) sc__cut.nd rfl (Or.inl rfl)) (pgs_cons (pg_name (i := 6) sc__cut.nd rfl (Or.inl rfl)) pgs_nil))))) (pss_one (ps_if (PW.pt (pw_and (pt_cmpR Xk.op_nLtS (pv 3) (pv 1) (nomark _)) (pw_and1 (PW.pt (pw_or (pt_cmpR Xk.op_nIsN (pv 4) (pe_non) (nomark _)) (pw_or1 (pt_cmpR Xk.op_nLtS (pv 1) (pv 4) (nomark _)))))))) (pss_one (ps_expr (pe_bm PySem.F.plainAttrs_list PySem.F.slot_list_extend PySem.F.type_list_extend mt_extend (pv 2) (pa_cons (pe_lst (pa_cons (pe_tup (pa_cons (pv 3) (pa_cons (pv 1) (pa_cons (pv 5) (pa_cons (pv 6) pa_nil))))) (pa_cons (pe_tup (pa_cons (pv 1) (pa_cons (pv 4) (pa_cons (pv 5) (pa_cons (pv 6) pa_nil))))) pa_nil))) pa_nil)))) (pss_one (ps_expr (pe_bm PySem.F.plainAttrs_list PySem.F.slot_list_append PySem.F.type_list_append mt_append (pv 2) (pa_cons (pe_tup (pa_cons (pv 3) (pa_cons (pv 4) (pa_cons (pv 5) (pa_cons (pv 6) pa_nil))))) pa_nil)))))))
      (pss_one (ps_ret (pv 2)))))), ?_⟩
  wtm_at "x0"
  refine Xk.x_nocut ?_
  have hl0 := hL.lst
  cases b with
  | none =>
    dsimp only [ov]
    wtm_at "xs"
    intro lp H1 hlp s1 h1
    exact q H1 lp L s1 hlp ⟨h1, (hL.same s1).tup⟩ rfl
  | some b =>
    dsimp only [ov]
    wtm_at "xs"
    intro rp H1 hrp s1 h1
    wtm_at "xs"
    refine Xk.x_forL (xs := L.map fun e => V.ref e.1) (fun i σ' H' => ∃ (y3 y4 y5 y6 : Option V) (L' : List (Addr × Br)), σ' = [some (.ref p), some (.str b), some (.ref rp), y3, y4, y5, y6] ∧ Same H H' ∧ RowsAt H' rp L' ∧ L'.map (·.2) = ((L.take i).map (·.2)).flatMap (cutR b)) (Xk.sq_of (s1 _ _ hl0))
      ⟨_, _, _, _, [], rfl, s1, ⟨h1, fun e z => (by cases z)⟩, rfl⟩ ?_ ?_ ?_
    · rintro i σ' H' hi ⟨y3, y4, y5, y6, L', rfl, s2, _⟩
      exact Xk.sq_of (s2 _ _ hl0)
    · rintro i x σ' H' hi ⟨y3, y4, y5, y6, L', rfl, s2, hL', hL2⟩
      obtain ⟨⟨t, s0, eo, c, n⟩, he, rfl⟩ := Xk.of_map_at hi
      have he2 := s2 _ _ (hL.tup _ (List.mem_of_getElem? he))
      dsimp only [Br.v] at he2
      have c1 := cut_next (b := b) he
      have c2 := cut_pre (b := b) (L := L) i
      have hl3 : L'.length ≤ 60 := by
        have h9 := congrArg List.length hL2
        rw [List.length_map] at h9
        have h10 : ((L.map (·.2)).flatMap (cutR b)).length ≤ L.length + 1 := hlc
        omega
      have hl4 : (L'.map fun e => V.ref e.1).length < 100000 := by rw [List.length_map]; omega
      have hr3 := hL'.lst
      have yes : (LT.lt (Array.toList (PySem.Str.cps s0)) (Array.toList (PySem.Str.cps b))) → below b eo = true → ∀ H3 t1 t2, Same H' H3 → H3 t1 = some (.tup [.str s0, .str b, .int c, .int n]) → H3 t2 = some (.tup [.str b, ov eo, .int c, .int n]) →
          ∃ L2, Same H (upd H3 rp (.lst ((L'.map fun e => V.ref e.1) ++ [.ref t1, .ref t2]))) ∧ RowsAt (upd H3 rp (.lst ((L'.map fun e => V.ref e.1) ++ [.ref t1, .ref t2]))) rp L2 ∧ L2.map (·.2) = ((L.take (i + 1)).map (·.2)).flatMap (cutR b) := fun z1 z2 H3 t1 t2 s3 g1 g2 => by
        refine ⟨_, Xk.same_mut (s2.trans s3) hrp, hL'.snoc2 (r := (s0, some b, c, n)) (r2 := (b, eo, c, n)) s3 g1 g2, ?_⟩
        rw [c1, cut_yes z1 z2, List.map_append, hL2]
        rfl
      have no : (¬ (LT.lt (Array.toList (PySem.Str.cps s0)) (Array.toList (PySem.Str.cps b))) ∨ below b eo = false) → ∀ H3 t1, Same H' H3 → H3 t1 = some (.tup [.str s0, ov eo, .int c, .int n]) →
          ∃ L2, Same H (upd H3 rp (.lst ((L'.map fun e => V.ref e.1) ++ [.ref t1]))) ∧ RowsAt (upd H3 rp (.lst ((L'.map fun e => V.ref e.1) ++ [.ref t1]))) rp L2 ∧ L2.map (·.2) = ((L.take (i + 1)).map (·.2)).flatMap (cutR b) := fun z H3 t1 s3 g1 => by
        refine ⟨_, Xk.same_mut (s2.trans s3) hrp, hL'.snoc (r := (s0, eo, c, n)) s3 g1, ?_⟩
        rw [c1, cut_not z, List.map_append, hL2]
        rfl
      clear c1 c2 hL2
      wtm_at "xs"
      refine Xk.x_itd (fun h => ?_) (fun h => ?_)
      · cases eo with
        | none =>
          dsimp only [ov]
          wtm_at "xs"
          intro t1 H3 ht1 s3 g1
          wtm_at "xs"
          intro t2 H4 ht2 s4 g2
          wtm_at "xs"
          intro lq H5 hlq s5 g3
          have s35 := s3.trans (s4.trans s5)
          wtm_at "xs"
          refine Xk.x_ext (s35 _ _ hr3) g3 (by simp only [List.length_map, List.length_cons, List.length_nil]; omega) ?_
          obtain ⟨L2, z1, z2, z3⟩ := yes h rfl H5 t1 t2 s35 ((s4.trans s5) _ _ g1) (s5 _ _ g2)
          exact ⟨_, _, _, _, L2, rfl, z1, z2, z3⟩
        | some u =>
          dsimp only [ov]
          wtm_at "xs"
          refine Xk.x_itd (fun h5 => ?_) (fun h5 => ?_)
          · wtm_at "xs"
            intro t1 H3 ht1 s3 g1
            wtm_at "xs"
            intro t2 H4 ht2 s4 g2
            wtm_at "xs"
            intro lq H5 hlq s5 g3
            have s35 := s3.trans (s4.trans s5)
            wtm_at "xs"
            refine Xk.x_ext (s35 _ _ hr3) g3 (by simp only [List.length_map, List.length_cons, List.length_nil]; omega) ?_
            obtain ⟨L2, z1, z2, z3⟩ := yes h (decide_eq_true h5) H5 t1 t2 s35 ((s4.trans s5) _ _ g1) (s5 _ _ g2)
            exact ⟨_, _, _, _, L2, rfl, z1, z2, z3⟩
          · wtm_at "xs"
            intro t1 H3 ht1 s3 g1
            have hr4 := s3 _ _ hr3
            wtm_at "xs"
            obtain ⟨L2, z1, z2, z3⟩ := no (.inr (decide_eq_false h5)) H3 t1 s3 g1
            exact ⟨_, _, _, _, L2, rfl, z1, z2, z3⟩
      · wtm_at "xs"
        intro t1 H3 ht1 s3 g1
        have hr4 := s3 _ _ hr3
        wtm_at "xs"
        obtain ⟨L2, z1, z2, z3⟩ := no (.inl h) H3 t1 s3 g1
        exact ⟨_, _, _, _, L2, rfl, z1, z2, z3⟩
    · rintro σ' H2 ⟨y3, y4, y5, y6, L', rfl, s2, hL', hL2⟩
      rw [List.length_map, List.take_length] at hL2
      wtm_at "xs"
      exact q H2 rp L' s2 hrp hL' hL2
--CUT--
/-- a row behind a hint -/
def behind (hi r : Br) : Br := if (decide (r.2.2.2 < hi.2.2.2) && withinB r.1 r.2.1 hi.1 hi.2.1) = true then (r.1, r.2.1, hi.2.2) else r
def sp__row_behind (K : PySem.W.Frag) : Sp := fun vs H Q _ => ∃ a b r hi, vs = [.ref a, .ref b] ∧ H a = some (.tup (Br.v r)) ∧ H b = some (.tup (Br.v hi)) ∧
  ∀ H' q, Same H H' → H' q = some (.tup (Br.v (behind hi r))) → Q (.ref q) H'
theorem ok__row_behind (T : Txt K mg) : FnOk P w K mg base CX0 2 T.f__row_behind T.d__row_behind ["row", "hint"] (sp__row_behind K) := by
  refine T.F__row_behind.ok sc__row_behind (fun vs H Q E h => ?_) (fun cdv A outer s H vs Q E hr h => ?_)
  · obtain ⟨a, b, r, hi, rfl, _⟩ := h
    rfl
  obtain ⟨a, b, ⟨s0, eo, c, n⟩, ⟨lo, ho, tc, tn⟩, rfl, h1, h2, q⟩ := h
  refine ⟨_, (pss_cons (ps_asg (pv 0) (pg_tup rfl (pgs_cons (pg_name (i := 2) sc__row_behind.nd rfl (Or.inl rfl)) (pgs_cons (pg_name (i := 3) sc__row_behind.nd rfl (Or.inl rfl)) (pgs_cons (pg_name (i := 4) sc__row_behind.nd rfl (Or.inl rfl)) (pgs_cons (pg_name (i := 5) sc__row_behind.nd rfl (Or.inl rfl)) pgs_nil))))))
      (pss_cons (ps_asg (pv 1) (pg_tup rfl (pgs_cons (pg_name (i := 6) sc__row_behind.nd rfl (Or.inl rfl)) (pgs_cons (pg_name (i := 7) sc__row_behind.nd rfl (Or.inl rfl)) (pgs_cons (pg_name (i := 8) sc__row_behind.nd rfl (Or.inl rfl)) (pgs_cons (pg_name (i := 9) sc__row_behind.nd rfl (Or.inl rfl)) pgs_nil))))))
      (Evl.pss_cut (ps_if (PW.pt (pw_and (pt_cmpR op_lt (pv 5) (pv 9) (nomark _)) (pw_and1 (pt_val (pe_call (ok_is_within T) (hr.mono (by decide)) (by rfl) T.g_is_within T.F_is_within.kp T.b_is_within .nil pass0 (pa_cons (pv 2) (pa_cons (pv 3) (pa_cons (pv 6) (pa_cons (pv 7) pa_nil))))))))) (pss_one (ps_ret (pe_tup (pa_cons (pv 2) (pa_cons (pv 3) (pa_cons (pv 8) (pa_cons (pv 9) pa_nil))))))) pss_nil)
      (pss_one (ps_ret (pv 0)))))), ?_⟩
  dsimp only [Br.v] at h1 h2
  wtm_at "x0"
  wtm_at "xs"
  refine Xk.x_nocut ?_
  wtm_at "xs"
  have yes : n < tn → withinB s0 eo lo ho = true → ∀ H3 q2, Same H H3 → H3 q2 = some (.tup [.str s0, ov eo, .int tc, .int tn]) → Q (.ref q2) H3 := fun z1 z2 H3 q2 s3 g => q H3 q2 s3 (by
    have e : behind (lo, ho, tc, tn) (s0, eo, c, n) = (s0, eo, tc, tn) := if_pos (by show (decide (n < tn) && withinB s0 eo lo ho) = true; rw [decide_eq_true z1, z2]; rfl)
    rw [e]
    exact g)
  have no : (¬ n < tn ∨ withinB s0 eo lo ho = false) → ∀ H3, Same H H3 → Q (.ref a) H3 := fun z H3 s3 => q H3 a s3 (by
    have e : behind (lo, ho, tc, tn) (s0, eo, c, n) = (s0, eo, c, n) := if_neg (by
      show ¬ (decide (n < tn) && withinB s0 eo lo ho) = true
      rcases z with z | z
      · rw [decide_eq_false z, Bool.false_and]
        decide
      · rw [z, Bool.and_false]
        decide)
    rw [e]
    exact s3 _ _ h1)
  refine Xk.x_itd (fun h => ?_) (fun h => ?_)
  · wtm_at "xs"
    refine ⟨s0, lo, eo, ho, rfl, ?_⟩
    wtm_at "xs"
    refine Xk.x_itb (b := withinB s0 eo lo ho) (fun hw => ?_) (fun hw => ?_)
    · wtm_at "xs"
      intro q2 H3 hq s3 g
      exact yes h hw H3 q2 s3 g
    · wtm_at "xs"
      exact no (.inr hw) _ (Same.refl _)
  · wtm_at "xs"
    exact no (.inl h) _ (Same.refl _)
def sp_learned (K : PySem.W.Frag) : Sp := fun vs H Q _ => ∃ p b L hi, vs = [.ref p, .ref b] ∧ RowsAt H p L ∧ H b = some (.tup (Br.v hi)) ∧ L.length ≤ 40 ∧ Ch "" (L.map (·.2)) ∧
  ∀ H' q L', Same H H' → Xk.Fr q H → RowsAt H' q L' → L'.map (·.2) = (cutL hi.2.1 (cutL (some hi.1) (L.map (·.2)))).map (behind hi) → Q (.ref q) H'
theorem ok_learned (T : Txt K mg) : FnOk P w K mg base CX0 3 T.f_learned T.d_learned ["beliefs", "hint"] (sp_learned K) := by
  refine T.F_learned.ok sc_learned (fun vs H Q E h => ?_) (fun cdv A outer s H vs Q E hr h => ?_)
  · obtain ⟨p, b, L, hi, rfl, _⟩ := h
    rfl
  obtain ⟨p, b, L, ⟨lo, ho, tc, tn⟩, rfl, hL, hb, hl, hc, q⟩ := h
  refine ⟨_, (pss_cons (ps_par (i := 2) (j := 3) (by rfl) sc_learned.nd rfl rfl (by decide) rfl rfl (pa_cons (pe_ix (Xk.k_ixT (K := K) (by rfl)) (pv 1) (pe_int) (fun _ _ => rfl)) (pa_cons (pe_ix (Xk.k_ixT (K := K) (by rfl)) (pv 1) (pe_int) (fun _ _ => rfl)) pa_nil)) (by rfl))
      (pss_one (ps_ret (pe_lc (own := [("row", 4)]) (g := gName 4) (tt := tYes) rfl sc_learned.nd  (pi_list (pe_call (ok__cut T) (hr.mono (by decide)) (by rfl) T.g__cut T.F__cut.kp T.b__cut .nil pass0 (pa_cons (pe_call (ok__cut T) (hr.mono (by decide)) (by rfl) T.g__cut T.F__cut.kp T.b__cut .nil pass0 (pa_cons (pv 0) (pa_cons (pv 2) pa_nil))) (pa_cons (pv 3) pa_nil)))) (blkOk_by (N := N_learned) (sc := defScope s_learned) (own := [("row", 4)]) (by decide +kernel)) (fun _ _ _ _ _ => pg_name (i := 4) sc_learned.nd rfl (Or.inl rfl)) (fun _ _ _ _ _ => pts_nil) (fun _ _ _ _ _ => (pe_call (ok__row_behind T) (hr.mono (by decide)) (by rfl) T.g__row_behind T.F__row_behind.kp T.b__row_behind .nil pass0 (pa_cons (pv 4) (pa_cons (pv 1) pa_nil)))))))), ?_⟩
  dsimp only [Br.v] at hb
  wtm_at "x0"
  wtm_at "xs"
  have c1 := cutL_ok (some lo) hc
  refine ⟨p, L, some lo, rfl, hL, by omega, by rw [List.length_map] at c1; exact c1.2, fun H2 q1 L1 s2 hq1 g1 e1 => ?_⟩
  wtm_at "xs"
  have l1 : L1.length ≤ L.length + 1 := by
    have z := c1.2
    rw [← e1, List.length_map, List.length_map] at z
    exact z
  have c2 := cutL_ok ho (by rw [← e1] at c1; exact c1.1)
  refine ⟨q1, L1, ho, rfl, g1, by omega, by rw [List.length_map] at c2; exact c2.2, fun H3 q2 L2 s3 hq2 g2 e2 => ?_⟩
  wtm_at "xs"
  have l2 : L2.length ≤ L1.length + 1 := by
    have z := c2.2
    rw [← e2, List.length_map, List.length_map] at z
    exact z
  have s13 := s2.trans s3
  refine Xk.x_lcL (xs := L2.map fun e => V.ref e.1) (fun Dl i H' => Same H3 H' ∧ ∃ L', RowsAt H' Dl L' ∧ L'.map (·.2) = ((L2.take i).map (·.2)).map (behind (lo, ho, tc, tn))) (Xk.sq_of g2.lst) ?_ ?_ ?_ ?_
  · intro Dl hD
    exact ⟨Xk.same_fr hD, [], ⟨upd_same, fun e z => (by cases z)⟩, rfl⟩
  · rintro Dl i H' hD ⟨s4, _⟩
    exact Xk.sq_of (s4 _ _ g2.lst)
  · rintro Dl hD i x H' hi ⟨s4, L', hL', e3⟩
    obtain ⟨e, he, rfl⟩ := Xk.of_map_at hi
    wtm_at "xs"
    refine ⟨rfl, ?_⟩
    wtm_at "xs"
    refine ⟨e.1, b, e.2, (lo, ho, tc, tn), rfl, s4 _ _ (g2.tup e (List.mem_of_getElem? he)), (s13.trans s4) _ _ hb, fun H5 q5 s5 g5 => ?_⟩
    have l3 : L'.length ≤ L2.length := by
      have z := congrArg List.length e3
      simp only [List.length_map, List.length_take] at z
      omega
    refine ⟨_, s5 _ _ hL'.lst, Xk.size_lt (by rw [List.length_map]; omega), Xk.same_mut (s4.trans s5) hD, _, hL'.snoc s5 g5, ?_⟩
    rw [List.map_append, e3, List.take_add_one, he, List.map_append, List.map_append]
    rfl
  · rintro Dl H4 hD ⟨s4, L', hL', e3⟩
    rw [List.length_map, List.take_length] at e3
    refine q H4 Dl L' (s13.trans s4) (Xk.free_back hD s13) hL' ?_
    rw [e3, e2, e1]
--CUT--
theorem rise_pair : ∀ {l : List Str} {p : Str}, risingS p l = true → (p :: l).Pairwise (fun a b : Str => a.cps.toList ≤ b.cps.toList)
  | [], p, _ => List.pairwise_singleton _ _
  | x :: r, p, h => by
    have h2 : (!ltCps x.cps.toList p.cps.toList && risingS x r) = true := h
    rw [Bool.and_eq_true, ltCps_eq, Bool.not_eq_true', decide_eq_false_iff_not] at h2
    have h3 := rise_pair h2.2
    have h4 : p.cps.toList ≤ x.cps.toList := List.not_lt.mp h2.1
    refine List.pairwise_cons.mpr ⟨fun y hy => ?_, h3⟩
    rcases List.mem_cons.mp hy with rfl | hy
    · exact h4
    · exact List.le_trans h4 ((List.pairwise_cons.mp h3).1 y hy)
theorem srtS_pair {l : List Str} (h : sortedS l = true) : l.Pairwise (fun a b : Str => a.cps.toList ≤ b.cps.toList) := by
  cases l with
  | nil => exact .nil
  | cons p r => exact rise_pair h
theorem flat_strs : ∀ ks : List Str, (ks.map V.str).all flatV = true
  | [] => rfl
  | k :: r => by
    rw [List.map_cons, List.all_cons, flat_strs r]
    rfl
theorem in_strs (s : Str) : ∀ ks : List Str, inV (.str s) (ks.map V.str) = decide (s ∈ ks)
  | [] => by simp [inV]
  | k :: r => by
    have h := in_strs s r
    unfold inV at h ⊢
    rw [List.map_cons, List.any_cons, h]
    by_cases e : k = s
    · subst e
      simp [eqV]
    · have e' : ¬ s = k := fun z => e z.symm
      simp [eqV, e, e']
theorem strict {l : List Str} (h : sortedS l = true) (nd : l.Nodup) : l.Pairwise (fun a b : Str => (LT.lt (Array.toList (PySem.Str.cps a)) (Array.toList (PySem.Str.cps b)))) := by
  refine ((srtS_pair h).and nd).imp fun {a b} hab => ?_
  refine Classical.byContradiction fun c => hab.2 ?_
  have e := List.le_antisymm hab.1 (List.not_lt.mp c)
  cases a
  cases b
  exact congrArg Str.mk (Array.toList_inj.mp e)
theorem head_nil {l : List Str} (h : l.Pairwise (fun a b : Str => (LT.lt (Array.toList (PySem.Str.cps a)) (Array.toList (PySem.Str.cps b))))) (hm : ("" : Str) ∈ l) : ∃ r, l = ("" : Str) :: r := by
  cases l with
  | nil => cases hm
  | cons a r =>
    rcases List.mem_cons.mp hm with e | hm
    · exact ⟨r, by rw [← e]⟩
    · exact absurd ((List.pairwise_cons.mp h).1 _ hm) (nil_le a)
theorem firstR_ch : ∀ {l : List (Str × Int)} {x : Str × Int}, ((x :: l).map (·.1)).Pairwise (fun a b : Str => (LT.lt (Array.toList (PySem.Str.cps a)) (Array.toList (PySem.Str.cps b)))) → Ch x.1 (firstR (x :: l))
  | [], x, _ => ⟨rfl, rfl⟩
  | y :: l, x, h => by
    have h2 := List.pairwise_cons.mp h
    have ih : Ch y.1 (firstR (y :: l)) := firstR_ch h2.2
    have h3 : (LT.lt (Array.toList (PySem.Str.cps x.1)) (Array.toList (PySem.Str.cps y.1))) := h2.1 _ (List.mem_cons_self ..)
    exact Ch.cons h3 ih
--CUT--
def od : Option Str → PyData
  | none => .none
  | some s => .str s
def Br.d (r : Br) : PyData := .tuple [.str r.1, od r.2.1, .int r.2.2.1, .int r.2.2.2]
theorem pk_s {H : Hp} {n : Nat} {s : Str} (h : Ok s) : Xk.Pk K H n (.str s) (.str s) := Xk.pk_str (Xk.lay_str h.2)
theorem pk_ov {H : Hp} {n : Nat} {e : Option Str} (h : ∀ t, e = some t → Ok t) : Xk.Pk K H n (ov e) (od e) := by
  cases e with
  | none => exact Xk.pk_non
  | some s => exact pk_s (h s rfl)
theorem pk_rows {H : Hp} : ∀ {L : List (Addr × Br)}, (∀ e ∈ L, H e.1 = some (.tup (Br.v e.2))) → (∀ r ∈ L.map (·.2), Br.ok r) → Xk.PkAll K H 1 (L.map fun e => V.ref e.1) ((L.map (·.2)).map Br.d)
  | [], _, _ => Xk.pk_nil
  | e :: L, h, ho => by
    have h1 := ho e.2 (List.mem_cons_self ..)
    refine Xk.pk_cons (Xk.pk_tup (n := 0) (Xk.st_of (h e (List.mem_cons_self ..))) ?_) (pk_rows (fun x hx => h x (List.mem_cons_of_mem _ hx)) fun r hr => ho r (List.mem_cons_of_mem _ hr))
    exact Xk.pk_cons (pk_s h1.1) (Xk.pk_cons (pk_ov h1.2) (Xk.pk_cons Xk.pk_int (Xk.pk_cons Xk.pk_int Xk.pk_nil)))
theorem pk_pairs {H : Hp} : ∀ {T : List (Addr × Str × Int)}, (∀ e ∈ T, H e.1 = some (.tup [.str e.2.1, .int e.2.2])) → (∀ x ∈ T.map (·.2), Ok x.1) → Xk.PkAll K H 1 (T.map fun e => V.ref e.1) ((T.map (·.2)).map fun x => PyData.tuple [.str x.1, .int x.2])
  | [], _, _ => Xk.pk_nil
  | e :: T, h, ho => by
    refine Xk.pk_cons (Xk.pk_tup (n := 0) (Xk.st_of (h e (List.mem_cons_self ..))) ?_) (pk_pairs (fun x hx => h x (List.mem_cons_of_mem _ hx)) fun r hr => ho r (List.mem_cons_of_mem _ hr))
    exact Xk.pk_cons (pk_s (ho e.2 (List.mem_cons_self ..))) (Xk.pk_cons Xk.pk_int Xk.pk_nil)
theorem x_neRows {H : Hp} {Q : VK} {p r : Addr} {L M : List (Addr × Br)} (hL : RowsAt H p L) (hM : RowsAt H r M) (e : L.map (·.2) = M.map (·.2)) (ok : ∀ x ∈ L.map (·.2), Br.ok x) (q : Q (.bl false) H) : rNeD K (.ref p) (.ref r) H Q := by
  have a1 := pk_rows (K := K) hL.tup ok
  have a2 := pk_rows (K := K) hM.tup (by rw [← e]; exact ok)
  rw [← e] at a2
  exact Xk.x_nePkL (Xk.sq_of hL.lst) (Xk.sq_of hM.lst) a1 a2 q
theorem ok_cut {b : Option Str} {l : List Br} (h : ∀ r ∈ l, Br.ok r) (hb : ∀ t, b = some t → Ok t) : ∀ r ∈ cutL b l, Br.ok r := by
  cases b with
  | none => exact h
  | some b =>
    intro r hr
    obtain ⟨r0, h0, h1⟩ := List.mem_flatMap.mp hr
    have h2 := h r0 h0
    have h3 := hb b rfl
    unfold cutR at h1
    split at h1
    · rcases List.mem_cons.mp h1 with rfl | h1
      · exact ⟨h2.1, fun t e => by cases e; exact h3⟩
      · rw [List.mem_singleton.mp h1]
        exact ⟨h3, h2.2⟩
    · rw [List.mem_singleton.mp h1]
      exact h2
theorem behind_eq (hi r : Br) : (behind hi r).1 = r.1 ∧ (behind hi r).2.1 = r.2.1 := by
  unfold behind
  split <;> exact ⟨rfl, rfl⟩
/-- what rows are behind a hint -/
theorem learn_ok {hi : Br} {l : List Br} (hc : Ch "" l) (ok : ∀ r ∈ l, Br.ok r) (hh : hi.ok) :
    Ch "" ((cutL hi.2.1 (cutL (some hi.1) l)).map (behind hi)) ∧ (∀ r ∈ (cutL hi.2.1 (cutL (some hi.1) l)).map (behind hi), Br.ok r) ∧ ((cutL hi.2.1 (cutL (some hi.1) l)).map (behind hi)).length ≤ l.length + 2 := by
  have c1 := cutL_ok (some hi.1) hc
  have c2 := cutL_ok hi.2.1 c1.1
  have o1 := ok_cut (b := some hi.1) ok fun t e => by cases e; exact hh.1
  have o2 := ok_cut (b := hi.2.1) o1 hh.2
  refine ⟨c2.1.map (behind_eq hi), fun r hr => ?_, ?_⟩
  · obtain ⟨r0, h0, rfl⟩ := List.mem_map.mp hr
    have h1 := behind_eq hi r0
    have h2 := o2 r0 h0
    exact ⟨by rw [h1.1]; exact h2.1, fun t e => by rw [h1.2] at e; exact h2.2 t e⟩
  · have h1 := c1.2
    have h2 := c2.2
    rw [List.length_map]
    omega
theorem cell_ex {l : List Br} (hc : Ch "" l) (k : Str) : ∃ r, (l.filter (hasK k))[0]? = some r := by
  obtain ⟨r, hr, h⟩ := hc.cover (nil_le k)
  have hm : r ∈ l.filter (hasK k) := List.mem_filter.mpr ⟨hr, h⟩
  exact Xk.lt_at (List.length_pos_of_mem hm)
theorem firstR_ok {l : List (Str × Int)} (h : ∀ x ∈ l, Ok x.1) : ∀ r ∈ firstR l, Br.ok r := by
  intro r hr
  obtain ⟨i, hi⟩ := List.getElem?_of_mem hr
  rw [firstR_at] at hi
  obtain ⟨x, hx, rfl⟩ := Option.map_eq_some_iff.mp hi
  refine ⟨h x (List.mem_of_getElem? hx), fun t e => ?_⟩
  obtain ⟨y, hy, rfl⟩ := Option.map_eq_some_iff.mp e
  exact h y (List.mem_of_getElem? hy)
--CUT--
/-! ### deals -/
abbrev Ck := Str × V
inductive Dd where
  | get (k : Str)
  | put (k : Str) (v : V)
  | del (k : Str)
  | add (k : Str) (n : Int)
def Dd.key : Dd → Str
  | .get k | .put k _ | .del k | .add k _ => k
def Dd.word : Dd → Str
  | .get _ => "get"
  | .put _ _ => "put"
  | .del _ => "del"
  | .add _ _ => "add"
def Dd.rest : Dd → List V
  | .put _ v => [v]
  | .add _ n => [.int n]
  | _ => []
def Dd.xs (d : Dd) : List V := .str d.word :: .str d.key :: d.rest
theorem Dd.xs_eq (d : Dd) : d.xs = .str d.word :: .str d.key :: d.rest := rfl
/-- a value -/
def VOk (v : V) : Prop := (∃ i, v = .int i) ∨ ∃ s : Str, v = .str s ∧ Ok s
/-- a value or nothing -/
def FV (v : V) : Prop := v = .non ∨ VOk v
def Dd.ok : Dd → Prop
  | .put k v => Ok k ∧ VOk v
  | .add k _ | .get k | .del k => Ok k
structure DlAt (H : Hp) (p : Addr) (C : List (Addr × Ck)) (D : List (Addr × Dd)) : Prop where
  tp : ∃ pc pd, H p = some (.tup [.ref pc, .ref pd]) ∧ H pc = some (.tup (C.map fun e => V.ref e.1)) ∧ H pd = some (.tup (D.map fun e => V.ref e.1))
  ck : ∀ e ∈ C, H e.1 = some (.tup [.str e.2.1, e.2.2])
  dd : ∀ e ∈ D, H e.1 = some (.tup e.2.xs)
  fv : ∀ e ∈ C, Ok e.2.1 ∧ FV e.2.2
  ok : ∀ e ∈ D, e.2.ok
  cl : C.length ≤ 20
  dl : D.length ≤ 20
theorem DlAt.same {H H' : Hp} {p : Addr} {C : List (Addr × Ck)} {D : List (Addr × Dd)} (h : DlAt H p C D) (s : Same H H') : DlAt H' p C D := by
  obtain ⟨pc, pd, h1, h2, h3⟩ := h.tp
  exact ⟨⟨pc, pd, s _ _ h1, s _ _ h2, s _ _ h3⟩, fun e he => s _ _ (h.ck e he), fun e he => s _ _ (h.dd e he), h.fv, h.ok, h.cl, h.dl⟩
def sp_key_of_deed (K : PySem.W.Frag) : Sp := fun vs H Q _ => ∃ a k xs, vs = [.ref a] ∧ SqT K H a xs ∧ xs[1]? = some k ∧ Q k H
theorem ok_key_of_deed (T : Txt K mg) : FnOk P w K mg base CX0 1 T.f_key_of_deed T.d_key_of_deed ["deed"] (sp_key_of_deed K) := by
  refine T.F_key_of_deed.ok sc_key_of_deed (fun vs H Q E h => ?_) (fun cdv A outer s H vs Q E hr h => ?_)
  · obtain ⟨a, k, xs, rfl, _⟩ := h
    rfl
  obtain ⟨a, k, xs, rfl, ha, hk, q⟩ := h
  refine ⟨_, (pss_one (ps_ret (pe_ix (Xk.k_ixT (K := K) (by rfl)) (pv 0) (pe_int) (fun _ _ => rfl)))), ?_⟩
  wtm_at "x0"
  wtm_at "xs"
  exact q
/-- the keys of a deal -/
def KeyOf (C : List (Addr × Ck)) (D : List (Addr × Dd)) (t : Str) : Prop := (∃ e ∈ C, e.2.1 = t) ∨ ∃ e ∈ D, e.2.key = t
def sp_keys_of (K : PySem.W.Frag) : Sp := fun vs H Q _ => ∃ p C D, vs = [.ref p] ∧ DlAt H p C D ∧
  ∀ H' q (ts : List Str), Same H H' → H' q = some (.tup (ts.map V.str)) → sortedS ts = true → ts.Nodup → (∀ t, t ∈ ts ↔ KeyOf C D t) → Q (.ref q) H'
theorem ok_keys_of (T : Txt K mg) : FnOk P w K mg base CX0 2 T.f_keys_of T.d_keys_of ["deal"] (sp_keys_of K) := by
  refine T.F_keys_of.ok sc_keys_of (fun vs H Q E h => ?_) (fun cdv A outer s H vs Q E hr h => ?_)
  · obtain ⟨p, C, D, rfl, _⟩ := h
    rfl
  obtain ⟨p, C, D, rfl, hD, q⟩ := h
  obtain ⟨pc, pd', h1, h2, h3⟩ := hD.tp
  refine ⟨_, (pss_cons (ps_asg (pv 0) (pg_tup rfl (pgs_cons (pg_name (i := 1) sc_keys_of.nd rfl (Or.inl rfl)) (pgs_cons (pg_name (i := 2) sc_keys_of.nd rfl (Or.inl rfl)) pgs_nil))))
      (pss_one (ps_ret (pe_callTy (Xk.k_tuple (K := K) (by rfl)) (by rfl) T.m_tuple (by decide +kernel) (pa_cons (pe_callB (Xk.k_sortedSetS (P := P) (w := w) rfl (by rfl) (by rfl)) (by rfl) T.m_sorted (by decide +kernel) (pa_cons (pe_callTy (Xk.k_setOfS (K := K) (P := P) (w := w) rfl (by rfl) (by rfl) (by rfl)) (by rfl) T.m_set (by decide +kernel) (pa_cons (pe_op op_cat (pe_lc (own := [("key", 3), ("value", 4)]) (g := gTup K 2 (gCons (gName 3) (gCons (gName 4) gNil))) (tt := tYes) rfl sc_keys_of.nd  (pi_tup (pv 1)) (blkOk_by (N := N_keys_of) (sc := defScope s_keys_of) (own := [("key", 3), ("value", 4)]) (by decide +kernel)) (fun _ _ _ _ _ => Xk.k_gtup (K := K) (by rfl) rfl (pgs_cons (pg_name (i := 3) sc_keys_of.nd rfl (Or.inl rfl)) (pgs_cons (pg_name (i := 4) sc_keys_of.nd rfl (Or.inl rfl)) pgs_nil))) (fun _ _ _ _ _ => pts_nil) (fun _ _ _ _ _ => (pv 3))) (pe_lc (own := [("deed", 5)]) (g := gName 5) (tt := tYes) rfl sc_keys_of.nd  (pi_tup (pv 2)) (blkOk_by (N := N_keys_of) (sc := defScope s_keys_of) (own := [("deed", 5)]) (by decide +kernel)) (fun _ _ _ _ _ => pg_name (i := 5) sc_keys_of.nd rfl (Or.inl rfl)) (fun _ _ _ _ _ => pts_nil) (fun _ _ _ _ _ => (pe_call (ok_key_of_deed T) (hr.mono (by decide)) (by rfl) T.g_key_of_deed T.F_key_of_deed.kp T.b_key_of_deed .nil pass0 (pa_cons (pv 5) pa_nil))))) pa_nil)) pa_nil)) pa_nil))))), ?_⟩
  wtm_at "x0"
  wtm_at "xs"
  refine Xk.x_lcT (xs := C.map fun e => V.ref e.1) (fun Dl i H' => Same H H' ∧ H' Dl = some (.lst (((C.take i).map (fun e => e.2.1)).map V.str))) (Xk.st_of h2) ?_ ?_ ?_ ?_
  · intro Dl hF
    exact ⟨Xk.same_fr hF, upd_same⟩
  · rintro Dl i H' hF ⟨s2, _⟩
    exact Xk.st_of (s2 _ _ h2)
  · rintro Dl hF i x H' hi ⟨s2, g⟩
    obtain ⟨e, he, rfl⟩ := Xk.of_map_at hi
    have hx := s2 _ _ (hD.ck e (List.mem_of_getElem? he))
    have cl := hD.cl
    wtm_at "xs"
    refine ⟨rfl, ?_⟩
    wtm_at "xs"
    refine ⟨_, g, Xk.size_lt (by simp only [List.length_map, List.length_take]; omega), Xk.same_mut s2 hF, ?_⟩
    rw [upd_same, List.take_add_one, he, List.map_append, List.map_append]
    rfl
  · rintro k1 H1 hk1 ⟨s1, g1⟩
    rw [List.length_map, List.take_length] at g1
    wtm_at "xs"
    refine Xk.x_lcT (xs := D.map fun e => V.ref e.1) (fun Dl i H' => Same H1 H' ∧ H' Dl = some (.lst (((D.take i).map (fun e => e.2.key)).map V.str))) (Xk.st_of (s1 _ _ h3)) ?_ ?_ ?_ ?_
    · intro Dl hF
      exact ⟨Xk.same_fr hF, upd_same⟩
    · rintro Dl i H' hF ⟨s2, _⟩
      exact Xk.st_of ((s1.trans s2) _ _ h3)
    · rintro Dl hF i x H' hi ⟨s2, g⟩
      obtain ⟨e, he, rfl⟩ := Xk.of_map_at hi
      have hx := (s1.trans s2) _ _ (hD.dd e (List.mem_of_getElem? he))
      have dl := hD.dl
      wtm_at "xs"
      refine ⟨rfl, ?_⟩
      wtm_at "xs"
      refine ⟨e.1, .str e.2.key, e.2.xs, rfl, Xk.st_of hx, by rw [Dd.xs_eq]; rfl, ?_⟩
      refine ⟨_, g, Xk.size_lt (by simp only [List.length_map, List.length_take]; omega), Xk.same_mut s2 hF, ?_⟩
      rw [upd_same, List.take_add_one, he, List.map_append, List.map_append]
      rfl
    · rintro k2 H2 hk2 ⟨s2, g2⟩
      rw [List.length_map, List.take_length] at g2
      have cl := hD.cl
      have dl := hD.dl
      wtm_at "xs"
      refine Xk.x_cat (s2 _ _ g1) g2 (by simp only [List.length_map]; omega) fun k3 H3 hk3 s3 g3 => ?_
      rw [← List.map_append] at g3
      wtm_at "xs"
      refine Xk.x_setOfS (Xk.sq_of g3) (by simp only [List.length_append, List.length_map]; omega) fun k4 H4 zs hk4 s4 g4 nd4 m4 l4 => ?_
      wtm_at "xs"
      refine Xk.x_sortedSetS g4 (by rw [List.length_append, List.length_map, List.length_map] at l4; omega) fun k5 H5 ys p5 o5 hk5 s5 g5 => ?_
      wtm_at "xs"
      intro k6 H6 hk6 s6 g6
      refine q H6 k6 ys (s1.trans (s2.trans (s3.trans (s4.trans (s5.trans s6))))) g6 o5 (p5.nodup_iff.mpr nd4) fun t => ?_
      rw [p5.mem_iff, m4, List.mem_append, List.mem_map, List.mem_map]
      rfl
--CUT--
def cellK (k : Str) (l : List Br) : Int := match (l.filter (hasK k))[0]? with
  | some r => r.2.2.1
  | none => 0
theorem cellK_of {k : Str} {l : List Br} {r : Br} (h : (l.filter (hasK k))[0]? = some r) : cellK k l = r.2.2.1 := by
  unfold cellK
  rw [h]
def sp_places_of (K : PySem.W.Frag) : Sp := fun vs H Q _ => ∃ (p b : Addr) (L : List (Addr × Br)) (ks : List Str), vs = [.ref p, .ref b] ∧ RowsAt H p L ∧ L.length ≤ 50 ∧ H b = some (.tup (ks.map V.str)) ∧ ks.length ≤ 50 ∧ (∀ k ∈ ks, ∃ r, ((L.map (·.2)).filter (hasK k))[0]? = some r) ∧
  ∀ H' q (T : List (Addr × Str × Int)), Same H H' → RgAt H' q T → T.map (·.2) = ks.map (fun k => (k, cellK k (L.map (·.2)))) → Q (.ref q) H'
theorem ok_places_of (T : Txt K mg) : FnOk P w K mg base CX0 3 T.f_places_of T.d_places_of ["beliefs", "names"] (sp_places_of K) := by
  refine T.F_places_of.ok sc_places_of (fun vs H Q E h => ?_) (fun cdv A outer s H vs Q E hr h => ?_)
  · obtain ⟨p, b, L, ks, rfl, _⟩ := h
    rfl
  obtain ⟨p, b, L, ks, rfl, hL, hl, hb, hk, hc, q⟩ := h
  refine ⟨_, (pss_one (ps_ret (pe_callTy (Xk.k_tuple (K := K) (by rfl)) (by rfl) T.m_tuple (by decide +kernel) (pa_cons (pe_lc (own := [("key", 2)]) (g := gName 2) (tt := tYes) rfl sc_places_of.nd  (pi_tup (pv 1)) (blkOk_by (N := N_places_of) (sc := defScope s_places_of) (own := [("key", 2)]) (by decide +kernel)) (fun _ _ _ _ _ => pg_name (i := 2) sc_places_of.nd rfl (Or.inl rfl)) (fun _ _ _ _ _ => pts_nil) (fun _ _ _ _ _ => (pe_tup (pa_cons (pv 2) (pa_cons (pe_call (ok_cell_of T) (hr.mono (by decide)) (by rfl) T.g_cell_of T.F_cell_of.kp T.b_cell_of .nil pass0 (pa_cons (pv 0) (pa_cons (pv 2) pa_nil))) pa_nil))))) pa_nil)))), ?_⟩
  wtm_at "x0"
  wtm_at "xs"
  refine Xk.x_lcT (xs := ks.map V.str) (fun Dl i H' => Same H H' ∧ ∃ T : List (Addr × Str × Int), H' Dl = some (.lst (T.map fun e => V.ref e.1)) ∧ (∀ e ∈ T, H' e.1 = some (.tup [.str e.2.1, .int e.2.2])) ∧ T.map (·.2) = (ks.take i).map (fun k => (k, cellK k (L.map (·.2))))) (Xk.st_of hb) ?_ ?_ ?_ ?_
  · intro Dl hD
    exact ⟨Xk.same_fr hD, [], upd_same, fun e z => (by cases z), rfl⟩
  · rintro Dl i H' hD ⟨s2, _⟩
    exact Xk.st_of (s2 _ _ hb)
  · rintro Dl hD i x H' hi ⟨s2, T, t1, t2, t3⟩
    obtain ⟨k, he, rfl⟩ := Xk.of_map_at hi
    obtain ⟨r, hr⟩ := hc k (List.mem_of_getElem? he)
    wtm_at "xs"
    refine ⟨rfl, ?_⟩
    wtm_at "xs"
    refine ⟨p, L, k, rfl, hL.same s2, hl, r, hr, fun H3 s3 => ?_⟩
    wtm_at "xs"
    intro tp H4 htp s4 h4
    have s34 := s3.trans s4
    have hT : T.length ≤ ks.length := by
      have z := congrArg List.length t3
      simp only [List.length_map, List.length_take] at z
      omega
    have t14 := s34 _ _ t1
    refine ⟨_, t14, Xk.size_lt (by rw [List.length_map]; omega), Xk.same_mut (s2.trans s34) hD, T ++ [(tp, k, r.2.2.1)], by rw [upd_same, List.map_append]; rfl, fun z hz => ?_, ?_⟩
    · rcases List.mem_append.mp hz with hz | hz
      · exact keep_tup (s34 _ _ (t2 z hz)) t14
      · rw [List.mem_singleton.mp hz]
        exact keep_tup h4 t14
    · rw [List.map_append, t3, List.take_add_one, he, List.map_append]
      show _ ++ [(k, r.2.2.1)] = _ ++ [(k, cellK k (L.map (·.2)))]
      rw [cellK_of hr]
  · rintro Dl H3 hD ⟨s3, T, t1, t2, t3⟩
    rw [List.length_map, List.take_length] at t3
    wtm_at "xs"
    intro tq H4 htq s4 h4
    exact q H4 tq T (s3.trans s4) ⟨h4, fun e he => s4 _ _ (t2 e he)⟩ t3
--CUT--
/-! ### calls -/
/-- an open call -/
abbrev OcI (H : Hp) (C a dx : Addr) (n : Int) (d p : Addr) : Prop := H a = some (.ins C dx [("number", .int n), ("deal", .ref d), ("places", .ref p)])
def sp_OpenCall___init__ (K : PySem.W.Frag) (C : Addr) : Sp := fun vs H Q _ => ∃ x dx n d p, vs = [.ref x, .int n, .ref d, .ref p] ∧ H x = some (.ins C dx []) ∧ ∀ H', Xk.But x H H' → OcI H' C x dx n d p → Q .non H'
theorem ok_OpenCall___init__ (T : Txt K mg) : FnOk P w K mg base CX0 1 T.f_OpenCall___init__ T.d_OpenCall___init__ ["self", "number", "deal", "places"] (sp_OpenCall___init__ K T.C_OpenCall) := by
  refine T.F_OpenCall___init__.ok sc_OpenCall___init__ (fun vs H Q E h => ?_) (fun cdv A outer s H vs Q E hr h => ?_)
  · obtain ⟨x, dx, n, d, p, rfl, _⟩ := h
    rfl
  obtain ⟨x, dx, n, d, p, rfl, j1, q⟩ := h
  have c0 := T.Cls_OpenCall
  have c1 := T.A_OpenCall_number
  have c2 := T.A_OpenCall_deal
  have c3 := T.A_OpenCall_places
  refine ⟨_, (pss_cons (ps_fld (pv 0) (pv 1) rfl)
      (pss_cons (ps_fld (pv 0) (pv 2) rfl)
      (pss_one (ps_fld (pv 0) (pv 3) rfl)))), ?_⟩
  wtm_at "x0"
  wtm_at "xs"
  exact q _ (by wtm_at "bm") upd_same
def sp_OpenCall_home (K : PySem.W.Frag) (C : Addr) : Sp := fun vs H Q _ => ∃ a dx n d p e r, vs = [.ref a] ∧ OcI H C a dx n d p ∧ RgAt H p (e :: r) ∧ Q (.int e.2.2) H
theorem ok_OpenCall_home (T : Txt K mg) : FnOk P w K mg base CX0 1 T.f_OpenCall_home T.d_OpenCall_home ["self"] (sp_OpenCall_home K T.C_OpenCall) := by
  refine T.F_OpenCall_home.ok sc_OpenCall_home (fun vs H Q E h => ?_) (fun cdv A outer s H vs Q E hr h => ?_)
  · obtain ⟨a, dx, n, d, p, e, r, rfl, _⟩ := h
    rfl
  obtain ⟨a, dx, n, d, p, e, r, rfl, j1, hR, q⟩ := h
  have c0 := T.Cls_OpenCall
  have c3 := T.A_OpenCall_places
  have h1 := hR.tup
  have h2 := hR.it e (List.mem_cons_self ..)
  refine ⟨_, (pss_one (ps_ret (pe_ix (Xk.k_ixT (K := K) (by rfl)) (pe_ix (Xk.k_ixT (K := K) (by rfl)) (Xk.k_fld (K := K) (by rfl) (pv 0) rfl) (pe_int) (fun _ _ => rfl)) (pe_int) (fun _ _ => rfl)))), ?_⟩
  wtm_at "x0"
  wtm_at "xs"
  refine Xk.x_ixT (Xk.st_of h1) (show atI _ ((0 : Nat) : Int) = _ from atI_nat rfl) ?_
  wtm_at "xs"
  exact q
def sp_OpenCall_request (K : PySem.W.Frag) (C : Addr) : Sp := fun vs H Q _ => ∃ a dx n d p, vs = [.ref a] ∧ OcI H C a dx n d p ∧ ∀ H' t, Xk.Fr t H → Same H H' → H' t = some (.tup [.str "request", .int n, .ref d, .ref p]) → Q (.ref t) H'
theorem ok_OpenCall_request (T : Txt K mg) : FnOk P w K mg base CX0 1 T.f_OpenCall_request T.d_OpenCall_request ["self"] (sp_OpenCall_request K T.C_OpenCall) := by
  refine T.F_OpenCall_request.ok sc_OpenCall_request (fun vs H Q E h => ?_) (fun cdv A outer s H vs Q E hr h => ?_)
  · obtain ⟨a, dx, n, d, p, rfl, _⟩ := h
    rfl
  obtain ⟨a, dx, n, d, p, rfl, j1, q⟩ := h
  have c0 := T.Cls_OpenCall
  have c1 := T.A_OpenCall_number
  have c2 := T.A_OpenCall_deal
  have c3 := T.A_OpenCall_places
  refine ⟨_, (pss_one (ps_ret (pe_tup (pa_cons (pe_str) (pa_cons (Xk.k_fld (K := K) (by rfl) (pv 0) rfl) (pa_cons (Xk.k_fld (K := K) (by rfl) (pv 0) rfl) (pa_cons (Xk.k_fld (K := K) (by rfl) (pv 0) rfl) pa_nil))))))), ?_⟩
  wtm_at "x0"
  wtm_at "xs"
  intro t H1 ht s1 h1
  exact q H1 t ht s1 h1
/-- a row of a history -/
abbrev CrI (H : Hp) (C a dx : Addr) (c n : Int) (d : Addr) (k : Int) (v w : V) : Prop := H a = some (.ins C dx [("client", .int c), ("number", .int n), ("deal", .ref d), ("asked", .int k), ("answered", v), ("answer", w)])
def sp_CallRow___init__ (K : PySem.W.Frag) (C : Addr) : Sp := fun vs H Q _ => ∃ x dx c n d k, vs = [.ref x, .int c, .int n, .ref d, .int k] ∧ H x = some (.ins C dx []) ∧ ∀ H', Xk.But x H H' → CrI H' C x dx c n d k .non .non → Q .non H'
theorem ok_CallRow___init__ (T : Txt K mg) : FnOk P w K mg base CX0 1 T.f_CallRow___init__ T.d_CallRow___init__ ["self", "client", "number", "deal", "asked"] (sp_CallRow___init__ K T.C_CallRow) := by
  refine T.F_CallRow___init__.ok sc_CallRow___init__ (fun vs H Q E h => ?_) (fun cdv A outer s H vs Q E hr h => ?_)
  · obtain ⟨x, dx, c, n, d, k, rfl, _⟩ := h
    rfl
  obtain ⟨x, dx, c, n, d, k, rfl, j1, q⟩ := h
  have c0 := T.Cls_CallRow
  have c1 := T.A_CallRow_client
  have c2 := T.A_CallRow_number
  have c3 := T.A_CallRow_deal
  have c4 := T.A_CallRow_asked
  have c5 := T.A_CallRow_answered
  have c6 := T.A_CallRow_answer
  refine ⟨_, (pss_cons (ps_fld (pv 0) (pv 1) rfl)
      (pss_cons (ps_fld (pv 0) (pv 2) rfl)
      (pss_cons (ps_fld (pv 0) (pv 3) rfl)
      (pss_cons (ps_fld (pv 0) (pv 4) rfl)
      (pss_cons (ps_fld (pv 0) (pe_non) rfl)
      (pss_one (ps_fld (pv 0) (pe_non) rfl))))))), ?_⟩
  wtm_at "x0"
  wtm_at "xs"
  exact q _ (by wtm_at "bm") upd_same
def sp_CallRow_as_row (K : PySem.W.Frag) (C : Addr) : Sp := fun vs H Q _ => ∃ a dx c n d k v w, vs = [.ref a] ∧ CrI H C a dx c n d k v w ∧ ∀ H' t, Xk.Fr t H → Same H H' → H' t = some (.tup [.int c, .int n, .ref d, .int k, v, w]) → Q (.ref t) H'
theorem ok_CallRow_as_row (T : Txt K mg) : FnOk P w K mg base CX0 1 T.f_CallRow_as_row T.d_CallRow_as_row ["self"] (sp_CallRow_as_row K T.C_CallRow) := by
  refine T.F_CallRow_as_row.ok sc_CallRow_as_row (fun vs H Q E h => ?_) (fun cdv A outer s H vs Q E hr h => ?_)
  · obtain ⟨a, dx, c, n, d, k, v, w, rfl, _⟩ := h
    rfl
  obtain ⟨a, dx, c, n, d, k, v, w, rfl, j1, q⟩ := h
  have c0 := T.Cls_CallRow
  have c1 := T.A_CallRow_client
  have c2 := T.A_CallRow_number
  have c3 := T.A_CallRow_deal
  have c4 := T.A_CallRow_asked
  have c5 := T.A_CallRow_answered
  have c6 := T.A_CallRow_answer
  refine ⟨_, (pss_one (ps_ret (pe_tup (pa_cons (Xk.k_fld (K := K) (by rfl) (pv 0) rfl) (pa_cons (Xk.k_fld (K := K) (by rfl) (pv 0) rfl) (pa_cons (Xk.k_fld (K := K) (by rfl) (pv 0) rfl) (pa_cons (Xk.k_fld (K := K) (by rfl) (pv 0) rfl) (pa_cons (Xk.k_fld (K := K) (by rfl) (pv 0) rfl) (pa_cons (Xk.k_fld (K := K) (by rfl) (pv 0) rfl) pa_nil))))))))), ?_⟩
  wtm_at "x0"
  wtm_at "xs"
  intro t H1 ht s1 h1
  exact q H1 t ht s1 h1
--CUT--
theorem ne_of_obj {H : Hp} {a b : Addr} {o o' : HO} (h : H a = some o) (h' : H b = some o') (n : o ≠ o') : a ≠ b := fun z => by
  rw [z, h'] at h
  exact n (Option.some.inj h).symm
theorem RowsAt.ins {H H' : Hp} {p x C dx : Addr} {fs : List (Str × V)} {L : List (Addr × Br)} (h : RowsAt H p L) (b : Xk.But x H H') (hx : H x = some (.ins C dx fs)) : RowsAt H' p L :=
  ⟨b _ _ (ne_of_obj h.lst hx (fun z => by cases z)) h.lst, fun e he => b _ _ (ne_of_obj (h.tup e he) hx (fun z => by cases z)) (h.tup e he)⟩
theorem RgAt.ins {H H' : Hp} {p x C dx : Addr} {fs : List (Str × V)} {L : List (Addr × Str × Int)} (h : RgAt H p L) (b : Xk.But x H H') (hx : H x = some (.ins C dx fs)) : RgAt H' p L :=
  ⟨b _ _ (ne_of_obj h.tup hx (fun z => by cases z)) h.tup, fun e he => b _ _ (ne_of_obj (h.it e he) hx (fun z => by cases z)) (h.it e he)⟩
theorem DlAt.ins {H H' : Hp} {p x C dx : Addr} {fs : List (Str × V)} {Cs : List (Addr × Ck)} {D : List (Addr × Dd)} (h : DlAt H p Cs D) (b : Xk.But x H H') (hx : H x = some (.ins C dx fs)) : DlAt H' p Cs D := by
  have k : ∀ {c : Addr} {xs : List V}, H c = some (.tup xs) → H' c = some (.tup xs) := fun hc => b _ _ (ne_of_obj hc hx (fun z => by cases z)) hc
  obtain ⟨pc, pd, h1, h2, h3⟩ := h.tp
  exact ⟨⟨pc, pd, k h1, k h2, k h3⟩, fun e he => k (h.ck e he), fun e he => k (h.dd e he), h.fv, h.ok, h.cl, h.dl⟩
/-- a client -/
abbrev ClI (H : Hp) (C a dx bl : Addr) (n : Int) (cv : V) : Prop := H a = some (.ins C dx [("beliefs", .ref bl), ("number", .int n), ("call", cv)])
def sp_Client___init__ (K : PySem.W.Frag) (C : Addr) : Sp := fun vs H Q _ => ∃ x dx p R, vs = [.ref x, .ref p] ∧ H x = some (.ins C dx []) ∧ RgAt H p R ∧ 1 ≤ R.length ∧ R.length ≤ 50 ∧ ∀ H' bl L, Xk.Fr bl H → Xk.But x H H' → ClI H' C x dx bl 0 .non → RowsAt H' bl L → L.map (·.2) = firstR (R.map (·.2)) → Q .non H'
theorem ok_Client___init__ (T : Txt K mg) : FnOk P w K mg base CX0 3 T.f_Client___init__ T.d_Client___init__ ["self", "ranges"] (sp_Client___init__ K T.C_Client) := by
  refine T.F_Client___init__.ok sc_Client___init__ (fun vs H Q E h => ?_) (fun cdv A outer s H vs Q E hr h => ?_)
  · obtain ⟨x, dx, p, R, rfl, _⟩ := h
    rfl
  obtain ⟨x, dx, p, R, rfl, j1, hR, hl1, hl2, q⟩ := h
  have c0 := T.Cls_Client
  have c1 := T.A_Client_beliefs
  have c2 := T.A_Client_number
  have c3 := T.A_Client_call
  refine ⟨_, (pss_cons (ps_fld (pv 0) (pe_call (ok_first_beliefs T) (hr.mono (by decide)) (by rfl) T.g_first_beliefs T.F_first_beliefs.kp T.b_first_beliefs .nil pass0 (pa_cons (pv 1) pa_nil)) rfl)
      (pss_cons (ps_fld (pv 0) (pe_int) rfl)
      (pss_one (ps_fld (pv 0) (pe_non) rfl)))), ?_⟩
  wtm_at "x0"
  wtm_at "xs"
  refine ⟨p, R, rfl, hR, hl1, hl2, fun H1 bl L s1 hbl hL e => ?_⟩
  have j2 := s1 _ _ j1
  wtm_at "xs"
  have b2 : Xk.But x H1 (upd (upd (upd H1 x (.ins T.C_Client dx [("beliefs", .ref bl)])) x (.ins T.C_Client dx [("beliefs", .ref bl), ("number", .int 0)])) x (.ins T.C_Client dx [("beliefs", .ref bl), ("number", .int 0), ("call", .non)])) := Xk.but_mut (Xk.but_mut (Xk.but_mut (Xk.But.refl _ _)))
  exact q _ bl L hbl (Xk.but_trans (Xk.but_same s1) b2) upd_same (hL.ins b2 j2) e
def sp_Client_begin (K : PySem.W.Frag) (C CO : Addr) : Sp := fun vs H Q _ => ∃ a dx bl n cv L d Cs D, vs = [.ref a, .ref d] ∧ ClI H C a dx bl n cv ∧ RowsAt H bl L ∧ L.length ≤ 50 ∧ DlAt H d Cs D ∧ (∀ k : Str, ∃ r, ((L.map (·.2)).filter (hasK k))[0]? = some r) ∧
  ∀ H' oc odx pl ts T, Xk.Fr oc H → Xk.But a H H' → ClI H' C a dx bl (n + 1) (.ref oc) → OcI H' CO oc odx (n + 1) d pl → sortedS ts = true → ts.Nodup → (∀ t, t ∈ ts ↔ KeyOf Cs D t) → RgAt H' pl T → T.map (·.2) = ts.map (fun k => (k, cellK k (L.map (·.2)))) → Q .non H'
theorem ok_Client_begin (T : Txt K mg) : FnOk P w K mg base CX0 4 T.f_Client_begin T.d_Client_begin ["self", "deal"] (sp_Client_begin K T.C_Client T.C_OpenCall) := by
  refine T.F_Client_begin.ok sc_Client_begin (fun vs H Q E h => ?_) (fun cdv A outer s H vs Q E hr h => ?_)
  · obtain ⟨a, dx, bl, n, cv, L, d, Cs, D, rfl, _⟩ := h
    rfl
  obtain ⟨a, dx, bl, n, cv, L, d, Cs, D, rfl, j1, hL, hl, hD, hk, q⟩ := h
  have c0 := T.Cls_Client
  have c1 := T.A_Client_beliefs
  have c2 := T.A_Client_number
  have c3 := T.A_Client_call
  have e0 := T.Cls_OpenCall
  refine ⟨_, (pss_cons (ps_fldaug (pv 0) (pe_int) in_add)
      (pss_one (ps_fld (pv 0) (pe_make T.Mk_OpenCall (ok_OpenCall___init__ T) (hr.mono (by decide)) (by rfl) T.g_OpenCall T.b_OpenCall___init__ .nil pass0 (pa_cons (Xk.k_fld (K := K) (by rfl) (pv 0) rfl) (pa_cons (pv 1) (pa_cons (pe_call (ok_places_of T) (hr.mono (by decide)) (by rfl) T.g_places_of T.F_places_of.kp T.b_places_of .nil pass0 (pa_cons (Xk.k_fld (K := K) (by rfl) (pv 0) rfl) (pa_cons (pe_call (ok_keys_of T) (hr.mono (by decide)) (by rfl) T.g_keys_of T.F_keys_of.kp T.b_keys_of .nil pass0 (pa_cons (pv 1) pa_nil)) pa_nil))) pa_nil)))) rfl))), ?_⟩
  wtm_at "x0"
  wtm_at "xs"
  refine Xk.x_sfldaug ?_
  wtm_at "xs"
  refine ⟨a, _, dx, _, _, rfl, j1, c0, c2, rfl, ?_⟩
  wtm_at "xs"
  refine ⟨n, 1, rfl, rfl, dx, _, j1, Nat.le_of_ble_eq_true rfl, ?_⟩
  have b1 : Xk.But a H (upd H a (.ins T.C_Client dx (putF "number" (.int (n + 1)) [("beliefs", .ref bl), ("number", .int n), ("call", cv)]))) := Xk.but_mut (Xk.But.refl _ _)
  have j2 : ClI (upd H a (.ins T.C_Client dx (putF "number" (.int (n + 1)) [("beliefs", .ref bl), ("number", .int n), ("call", cv)]))) T.C_Client a dx bl (n + 1) cv := upd_same
  have hD1 := hD.ins b1 j1
  have hL1 := hL.ins b1 j1
  generalize upd H a (.ins T.C_Client dx (putF "number" (.int (n + 1)) [("beliefs", .ref bl), ("number", .int n), ("call", cv)])) = H1 at *
  wtm_at "xs"
  refine ⟨d, Cs, D, rfl, hD1, fun H2 q2 ts s2 h2 o2 n2 m2 => ?_⟩
  have hts : ts.length ≤ 50 := by
    have z := n2.length_le_of_subset (l₂ := (Cs.map fun e => e.2.1) ++ D.map fun e => e.2.key) fun t ht => by
      rcases (m2 t).mp ht with ⟨e, he, rfl⟩ | ⟨e, he, rfl⟩
      · exact List.mem_append_left _ (List.mem_map.mpr ⟨e, he, rfl⟩)
      · exact List.mem_append_right _ (List.mem_map.mpr ⟨e, he, rfl⟩)
    have := hD.cl
    have := hD.dl
    rw [List.length_append, List.length_map, List.length_map] at z
    omega
  wtm_at "xs"
  refine ⟨bl, q2, L, ts, rfl, hL1.same s2, hl, h2, hts, fun k _ => hk k, fun H3 q3 T' s3 hT eT => ?_⟩
  have s13 := s2.trans s3
  have j3 := s13 _ _ j2
  wtm_at "xs"
  refine Xk.x_rMake fun oc odx H4 ho hd hn s4 h5 h6 => ?_
  refine ⟨oc, odx, n + 1, d, q3, rfl, h6, fun H5 b5 g5 => ⟨rfl, ?_⟩⟩
  have s35 : Same H3 H5 := Xk.same_but b5 ho s4
  have j5 := s35 _ _ j3
  have ho1 : Xk.Fr oc H := ⟨by
    cases e : H oc with
    | none => rfl
    | some o =>
      by_cases z : oc = a
      · rw [z] at ho
        have y := ho.is
        rw [j3] at y
        cases y
      · have y := s13 _ _ (b1 _ _ z e)
        rw [ho.is] at y
        cases y⟩
  have noc : oc ≠ a := (Xk.ne_new ho j3).symm
  wtm_at "xs"
  have b6 : Xk.But a H5 (upd H5 a (.ins T.C_Client dx [("beliefs", .ref bl), ("number", .int (n + 1)), ("call", .ref oc)])) := Xk.but_mut (Xk.But.refl _ _)
  exact q _ oc odx q3 ts T' ho1 (Xk.but_trans (Xk.but_trans b1 (Xk.but_same (s13.trans s35))) b6) upd_same (b6 _ _ noc g5) o2 n2 m2 ((hT.same s35).ins b6 j5) eT
/-- a history -/
abbrev HiI (H : Hp) (C a dx : Addr) (n : Int) (cs by_ : Addr) : Prop := H a = some (.ins C dx [("events", .int n), ("_calls", .ref cs), ("_by_name", .ref by_)])
def sp_History___init__ (K : PySem.W.Frag) (C : Addr) : Sp := fun vs H Q _ => ∃ x dx, vs = [.ref x] ∧ H x = some (.ins C dx []) ∧ ∀ H' cs by_, Xk.Fr cs H → Xk.Fr by_ H → cs ≠ by_ → Xk.But x H H' → HiI H' C x dx 0 cs by_ → H' cs = some (.lst []) → H' by_ = some (.dT []) → Q .non H'
theorem ok_History___init__ (T : Txt K mg) : FnOk P w K mg base CX0 1 T.f_History___init__ T.d_History___init__ ["self"] (sp_History___init__ K T.C_History) := by
  refine T.F_History___init__.ok sc_History___init__ (fun vs H Q E h => ?_) (fun cdv A outer s H vs Q E hr h => ?_)
  · obtain ⟨x, dx, rfl, _⟩ := h
    rfl
  obtain ⟨x, dx, rfl, j1, q⟩ := h
  have c0 := T.Cls_History
  have c1 := T.A_History_events
  have c2 := T.A_History__calls
  have c3 := T.A_History__by_name
  refine ⟨_, (pss_cons (ps_fld (pv 0) (pe_int) rfl)
      (pss_cons (ps_fld (pv 0) (pe_lst pa_nil) rfl)
      (pss_one (ps_fld (pv 0) (pe_dnewT) rfl)))), ?_⟩
  wtm_at "x0"
  wtm_at "xs"
  intro cs H2 hcs s2 h2
  have b1 : Xk.But x H (upd H x (.ins T.C_History dx [("events", .int 0)])) := Xk.but_mut (Xk.But.refl _ _)
  have j2 : H2 x = some (.ins T.C_History dx [("events", .int 0)]) := s2 _ _ upd_same
  have fr : ∀ {c : Addr} {H' : Hp}, Xk.Fr c H' → Xk.But x H H' → H' x ≠ none → Xk.Fr c H := fun {c H'} hc b hx => ⟨by
    cases e : H c with
    | none => rfl
    | some o =>
      by_cases z : c = x
      · rw [← z] at hx
        exact absurd hc.is hx
      · have y := b _ _ z e
        rw [hc.is] at y
        cases y⟩
  have hcs0 : Xk.Fr cs H := fr hcs b1 (by rw [upd_same]; exact Option.some_ne_none _)
  have ncs : cs ≠ x := (Xk.ne_new hcs upd_same).symm
  have b2 : Xk.But x H H2 := Xk.but_trans b1 (Xk.but_same s2)
  clear s2 hcs b1
  wtm_at "xs"
  have b3 : Xk.But x H2 (upd H2 x (.ins T.C_History dx [("events", .int 0), ("_calls", .ref cs)])) := Xk.but_mut (Xk.But.refl _ _)
  have j3 : upd H2 x (.ins T.C_History dx (putF "_calls" (.ref cs) [("events", .int 0)])) x = some (.ins T.C_History dx [("events", .int 0), ("_calls", .ref cs)]) := upd_same
  have h3 := b3 _ _ ncs h2
  have b03 := Xk.but_trans b2 b3
  clear b2 b3 h2 j2 ncs
  have b03' : Xk.But x H (upd H2 x (.ins T.C_History dx (putF "_calls" (.ref cs) [("events", .int 0)]))) := b03
  have h3' : upd H2 x (.ins T.C_History dx (putF "_calls" (.ref cs) [("events", .int 0)])) cs = some (.lst []) := h3
  clear b03 h3
  generalize upd H2 x (.ins T.C_History dx (putF "_calls" (.ref cs) [("events", .int 0)])) = H3 at *
  intro by_ hby
  have n1 : by_ ≠ x := fun z => by
    rw [z, j3] at hby
    cases hby
  have n2 : cs ≠ by_ := fun z => by
    rw [← z, h3'] at hby
    cases hby
  have n3 : cs ≠ x := ne_of_obj h3' j3 (fun z => by cases z)
  have hby0 : Xk.Fr by_ H := fr ⟨hby⟩ b03' (by rw [j3]; exact Option.some_ne_none _)
  have s4 : Same H3 (upd H3 by_ (.dT [])) := Xk.same_new hby
  have h4 : upd H3 by_ (.dT []) by_ = some (.dT []) := upd_same
  clear hby
  generalize upd H3 by_ (.dT []) = H4 at *
  have j4 := s4 _ _ j3
  wtm_at "xs"
  have b5 : Xk.But x H4 (upd H4 x (.ins T.C_History dx [("events", .int 0), ("_calls", .ref cs), ("_by_name", .ref by_)])) := Xk.but_mut (Xk.But.refl _ _)
  exact q _ cs by_ hcs0 hby0 n2 (Xk.but_trans (Xk.but_trans b03' (Xk.but_same s4)) b5) upd_same (b5 _ _ n3 (s4 _ _ h3')) (b5 _ _ n1 h4)
--CUT--
def ky (c n : Int) : List Key := [Sum.inl c, Sum.inl n]
/-- all but three stay -/
def But3 (a b c : Addr) (H H' : Hp) : Prop := ∀ x o, x ≠ a → x ≠ b → x ≠ c → H x = some o → H' x = some o
def sp_History_ask (K : PySem.W.Frag) (C CR : Addr) : Sp := fun vs H Q _ => ∃ a dx m cs by_ xs kvs c n d, vs = [.ref a, .int c, .int n, .ref d] ∧ HiI H C a dx m cs by_ ∧ H cs = some (.lst xs) ∧ xs.length ≤ 1000 ∧ H by_ = some (.dT kvs) ∧ kvs.length ≤ 1000 ∧
  ∀ H' r rdx, Xk.Fr r H → But3 a cs by_ H H' → HiI H' C a dx (m + 1) cs by_ → H' cs = some (.lst (xs ++ [.ref r])) → H' by_ = some (.dT (putK kvs (ky c n) (.ref r))) → CrI H' CR r rdx c n d m .non .non → Q .non H'
theorem ok_History_ask (T : Txt K mg) : FnOk P w K mg base CX0 3 T.f_History_ask T.d_History_ask ["self", "client", "number", "deal"] (sp_History_ask K T.C_History T.C_CallRow) := by
  refine T.F_History_ask.ok sc_History_ask (fun vs H Q E h => ?_) (fun cdv A outer s H vs Q E hr h => ?_)
  · obtain ⟨a, dx, m, cs, by_, xs, kvs, c, n, d, rfl, _⟩ := h
    rfl
  obtain ⟨a, dx, m, cs, by_, xs, kvs, c, n, d, rfl, j1, h1, hl1, h2, hl2, q⟩ := h
  have c0 := T.Cls_History
  have c1 := T.A_History_events
  have c2 := T.A_History__calls
  have c3 := T.A_History__by_name
  have e0 := T.Cls_CallRow
  refine ⟨_, (pss_cons (ps_set (i := 4) sc_History_ask.nd rfl (Or.inl rfl) (pe_make T.Mk_CallRow (ok_CallRow___init__ T) (hr.mono (by decide)) (by rfl) T.g_CallRow T.b_CallRow___init__ .nil pass0 (pa_cons (pv 1) (pa_cons (pv 2) (pa_cons (pv 3) (pa_cons (Xk.k_fld (K := K) (by rfl) (pv 0) rfl) pa_nil))))))
      (pss_cons (ps_expr (pe_bm PySem.F.plainAttrs_list PySem.F.slot_list_append PySem.F.type_list_append mt_append (Xk.k_fld (K := K) (by rfl) (pv 0) rfl) (pa_cons (pv 4) pa_nil)))
      (pss_cons (ps_dput (hu_of hr) (Xk.k_fld (K := K) (by rfl) (pv 0) rfl) (pe_tup (pa_cons (pv 1) (pa_cons (pv 2) pa_nil))) (pv 4) rfl)
      (pss_one (ps_fldaug (pv 0) (pe_int) in_add))))), ?_⟩
  wtm_at "x0"
  wtm_at "xs"
  refine Xk.x_rMake fun r rdx H2 hr hd hn s2 h5 h6 => ?_
  refine ⟨r, rdx, c, n, d, m, rfl, h6, fun H3 b3 g3 => ⟨rfl, ?_⟩⟩
  have s3 : Same H H3 := Xk.same_but b3 hr s2
  have j3 := s3 _ _ j1
  have k1 := s3 _ _ h1
  have k2 := s3 _ _ h2
  have n1 : r ≠ a := (Xk.ne_new hr j1).symm
  have n2 : r ≠ cs := (Xk.ne_new hr h1).symm
  have n3 : r ≠ by_ := (Xk.ne_new hr h2).symm
  have n4 : cs ≠ a := ne_of_obj h1 j1 (fun z => by cases z)
  have n5 : by_ ≠ a := ne_of_obj h2 j1 (fun z => by cases z)
  have n6 : cs ≠ by_ := ne_of_obj h1 h2 (fun z => by cases z)
  wtm_at "xs"
  intro tk H4 htk s4 h4
  have a4 := s4 _ _ ((upd_ne n4.symm).trans j3)
  have cs4 := s4 _ _ (upd_same : upd H3 cs (.lst (xs ++ [.ref r])) cs = _)
  have by4 := s4 _ _ ((upd_ne n6.symm).trans k2)
  have r4 := s4 _ _ ((upd_ne n2).trans g3)
  refine ⟨by_, _, rfl, DPut.t (k := ky c n) by4 h4 (Xk.size_lt (by omega)), ?_⟩
  have a5 : upd H4 by_ (.dT (putK kvs (ky c n) (.ref r))) a = _ := (upd_ne n5.symm).trans a4
  refine Xk.x_sfldaug ?_
  wtm_at "xs"
  refine ⟨a, _, dx, _, _, rfl, a5, c0, c1, rfl, ?_⟩
  wtm_at "xs"
  refine ⟨m, 1, rfl, rfl, dx, _, a5, Nat.le_of_ble_eq_true rfl, ?_⟩
  exact q _ r rdx hr (fun x o x1 x2 x3 hx => (upd_ne x1).trans ((upd_ne x3).trans (s4 _ _ ((upd_ne x2).trans (s3 _ _ hx))))) upd_same ((upd_ne n4).trans ((upd_ne n6).trans cs4)) ((upd_ne n5).trans upd_same) ((upd_ne n1).trans ((upd_ne n3).trans r4))
def sp_History_close (K : PySem.W.Frag) (C CR : Addr) : Sp := fun vs H Q _ => ∃ a dx m cs by_ kvs c n w r rdx c' n' d k v u, vs = [.ref a, .int c, .int n, w] ∧ HiI H C a dx m cs by_ ∧ H by_ = some (.dT kvs) ∧ valV kvs (ky c n) = some (.ref r) ∧ CrI H CR r rdx c' n' d k v u ∧ r ≠ a ∧
  ∀ H', But3 a r r H H' → HiI H' C a dx (m + 1) cs by_ → CrI H' CR r rdx c' n' d k (.int m) w → Q .non H'
theorem ok_History_close (T : Txt K mg) : FnOk P w K mg base CX0 1 T.f_History_close T.d_History_close ["self", "client", "number", "answer"] (sp_History_close K T.C_History T.C_CallRow) := by
  refine T.F_History_close.ok sc_History_close (fun vs H Q E h => ?_) (fun cdv A outer s H vs Q E hr h => ?_)
  · obtain ⟨a, dx, m, cs, by_, kvs, c, n, w, r, rdx, c', n', d, k, v, u, rfl, _⟩ := h
    rfl
  obtain ⟨a, dx, m, cs, by_, kvs, c, n, w, r, rdx, c', n', d, k, v, u, rfl, j1, h2, hv, g1, nra, q⟩ := h
  have c0 := T.Cls_History
  have c1 := T.A_History_events
  have c3 := T.A_History__by_name
  have e0 := T.Cls_CallRow
  have e1 := T.A_CallRow_answered
  have e2 := T.A_CallRow_answer
  refine ⟨_, (pss_cons (ps_set (i := 4) sc_History_close.nd rfl (Or.inl rfl) (pe_dget (hu_of hr) (Xk.k_fld (K := K) (by rfl) (pv 0) rfl) (pe_tup (pa_cons (pv 1) (pa_cons (pv 2) pa_nil))) (fun _ _ => rfl)))
      (pss_cons (ps_fld (pv 4) (Xk.k_fld (K := K) (by rfl) (pv 0) rfl) rfl)
      (pss_cons (ps_fld (pv 4) (pv 3) rfl)
      (pss_one (ps_fldaug (pv 0) (pe_int) in_add))))), ?_⟩
  wtm_at "x0"
  wtm_at "xs"
  intro tk H1 htk s1 h1
  have j2 := s1 _ _ j1
  have by2 := s1 _ _ h2
  have g2 := s1 _ _ g1
  wtm_at "xs"
  refine ⟨by_, _, rfl, (by rw [← hv]; exact DGet.t (k := ky c n) by2 h1), ?_⟩
  wtm_at "xs"
  refine Xk.x_sfldaug ?_
  wtm_at "xs"
  refine ⟨a, _, dx, _, _, rfl, (upd_ne nra.symm).trans ((upd_ne nra.symm).trans j2), c0, c1, rfl, ?_⟩
  wtm_at "xs"
  refine ⟨m, 1, rfl, rfl, dx, _, (upd_ne nra.symm).trans ((upd_ne nra.symm).trans j2), Nat.le_of_ble_eq_true rfl, ?_⟩
  exact q _ (fun x o x1 x2 _ hx => (upd_ne x1).trans ((upd_ne x2).trans ((upd_ne x2).trans (s1 _ _ hx)))) upd_same ((upd_ne nra).trans upd_same)
/-- a row: its address and what it tells -/
structure Cr where
  a : Addr
  dx : Addr
  c : Int
  n : Int
  d : Addr
  k : Int
  v : V
  w : V
def Cr.xs (r : Cr) : List V := [.int r.c, .int r.n, .ref r.d, .int r.k, r.v, r.w]
def Cr.at_ (H : Hp) (CR : Addr) (r : Cr) : Prop := CrI H CR r.a r.dx r.c r.n r.d r.k r.v r.w
def sp_History_rows (K : PySem.W.Frag) (C CR : Addr) : Sp := fun vs H Q _ => ∃ a dx m cs by_ R, vs = [.ref a] ∧ HiI H C a dx m cs by_ ∧ H cs = some (.lst (R.map fun r : Cr => V.ref r.a)) ∧ (∀ r ∈ R, Cr.at_ H CR r) ∧ R.length ≤ 1000 ∧
  ∀ H' q (T : List (Addr × Cr)), Same H H' → H' q = some (.lst (T.map fun e => V.ref e.1)) → T.map (·.2) = R → (∀ e ∈ T, H' e.1 = some (.tup e.2.xs)) → Q (.ref q) H'
theorem ok_History_rows (T : Txt K mg) : FnOk P w K mg base CX0 2 T.f_History_rows T.d_History_rows ["self"] (sp_History_rows K T.C_History T.C_CallRow) := by
  refine T.F_History_rows.ok sc_History_rows (fun vs H Q E h => ?_) (fun cdv A outer s H vs Q E hr h => ?_)
  · obtain ⟨a, dx, m, cs, by_, R, rfl, _⟩ := h
    rfl
  obtain ⟨a, dx, m, cs, by_, R, rfl, j1, h1, hR, hl, q⟩ := h
  have c0 := T.Cls_History
  have c2 := T.A_History__calls
  have e0 := T.Cls_CallRow
  refine ⟨_, (pss_one (ps_ret (pe_lc (own := [("row", 1)]) (g := gName 1) (tt := tYes) rfl sc_History_rows.nd  (pi_list (Xk.k_fld (K := K) (by rfl) (pv 0) rfl)) (blkOk_by (N := N_History_rows) (sc := defScope s_History_rows) (own := [("row", 1)]) (by decide +kernel)) (fun _ _ _ _ _ => pg_name (i := 1) sc_History_rows.nd rfl (Or.inl rfl)) (fun _ _ _ _ _ => pts_nil) (fun _ _ _ _ _ => (pe_meth0 (pv 1) T.Cls_CallRow T.M_CallRow_as_row (ok_CallRow_as_row T) (hr.mono (by decide)) T.b_CallRow_as_row .nil pass0))))), ?_⟩
  wtm_at "x0"
  wtm_at "xs"
  refine Xk.x_lcL (xs := R.map fun r : Cr => V.ref r.a) (fun Dl i H' => Same H H' ∧ ∃ T' : List (Addr × Cr), H' Dl = some (.lst (T'.map fun e => V.ref e.1)) ∧ T'.map (·.2) = R.take i ∧ ∀ e ∈ T', H' e.1 = some (.tup e.2.xs)) (Xk.sq_of h1) ?_ ?_ ?_ ?_
  · intro Dl hD
    exact ⟨Xk.same_fr hD, [], upd_same, rfl, fun e z => (by cases z)⟩
  · rintro Dl i H' hD ⟨s2, _⟩
    exact Xk.sq_of (s2 _ _ h1)
  · rintro Dl hD i x H' hi ⟨s2, T', t1, t2, t3⟩
    obtain ⟨r, hr, rfl⟩ := Xk.of_map_at hi
    have g := s2 _ _ (hR r (List.mem_of_getElem? hr))
    wtm_at "xs"
    refine ⟨rfl, ?_⟩
    wtm_at "xs"
    refine ⟨r.a, r.dx, r.c, r.n, r.d, r.k, r.v, r.w, rfl, g, fun H3 t ht s3 h3 => ?_⟩
    have hT : T'.length ≤ R.length := by
      have z := congrArg List.length t2
      rw [List.length_map, List.length_take] at z
      omega
    have t14 := s3 _ _ t1
    refine ⟨_, t14, Xk.size_lt (by rw [List.length_map]; omega), Xk.same_mut (s2.trans s3) hD, T' ++ [(t, r)], by rw [upd_same, List.map_append]; rfl, ?_, fun z hz => ?_⟩
    · rw [List.map_append, t2, List.take_add_one, hr]
      rfl
    · rcases List.mem_append.mp hz with hz | hz
      · exact keep_tup (s3 _ _ (t3 z hz)) t14
      · rw [List.mem_singleton.mp hz]
        exact keep_tup h3 t14
  · rintro Dl H3 hD ⟨s3, T', t1, t2, t3⟩
    rw [List.length_map, List.take_length] at t2
    exact q H3 Dl T' s3 t1 t2 t3
--CUT--
def learnR (hi : Br) (l : List Br) : List Br := (cutL hi.2.1 (cutL (some hi.1) l)).map (behind hi)
/-- an answer -/
structure AnAt (H : Hp) (p : Addr) (w : Str) (G : List (Addr × Br)) : Prop where
  tp : ∃ xs, H p = some (.tup (.str w :: xs)) ∧ xs.length ≤ 5 ∧ (w = "moved" → ∃ hp, xs = [.ref hp] ∧ H hp = some (.tup (G.map fun e => V.ref e.1)) ∧ ∀ e ∈ G, H e.1 = some (.tup (Br.v e.2)))
  no : w ≠ "moved" → G = []
theorem fr_butI {c x : Addr} {H H' : Hp} {o : HO} (hc : Xk.Fr c H') (b : Xk.But x H H') (hx : H' x = some o) : Xk.Fr c H := ⟨by
  cases e : H c with
  | none => rfl
  | some o' =>
    by_cases z : c = x
    · rw [← z, hc.is] at hx
      cases hx
    · have y := b _ _ z e
      rw [hc.is] at y
      cases y⟩
def sp_Client_hear (K : PySem.W.Frag) (C CO : Addr) : Sp := fun vs H Q _ => ∃ a dx bl n cv L num an w G, vs = [.ref a, .int num, .ref an] ∧ ClI H C a dx bl n cv ∧ (cv = .non ∨ ∃ oc odx m d p, cv = .ref oc ∧ OcI H CO oc odx m d p) ∧ RowsAt H bl L ∧ AnAt H an w G ∧ G.length ≤ 10 ∧
  (∀ i, i ≤ G.length → ((((G.take i).map (·.2)).foldl (fun l hi => learnR hi l) (L.map (·.2))).length ≤ 40 ∧ Ch "" (((G.take i).map (·.2)).foldl (fun l hi => learnR hi l) (L.map (·.2))))) ∧
  ((∀ oc odx m d p, cv = .ref oc → OcI H CO oc odx m d p → m ≠ num) → ∀ H', Same H H' → Q (.bl false) H') ∧
  (∀ oc odx d p, cv = .ref oc → OcI H CO oc odx num d p → ∀ H' bl' L', Xk.But a H H' → (bl' = bl ∨ Xk.Fr bl' H) → ClI H' C a dx bl' n .non → RowsAt H' bl' L' → L'.map (·.2) = (G.map (·.2)).foldl (fun l hi => learnR hi l) (L.map (·.2)) → Q (.bl true) H')
theorem ok_Client_hear (T : Txt K mg) : FnOk P w K mg base CX0 4 T.f_Client_hear T.d_Client_hear ["self", "number", "answer"] (sp_Client_hear K T.C_Client T.C_OpenCall) := by
  refine T.F_Client_hear.ok sc_Client_hear (fun vs H Q E h => ?_) (fun cdv A outer s H vs Q E hr h => ?_)
  · obtain ⟨a, dx, bl, n, cv, L, num, an, w, G, rfl, _⟩ := h
    rfl
  obtain ⟨a, dx, bl, n, cv, L, num, an, w, G, rfl, j1, hcv, hL, hA, hG, hch, q1, q2⟩ := h
  have c0 := T.Cls_Client
  have c1 := T.A_Client_beliefs
  have c2 := T.A_Client_number
  have c3 := T.A_Client_call
  have e0 := T.Cls_OpenCall
  have e1 := T.A_OpenCall_number
  refine ⟨_, (Evl.pss_cut (ps_if (PW.pt (pw_or (pt_cmpR Xk.op_nIsN (Xk.k_fld (K := K) (by rfl) (pv 0) rfl) (pe_non) (nomark _)) (pw_or1 (pt_cmpR op_ne (Xk.k_fld (K := K) (by rfl) (Xk.k_fld (K := K) (by rfl) (pv 0) rfl) rfl) (pv 1) (nomark _))))) (pss_one (ps_ret (pe_bl))) pss_nil)
      (pss_cons (ps_fld (pv 0) (pe_non) rfl)
      (Evl.pss_cut (ps_if (pt_cmpR op_eq (pe_ix (Xk.k_ixT (K := K) (by rfl)) (pv 2) (pe_int) (fun _ _ => rfl)) (pe_str) (nomark _)) (pss_one (ps_for PassesOwn.never rfl (pi_tup (pe_ix (Xk.k_ixT (K := K) (by rfl)) (pv 2) (pe_int) (fun _ _ => rfl))) (pg_name (i := 3) sc_Client_hear.nd rfl (Or.inl rfl)) (pss_one (ps_fld (pv 0) (pe_call (ok_learned T) (hr.mono (by decide)) (by rfl) T.g_learned T.F_learned.kp T.b_learned .nil pass0 (pa_cons (Xk.k_fld (K := K) (by rfl) (pv 0) rfl) (pa_cons (pv 3) pa_nil))) rfl)))) pss_nil)
      (pss_one (ps_ret (pe_bl)))))), ?_⟩
  wtm_at "x0"
  rcases hcv with rfl | ⟨oc, odx, m, d, p, rfl, g1⟩
  · refine Xk.x_cut (fun _ _ => False) ?_ (fun _ _ z => z.elim)
    wtm_at "xs"
    exact q1 (fun oc odx m d p z => by cases z) H (.refl _)
  refine Xk.x_cut (fun σ' H' => σ' = [some (.ref a), some (.int num), some (.ref an), none] ∧ H' = H ∧ m = num) ?_ ?_
  · wtm_at "xs"
    refine Xk.x_itn (fun c => ?_) (fun c => ?_)
    · wtm_at "xs"
      refine q1 (fun oc' odx' m' d' p' z g z2 => ?_) H (.refl _)
      cases z
      have y := g1.symm.trans g
      injection y with y
      injection y with _ _ y
      injection y with y _
      injection y with _ y
      injection y with y
      exact c (by rw [y, z2])
    · wtm_at "xs"
      injection c with z
      exact ⟨rfl, rfl, z⟩
  rintro σ' H' ⟨rfl, rfl, rfl⟩
  obtain ⟨xs, t1, t2, t3⟩ := hA.tp
  have hno := hA.no
  wtm_at "xs"
  have b1 : Xk.But a H' (upd H' a (.ins T.C_Client dx (putF "call" .non [("beliefs", .ref bl), ("number", .int n), ("call", .ref oc)]))) := Xk.but_mut (Xk.But.refl _ _)
  have j2 : ClI (upd H' a (.ins T.C_Client dx (putF "call" .non [("beliefs", .ref bl), ("number", .int n), ("call", .ref oc)]))) T.C_Client a dx bl n .non := upd_same
  generalize upd H' a (.ins T.C_Client dx (putF "call" .non [("beliefs", .ref bl), ("number", .int n), ("call", .ref oc)])) = H1 at *
  have kt : ∀ {c : Addr} {ys : List V}, H' c = some (.tup ys) → H1 c = some (.tup ys) := fun hc => b1 _ _ (ne_of_obj hc j1 (fun z => by cases z)) hc
  have t1' := kt t1
  have hL1 := hL.ins b1 j1
  refine Xk.x_cut (fun σ' H2 => ∃ (y3 : Option V) (bl' : Addr) (L' : List (Addr × Br)), σ' = [some (.ref a), some (.int m), some (.ref an), y3] ∧ Xk.But a H' H2 ∧ (bl' = bl ∨ Xk.Fr bl' H') ∧ ClI H2 T.C_Client a dx bl' n .non ∧ RowsAt H2 bl' L' ∧ L'.map (·.2) = (G.map (·.2)).foldl (fun l hi => learnR hi l) (L.map (·.2))) ?_ ?_
  · wtm_at "xs"
    have i0 : atI (V.str w :: xs) 0 = some (V.str w) := atI_nat (xs := V.str w :: xs) (j := 0) rfl
    refine Xk.x_ixT (Xk.st_of t1') i0 ?_
    wtm_at "xs"
    refine Xk.x_itd (fun hw => ?_) (fun hw => ?_)
    · have hw' : w = "moved" := by injection hw
      obtain ⟨hp, rfl, g2, g3⟩ := t3 hw'
      wtm_at "xs"
      have i1 : atI [V.str w, V.ref hp] 1 = some (V.ref hp) := atI_nat (xs := [V.str w, V.ref hp]) (j := 1) rfl
      first | refine Xk.x_ixT (Xk.st_of t1') i1 ?_ | skip
      refine Xk.x_forT (xs := G.map fun e => V.ref e.1) (fun i σ' H2 => ∃ (y3 : Option V) (bl' : Addr) (L' : List (Addr × Br)), σ' = [some (.ref a), some (.int m), some (.ref an), y3] ∧ Xk.But a H' H2 ∧ (bl' = bl ∨ Xk.Fr bl' H') ∧ ClI H2 T.C_Client a dx bl' n .non ∧ RowsAt H2 bl' L' ∧ L'.map (·.2) = ((G.take i).map (·.2)).foldl (fun l hi => learnR hi l) (L.map (·.2))) (Xk.st_of (kt g2))
        ⟨_, bl, L, rfl, b1, .inl rfl, j2, hL1, rfl⟩ (fun i σ' H2 _ ⟨_, _, _, _, b, _⟩ => Xk.st_of (b _ _ (ne_of_obj g2 j1 (fun z => by cases z)) g2)) ?_ ?_
      · rintro i x σ' H2 hi ⟨y3, bl', L', rfl, b2, hfr, j3, hL3, eL⟩
        obtain ⟨e, he, rfl⟩ := Xk.of_map_at hi
        have hem := List.mem_of_getElem? he
        have il := Xk.at_lt he
        have ge := b2 _ _ (ne_of_obj (g3 e hem) j1 (fun z => by cases z)) (g3 e hem)
        obtain ⟨c1', c2'⟩ := hch i (Nat.le_of_lt il)
        rw [← eL] at c1' c2'
        rw [List.length_map] at c1'
        wtm_at "xs"
        refine ⟨bl', e.1, L', e.2, rfl, hL3, ge, c1', c2', fun H3 q3 L3 s3 hq3 hL3' e3 => ?_⟩
        have j4 := s3 _ _ j3
        have b3 : Xk.But a H3 (upd H3 a (.ins T.C_Client dx [("beliefs", .ref q3), ("number", .int n), ("call", .non)])) := Xk.but_mut (Xk.But.refl _ _)
        wtm_at "xs"
        refine ⟨_, q3, L3, rfl, Xk.but_trans (Xk.but_trans b2 (Xk.but_same s3)) b3, .inr (fr_butI hq3 b2 j3), upd_same, hL3'.ins b3 j4, ?_⟩
        rw [e3, eL, List.take_add_one, he, List.map_append, List.foldl_append]
        rfl
      · rintro σ' H2 ⟨y3, bl', L', rfl, b2, hfr, j3, hL3, eL⟩
        rw [List.length_map, List.take_length] at eL
        exact ⟨_, bl', L', rfl, b2, hfr, j3, hL3, eL⟩
    · have hg := hno fun z => hw (by rw [z])
      subst hg
      wtm_at "xs"
      exact ⟨_, bl, L, rfl, b1, .inl rfl, j2, hL1, rfl⟩
  rintro σ' H2 ⟨y3, bl', L', rfl, b2, hfr, j3, hL3, eL⟩
  wtm_at "xs"
  exact q2 oc odx d p rfl g1 H2 bl' L' b2 hfr j3 hL3 eL
--CUT--
theorem sign_ok {z : Str} {i c : Nat} (h : z.cps.toList.all Xk.okC = true) (e : z.cps.toList[i]? = some c) : Xk.AllC Xk.okC ⟨#[c]⟩ = true := by
  have h1 := List.all_eq_true.mp h c (List.mem_of_getElem? e)
  show List.all _ _ = true
  simp [h1]
def sp__law_keys (K : PySem.W.Frag) : Sp := fun vs H Q _ => ∃ (b : Addr) (n : Int), vs = [.ref b] ∧ H b = some (.lst [.int n]) ∧
  ∀ H' f (m : Int) (ks : List Str), Xk.Fr f H → Xk.But b H H' → H' b = some (.lst [.int m]) → H' f = some (.lst (ks.map V.str)) → (∀ k ∈ ks, Ok k) → ks.length ≤ 5 → 1 ≤ ks.length → Q (.ref f) H'
theorem ok__law_keys (T : Txt K mg) : FnOk P w K mg base CX0 3 T.f__law_keys T.d__law_keys ["box"] (sp__law_keys K) := by
  refine T.F__law_keys.ok sc__law_keys (fun vs H Q E h => ?_) (fun cdv A outer s H vs Q E hr h => ?_)
  · obtain ⟨b, n, rfl, _⟩ := h
    rfl
  obtain ⟨b, n, rfl, hb, q⟩ := h
  refine ⟨_, (pss_cons (ps_set (i := 1) sc__law_keys.nd rfl (Or.inl rfl) (pe_lst pa_nil))
      (pss_cons (ps_for PassesOwn.never rfl (pi_str (pe_str)) (pg_name (i := 2) sc__law_keys.nd rfl (Or.inl rfl)) (pss_cons (ps_set (i := 3) sc__law_keys.nd rfl (Or.inl rfl) (pe_call (ok__law_key T) (hr.mono (by decide)) (by rfl) T.g__law_key T.F__law_key.kp T.b__law_key .nil pass0 (pa_cons (pv 0) (pa_cons (pv 2) pa_nil))))
      (pss_one (ps_if (pt_cmpR (Xk.k_nin (K := K) (by rfl)) (pv 3) (pv 1) (by rfl)) (pss_one (ps_expr (pe_bm PySem.F.plainAttrs_list PySem.F.slot_list_append PySem.F.type_list_append mt_append (pv 1) (pa_cons (pv 3) pa_nil)))) pss_nil))))
      (pss_one (ps_ret (pv 1))))), ?_⟩
  wtm_at "x0"
  wtm_at "xs"
  intro f H1 hf s1 h1
  have hb1 := s1 _ _ hb
  have nfb : f ≠ b := (Xk.ne_new hf hb).symm
  wtm_at "xs"
  have b01 : Xk.But b H H1 := Xk.but_same s1
  clear s1
  refine Xk.x_forS (z := "aktz5") (fun i σ' H' => ∃ (y2 y3 : Option V) (ks : List Str) (m : Int), σ' = [some (.ref b), some (.ref f), y2, y3] ∧ Xk.But b H H' ∧ H' b = some (.lst [.int m]) ∧ H' f = some (.lst (ks.map V.str)) ∧ (∀ k ∈ ks, Ok k) ∧ ks.length ≤ i ∧ (1 ≤ i → 1 ≤ ks.length))
    ⟨_, _, [], n, rfl, b01, hb1, h1, fun k hk => (by cases hk), Nat.le_refl _, fun z => absurd z (by decide)⟩ ?_ ?_
  · rintro i c σ' H' hi ⟨y2, y3, ks, m, rfl, b2, hb2, h2, hok, hlen, hone⟩
    have hi5 : i < 5 := Xk.at_lt hi
    wtm_at "xs"
    refine ⟨b, m, _, rfl, hb2, Nat.le_refl _, sign_ok (by decide) hi, fun H3 m3 s3 b3 hb3 hs3 _ => ?_⟩
    have b03 := Xk.but_trans b2 b3
    have h3 := b3 _ _ nfb h2
    wtm_at "xs"
    refine Xk.x_niL (Xk.sq_of h3) rfl (flat_strs ks) ?_
    rw [in_strs]
    wtm_at "xs"
    refine Xk.x_itn (fun h => ?_) (fun h => ?_)
    · have hz : (ks.map V.str).length < 100000 := by rw [List.length_map]; omega
      wtm_at "xs"
      refine ⟨_, _, ks ++ [s3], m3, rfl, Xk.but_new b03 hf, (upd_ne nfb.symm).trans hb3, by rw [upd_same, List.map_append]; rfl, fun z hz => ?_, by rw [List.length_append]; exact Nat.succ_le_succ hlen, fun _ => by rw [List.length_append]; exact Nat.le_add_left _ _⟩
      rcases List.mem_append.mp hz with hz | hz
      · exact hok z hz
      · rw [List.mem_singleton.mp hz]
        exact hs3
    · wtm_at "xs"
      refine ⟨_, _, ks, m3, rfl, b03, hb3, h3, hok, by omega, fun _ => List.length_pos_of_mem (a := s3) h⟩
  · rintro σ' H' ⟨y2, y3, ks, m, rfl, b2, hb2, h2, hok, hlen, hone⟩
    wtm_at "xs"
    exact q H' f m ks hf b2 hb2 h2 hok hlen (hone (by decide))
def sp__law_value (K : PySem.W.Frag) : Sp := fun vs H Q _ => ∃ (b : Addr) (n : Int), vs = [.ref b] ∧ H b = some (.lst [.int n]) ∧
  ∀ H' (m : Int) v, Xk.But b H H' → H' b = some (.lst [.int m]) → VOk v → Q v H'
theorem ok__law_value (T : Txt K mg) : FnOk P w K mg base CX0 2 T.f__law_value T.d__law_value ["box"] (sp__law_value K) := by
  refine T.F__law_value.ok sc__law_value (fun vs H Q E h => ?_) (fun cdv A outer s H vs Q E hr h => ?_)
  · obtain ⟨b, n, rfl, _⟩ := h
    rfl
  obtain ⟨b, n, rfl, hb, q⟩ := h
  refine ⟨_, (pss_cons (ps_set (i := 1) sc__law_value.nd rfl (Or.inl rfl) (pe_call (ok__law_take T) (hr.mono (by decide)) (by rfl) T.g__law_take T.F__law_take.kp T.b__law_take .nil pass0 (pa_cons (pv 0) (pa_cons (pe_int) pa_nil))))
      (Evl.pss_cut (ps_if (pt_cmpR op_lt (pv 1) (pe_int) (nomark _)) (pss_one (ps_ret (pe_op op_sub (pe_call (ok__law_take T) (hr.mono (by decide)) (by rfl) T.g__law_take T.F__law_take.kp T.b__law_take .nil pass0 (pa_cons (pv 0) (pa_cons (pe_int) pa_nil))) (pe_int)))) pss_nil)
      (Evl.pss_cut (ps_if (pt_cmpR op_eq (pv 1) (pe_int) (nomark _)) (pss_one (ps_ret (pe_ix (Xk.k_ixL (K := K) (by rfl)) (pe_lst (pa_cons (pe_op op_pow (pe_int) (pe_int)) (pa_cons (pe_un un_neg (pe_op op_pow (pe_int) (pe_int))) (pa_cons (pe_op op_sub (pe_op op_pow (pe_int) (pe_int)) (pe_int)) (pa_cons (pe_int) pa_nil))))) (pe_call (ok__law_take T) (hr.mono (by decide)) (by rfl) T.g__law_take T.F__law_take.kp T.b__law_take .nil pass0 (pa_cons (pv 0) (pa_cons (pe_int) pa_nil))) (fun _ _ => rfl)))) pss_nil)
      (pss_one (ps_ret (pe_ix (Xk.k_ixL (K := K) (by rfl)) (pe_lst (pa_cons (pe_str) (pa_cons (pe_str) (pa_cons (pe_str) (pa_cons (pe_op Xk.op_nRepS (pe_str) (pe_int)) (pa_cons (pe_str) (pa_cons (pe_str) pa_nil))))))) (pe_call (ok__law_take T) (hr.mono (by decide)) (by rfl) T.g__law_take T.F__law_take.kp T.b__law_take .nil pass0 (pa_cons (pv 0) (pa_cons (pe_int) pa_nil))) (fun _ _ => rfl))))))), ?_⟩
  wtm_at "x0"
  wtm_at "xs"
  refine draw hb ⟨by decide, by decide⟩ fun j m H1 hj b1 hb1 => ?_
  wtm_at "xs"
  refine Xk.x_cut (fun σ' H' => σ' = [some (.ref b), some (.int j)] ∧ H' = H1) ?_ ?_
  · wtm_at "xs"
    refine Xk.x_itd (fun c => ?_) (fun c => ?_)
    · wtm_at "xs"
      refine draw hb1 ⟨by decide, by decide⟩ fun j2 m2 H2 hj2 b2 hb2 => ?_
      wtm_at "xs"
      exact q _ m2 _ (Xk.but_trans b1 b2) hb2 (.inl ⟨_, rfl⟩)
    · wtm_at "xs"
      exact ⟨rfl, rfl⟩
  rintro σ' H' ⟨rfl, rfl⟩
  refine Xk.x_cut (fun σ' H2 => σ' = [some (.ref b), some (.int j)] ∧ H2 = H') ?_ ?_
  · wtm_at "xs"
    refine Xk.x_itd (fun c => ?_) (fun c => ?_)
    · wtm_at "xs"
      intro p H2 hp s2 h2
      have npb : p ≠ b := (Xk.ne_new hp hb1).symm
      have hb2 := s2 _ _ hb1
      wtm_at "xs"
      have hx : ∃ xs : List V, H2 p = some (.lst xs) ∧ xs.length = 4 ∧ ∀ x ∈ xs, VOk x := by
        refine ⟨_, h2, rfl, fun x hx => ?_⟩
        simp only [List.mem_cons, List.not_mem_nil, or_false] at hx
        rcases hx with rfl | rfl | rfl | rfl <;> exact .inl ⟨_, rfl⟩
      obtain ⟨xs, hx, hxl, hxa⟩ := hx
      refine draw (z := 4) hb2 ⟨by decide, by decide⟩ fun j2 m2 H3 hj2 b3 hb3 => ?_
      obtain ⟨v, hv⟩ := Xk.lt_at (xs := xs) (j := j2) (by omega)
      refine Xk.x_ixL (Xk.sq_of (b3 _ _ npb hx)) (Xk.at_nat rfl hv) ?_
      exact q _ m2 _ (Xk.but_trans (Xk.but_trans b1 (Xk.but_same s2)) b3) hb3 (hxa v (List.mem_of_getElem? hv))
    · wtm_at "xs"
      exact ⟨rfl, rfl⟩
  rintro σ' H' ⟨rfl, rfl⟩
  wtm_at "xs"
  intro p H2 hp s2 h2
  have npb : p ≠ b := (Xk.ne_new hp hb1).symm
  have hb2 := s2 _ _ hb1
  wtm_at "xs"
  have hx : ∃ xs : List V, H2 p = some (.lst xs) ∧ xs.length = 6 ∧ ∀ x ∈ xs, VOk x := by
    refine ⟨_, h2, rfl, fun x hx => ?_⟩
    simp only [List.mem_cons, List.not_mem_nil, or_false] at hx
    rcases hx with rfl | rfl | rfl | rfl | rfl | rfl <;> exact .inr ⟨_, rfl, by decide, by decide⟩
  obtain ⟨xs, hx, hxl, hxa⟩ := hx
  refine draw (z := 6) hb2 ⟨by decide, by decide⟩ fun j2 m2 H3 hj2 b3 hb3 => ?_
  obtain ⟨v, hv⟩ := Xk.lt_at (xs := xs) (j := j2) (by omega)
  refine Xk.x_ixL (Xk.sq_of (b3 _ _ npb hx)) (Xk.at_nat rfl hv) ?_
  exact q _ m2 _ (Xk.but_trans (Xk.but_trans b1 (Xk.but_same s2)) b3) hb3 (hxa v (List.mem_of_getElem? hv))
def sp__law_maybe (K : PySem.W.Frag) : Sp := fun vs H Q _ => ∃ (b : Addr) (n : Int), vs = [.ref b] ∧ H b = some (.lst [.int n]) ∧
  ∀ H' (m : Int) v, Xk.But b H H' → H' b = some (.lst [.int m]) → FV v → Q v H'
theorem ok__law_maybe (T : Txt K mg) : FnOk P w K mg base CX0 3 T.f__law_maybe T.d__law_maybe ["box"] (sp__law_maybe K) := by
  refine T.F__law_maybe.ok sc__law_maybe (fun vs H Q E h => ?_) (fun cdv A outer s H vs Q E hr h => ?_)
  · obtain ⟨b, n, rfl, _⟩ := h
    rfl
  obtain ⟨b, n, rfl, hb, q⟩ := h
  refine ⟨_, (Evl.pss_cut (ps_if (pt_cmpR op_eq (pe_call (ok__law_take T) (hr.mono (by decide)) (by rfl) T.g__law_take T.F__law_take.kp T.b__law_take .nil pass0 (pa_cons (pv 0) (pa_cons (pe_int) pa_nil))) (pe_int) (nomark _)) (pss_one (ps_ret (pe_non))) pss_nil)
      (pss_one (ps_ret (pe_call (ok__law_value T) (hr.mono (by decide)) (by rfl) T.g__law_value T.F__law_value.kp T.b__law_value .nil pass0 (pa_cons (pv 0) pa_nil))))), ?_⟩
  wtm_at "x0"
  wtm_at "xs"
  refine Xk.x_cut (fun σ' H' => σ' = [some (.ref b)] ∧ Xk.But b H H' ∧ ∃ m : Int, H' b = some (.lst [.int m])) ?_ ?_
  · wtm_at "xs"
    refine draw (z := 2) hb ⟨by decide, by decide⟩ fun j m H1 hj b1 hb1 => ?_
    wtm_at "xs"
    refine Xk.x_itd (fun c => ?_) (fun c => ?_)
    · wtm_at "xs"
      exact q _ m _ b1 hb1 (.inl rfl)
    · wtm_at "xs"
      exact ⟨rfl, b1, m, hb1⟩
  · rintro σ' H1 ⟨rfl, b1, m, hb1⟩
    wtm_at "xs"
    exact ⟨b, m, rfl, hb1, fun H2 m2 v b2 hb2 hv => q _ m2 _ (Xk.but_trans b1 b2) hb2 (.inr hv)⟩
--CUT--
def sp__law_deed (K : PySem.W.Frag) : Sp := fun vs H Q _ => ∃ (b a : Addr) (n : Int) (ks : List Str), vs = [.ref b, .ref a] ∧ H b = some (.lst [.int n]) ∧ H a = some (.lst (ks.map V.str)) ∧ a ≠ b ∧ (∀ k ∈ ks, Ok k) ∧ 1 ≤ ks.length ∧ ks.length ≤ 5 ∧
  ∀ H' (m : Int) p (d : Dd), Xk.But b H H' → H' b = some (.lst [.int m]) → H' p = some (.tup d.xs) → d.ok → Q (.ref p) H'
theorem ok__law_deed (T : Txt K mg) : FnOk P w K mg base CX0 3 T.f__law_deed T.d__law_deed ["box", "keys"] (sp__law_deed K) := by
  refine T.F__law_deed.ok sc__law_deed (fun vs H Q E h => ?_) (fun cdv A outer s H vs Q E hr h => ?_)
  · obtain ⟨b, a, n, ks, rfl, _⟩ := h
    rfl
  obtain ⟨b, a, n, ks, rfl, hb, ha, nab, hok, hl1, hl2, q⟩ := h
  refine ⟨_, (pss_cons (ps_set (i := 2) sc__law_deed.nd rfl (Or.inl rfl) (pe_ix (Xk.k_ixL (K := K) (by rfl)) (pv 1) (pe_call (ok__law_take T) (hr.mono (by decide)) (by rfl) T.g__law_take T.F__law_take.kp T.b__law_take .nil pass0 (pa_cons (pv 0) (pa_cons (pe_callB (Xk.k_len (K := K) (by rfl)) (by rfl) T.m_len PySem.boot_len (pa_cons (pv 1) pa_nil)) pa_nil))) (fun _ _ => rfl)))
      (pss_cons (ps_set (i := 3) sc__law_deed.nd rfl (Or.inl rfl) (pe_call (ok__law_take T) (hr.mono (by decide)) (by rfl) T.g__law_take T.F__law_take.kp T.b__law_take .nil pass0 (pa_cons (pv 0) (pa_cons (pe_int) pa_nil))))
      (Evl.pss_cut (ps_if (pt_cmpR op_eq (pv 3) (pe_int) (nomark _)) (pss_one (ps_ret (pe_tup (pa_cons (pe_str) (pa_cons (pv 2) pa_nil))))) pss_nil)
      (Evl.pss_cut (ps_if (pt_cmpR op_eq (pv 3) (pe_int) (nomark _)) (pss_one (ps_ret (pe_tup (pa_cons (pe_str) (pa_cons (pv 2) pa_nil))))) pss_nil)
      (Evl.pss_cut (ps_if (pt_cmpR op_eq (pv 3) (pe_int) (nomark _)) (pss_one (ps_ret (pe_tup (pa_cons (pe_str) (pa_cons (pv 2) (pa_cons (pe_call (ok__law_value T) (hr.mono (by decide)) (by rfl) T.g__law_value T.F__law_value.kp T.b__law_value .nil pass0 (pa_cons (pv 0) pa_nil)) pa_nil)))))) pss_nil)
      (pss_one (ps_ret (pe_tup (pa_cons (pe_str) (pa_cons (pv 2) (pa_cons (pe_ix (Xk.k_ixL (K := K) (by rfl)) (pe_lst (pa_cons (pe_int) (pa_cons (pe_un un_neg (pe_int)) (pa_cons (pe_int) (pa_cons (pe_op op_pow (pe_int) (pe_int)) (pa_cons (pe_un un_neg (pe_op op_pow (pe_int) (pe_int))) (pa_cons (pe_int) pa_nil))))))) (pe_call (ok__law_take T) (hr.mono (by decide)) (by rfl) T.g__law_take T.F__law_take.kp T.b__law_take .nil pass0 (pa_cons (pv 0) (pa_cons (pe_int) pa_nil))) (fun _ _ => rfl)) pa_nil))))))))))), ?_⟩
  wtm_at "x0"
  wtm_at "xs"
  rw [List.length_map]
  refine draw hb ⟨by omega, by omega⟩ fun j m H1 hj b1 hb1 => ?_
  obtain ⟨k, hk⟩ := Xk.lt_at (xs := ks) (j := j) (by omega)
  have ha1 := b1 _ _ nab ha
  refine Xk.x_ixL (Xk.sq_of ha1) (Xk.at_nat rfl (show (ks.map V.str)[j]? = _ from Xk.map_at hk)) ?_
  have hkk := hok k (List.mem_of_getElem? hk)
  clear ha hb ha1
  wtm_at "xs"
  refine draw hb1 ⟨by decide, by decide⟩ fun j2 m2 H2 hj2 b2 hb2 => ?_
  have b02 := Xk.but_trans b1 b2
  clear b1 b2 hb1
  have fin : ∀ (d : Dd) (p : Addr) (H3 : Hp) (m3 : Int), Xk.But b H H3 → H3 b = some (.lst [.int m3]) → d.ok → ∀ H4, Same H3 H4 → H4 p = some (.tup d.xs) → Q (.ref p) H4 := fun d p H3 m3 b3 hb3 hd H4 s4 h4 => q H4 m3 p d (Xk.but_trans b3 (Xk.but_same s4)) (s4 _ _ hb3) h4 hd
  wtm_at "xs"
  refine Xk.x_cut (fun σ' H' => σ' = [some (.ref b), some (.ref a), some (.str k), some (.int j2)] ∧ H' = H2) ?_ ?_
  · wtm_at "xs"
    refine Xk.x_itd (fun c => ?_) (fun c => ?_)
    · wtm_at "xs"
      intro p H3 _ s3 h3
      exact fin (.get k) p H2 m2 b02 hb2 hkk H3 s3 h3
    · wtm_at "xs"
      exact ⟨rfl, rfl⟩
  rintro σ' H' ⟨rfl, rfl⟩
  refine Xk.x_cut (fun σ' H2 => σ' = [some (.ref b), some (.ref a), some (.str k), some (.int j2)] ∧ H2 = H') ?_ ?_
  · wtm_at "xs"
    refine Xk.x_itd (fun c => ?_) (fun c => ?_)
    · wtm_at "xs"
      intro p H3 _ s3 h3
      exact fin (.del k) p H' m2 b02 hb2 hkk H3 s3 h3
    · wtm_at "xs"
      exact ⟨rfl, rfl⟩
  rintro σ' H2 ⟨rfl, rfl⟩
  refine Xk.x_cut (fun σ' H' => σ' = [some (.ref b), some (.ref a), some (.str k), some (.int j2)] ∧ H' = H2) ?_ ?_
  · wtm_at "xs"
    refine Xk.x_itd (fun c => ?_) (fun c => ?_)
    · wtm_at "xs"
      refine ⟨b, m2, rfl, hb2, fun H3 m3 v b3 hb3 hv => ?_⟩
      wtm_at "xs"
      intro p H4 _ s4 h4
      exact fin (.put k v) p H3 m3 (Xk.but_trans b02 b3) hb3 ⟨hkk, hv⟩ H4 s4 h4
    · wtm_at "xs"
      exact ⟨rfl, rfl⟩
  rintro σ' H' ⟨rfl, rfl⟩
  wtm_at "xs"
  intro p H3 hp s3 h3
  have npb : p ≠ b := (Xk.ne_new hp hb2).symm
  have hb3 := s3 _ _ hb2
  wtm_at "xs"
  have hx : ∃ xs : List V, H3 p = some (.lst xs) ∧ xs.length = 6 ∧ ∀ x ∈ xs, ∃ i : Int, x = .int i := by
    refine ⟨_, h3, rfl, fun x hx => ?_⟩
    simp only [List.mem_cons, List.not_mem_nil, or_false] at hx
    rcases hx with rfl | rfl | rfl | rfl | rfl | rfl <;> exact ⟨_, rfl⟩
  obtain ⟨xs, hx, hxl, hxa⟩ := hx
  refine draw (z := 6) hb3 ⟨by decide, by decide⟩ fun j3 m3 H4 hj3 b4 hb4 => ?_
  obtain ⟨v, hv⟩ := Xk.lt_at (xs := xs) (j := j3) (by omega)
  refine Xk.x_ixL (Xk.sq_of (b4 _ _ npb hx)) (Xk.at_nat rfl hv) ?_
  obtain ⟨i, rfl⟩ := hxa v (List.mem_of_getElem? hv)
  wtm_at "xs"
  intro p2 H5 _ s5 h5
  exact fin (.add k i) p2 H4 m3 (Xk.but_trans (Xk.but_trans b02 (Xk.but_same s3)) b4) hb4 hkk H5 s5 h5
--CUT--
def sp__law_deal (K : PySem.W.Frag) : Sp := fun vs H Q _ => ∃ (b a r : Addr) (n : Int) (ks : List Str), vs = [.ref b, .ref a, .ref r] ∧ H b = some (.lst [.int n]) ∧ H a = some (.lst (ks.map V.str)) ∧ a ≠ b ∧ (∀ k ∈ ks, Ok k) ∧ 1 ≤ ks.length ∧ ks.length ≤ 5 ∧ H r = some (.dK []) ∧
  ∀ H' (m : Int) p C D, Xk.But b H H' → H' b = some (.lst [.int m]) → DlAt H' p C D → 1 ≤ D.length → Q (.ref p) H'
theorem ok__law_deal (T : Txt K mg) : FnOk P w K mg base CX0 4 T.f__law_deal T.d__law_deal ["box", "keys", "rows"] (sp__law_deal K) := by
  refine T.F__law_deal.ok sc__law_deal (fun vs H Q E h => ?_) (fun cdv A outer s H vs Q E hr h => ?_)
  · obtain ⟨b, a, r, n, ks, rfl, _⟩ := h
    rfl
  obtain ⟨b, a, r, n, ks, rfl, hb, ha, nab, hok, hl1, hl2, hrw, q⟩ := h
  have nrb : r ≠ b := ne_of_obj hrw hb (fun z => by cases z)
  refine ⟨_, (pss_cons (ps_set (i := 3) sc__law_deal.nd rfl (Or.inl rfl) (pe_lst pa_nil))
      (pss_cons (ps_for PassesOwn.never rfl (pi_range1 (by rfl) T.m_range (pa_cons (pe_ix (Xk.k_ixL (K := K) (by rfl)) (pe_lst (pa_cons (pe_int) (pa_cons (pe_int) (pa_cons (pe_int) (pa_cons (pe_int) (pa_cons (pe_int) (pa_cons (pe_int) (pa_cons (pe_int) pa_nil)))))))) (pe_call (ok__law_take T) (hr.mono (by decide)) (by rfl) T.g__law_take T.F__law_take.kp T.b__law_take .nil pass0 (pa_cons (pv 0) (pa_cons (pe_int) pa_nil))) (fun _ _ => rfl)) pa_nil)) (pg_name (i := 4) sc__law_deal.nd rfl (Or.inl rfl)) (pss_cons (ps_set (i := 5) sc__law_deal.nd rfl (Or.inl rfl) (pe_ix (Xk.k_ixL (K := K) (by rfl)) (pv 1) (pe_call (ok__law_take T) (hr.mono (by decide)) (by rfl) T.g__law_take T.F__law_take.kp T.b__law_take .nil pass0 (pa_cons (pv 0) (pa_cons (pe_callB (Xk.k_len (K := K) (by rfl)) (by rfl) T.m_len PySem.boot_len (pa_cons (pv 1) pa_nil)) pa_nil))) (fun _ _ => rfl)))
      (pss_cons (ps_set (i := 6) sc__law_deal.nd rfl (Or.inl rfl) (pe_dget1 (hu_of hr) (pv 2) (pv 5) ⟨by rfl, by rfl, by rfl, by rfl⟩))
      (Evl.pss_cut (ps_if (pt_cmpR op_eq (pe_call (ok__law_take T) (hr.mono (by decide)) (by rfl) T.g__law_take T.F__law_take.kp T.b__law_take .nil pass0 (pa_cons (pv 0) (pa_cons (pe_int) pa_nil))) (pe_int) (nomark _)) (pss_one (ps_set (i := 6) sc__law_deal.nd rfl (Or.inl rfl) (pe_call (ok__law_maybe T) (hr.mono (by decide)) (by rfl) T.g__law_maybe T.F__law_maybe.kp T.b__law_maybe .nil pass0 (pa_cons (pv 0) pa_nil)))) pss_nil)
      (pss_one (ps_expr (pe_bm PySem.F.plainAttrs_list PySem.F.slot_list_append PySem.F.type_list_append mt_append (pv 3) (pa_cons (pe_tup (pa_cons (pv 5) (pa_cons (pv 6) pa_nil))) pa_nil))))))))
      (pss_cons (ps_setLc (i := 7) (own := [("k", 4)]) (g := gName 4) (tt := tYes) rfl sc__law_deal.nd rfl rfl (sw_true rfl rfl rfl (by decide +kernel)) (pi_range1 (by rfl) T.m_range (pa_cons (pe_ix (Xk.k_ixL (K := K) (by rfl)) (pe_lst (pa_cons (pe_int) (pa_cons (pe_int) (pa_cons (pe_int) (pa_cons (pe_int) (pa_cons (pe_int) (pa_cons (pe_int) pa_nil))))))) (pe_call (ok__law_take T) (hr.mono (by decide)) (by rfl) T.g__law_take T.F__law_take.kp T.b__law_take .nil pass0 (pa_cons (pv 0) (pa_cons (pe_int) pa_nil))) (fun _ _ => rfl)) pa_nil)) (blkOk_by (N := N__law_deal) (sc := defScope s__law_deal) (own := [("k", 4)]) (by decide +kernel)) (fun _ _ _ _ _ => pg_name (i := 4) sc__law_deal.nd rfl (Or.inl rfl)) (fun _ _ _ _ _ => pts_nil) (fun _ _ _ _ _ => (pe_call (ok__law_deed T) (hr.mono (by decide)) (by rfl) T.g__law_deed T.F__law_deed.kp T.b__law_deed .nil pass0 (pa_cons (pv 0) (pa_cons (pv 1) pa_nil)))))
      (pss_one (ps_ret (pe_tup (pa_cons (pe_callTy (Xk.k_tuple (K := K) (by rfl)) (by rfl) T.m_tuple (by decide +kernel) (pa_cons (pv 3) pa_nil)) (pa_cons (pe_callTy (Xk.k_tuple (K := K) (by rfl)) (by rfl) T.m_tuple (by decide +kernel) (pa_cons (pv 7) pa_nil)) pa_nil)))))))), ?_⟩
  wtm_at "x0"
  wtm_at "xs"
  intro ck H1 hck s1 h1
  have hb1 := s1 _ _ hb
  have nck : ck ≠ b := (Xk.ne_new hck hb).symm
  have b01 : Xk.But b H H1 := Xk.but_same s1
  wtm_at "xs"
  intro p H2 hp s2 h2
  have npb : p ≠ b := (Xk.ne_new hp hb1).symm
  have hb2 := s2 _ _ hb1
  have hck2 := s2 _ _ h1
  have hx : ∃ xs : List V, H2 p = some (.lst xs) ∧ xs.length = 7 ∧ ∀ x ∈ xs, ∃ i : Int, x = .int i ∧ 0 ≤ i ∧ i ≤ 4 := by
    refine ⟨_, h2, rfl, fun x hx => ?_⟩
    simp only [List.mem_cons, List.not_mem_nil, or_false] at hx
    rcases hx with rfl | rfl | rfl | rfl | rfl | rfl | rfl <;> exact ⟨_, rfl, by decide, by decide⟩
  obtain ⟨xs, hx, hxl, hxa⟩ := hx
  wtm_at "xs"
  refine draw (z := 7) hb2 ⟨by decide, by decide⟩ fun j m H3 hj b3 hb3 => ?_
  obtain ⟨v, hv⟩ := Xk.lt_at (xs := xs) (j := j) (by omega)
  refine Xk.x_ixL (Xk.sq_of (b3 _ _ npb hx)) (Xk.at_nat rfl hv) ?_
  obtain ⟨c, rfl, hc0, hc4⟩ := hxa v (List.mem_of_getElem? hv)
  have b03 := Xk.but_trans (Xk.but_trans b01 (Xk.but_same s2)) b3
  have hck3 := b3 _ _ nck hck2
  clear hb1 hb2 hck2 h1 h2 hx b3 s1 s2 b01 hxa hv
  wtm_at "xs"
  refine Xk.x_range (fun i σ' H' => ∃ (y4 y5 y6 : Option V) (C : List (Addr × Ck)) (m : Int), σ' = [some (.ref b), some (.ref a), some (.ref r), some (.ref ck), y4, y5, y6, none] ∧ Xk.But b H H' ∧ H' b = some (.lst [.int m]) ∧ H' ck = some (.lst (C.map fun e => V.ref e.1)) ∧ (∀ e ∈ C, H' e.1 = some (.tup [.str e.2.1, e.2.2])) ∧ (∀ e ∈ C, Ok e.2.1 ∧ FV e.2.2) ∧ C.length ≤ i)
    ⟨hc0, by omega⟩ ⟨_, _, _, [], m, rfl, b03, hb3, hck3, fun e he => (by cases he), fun e he => (by cases he), Nat.le_refl _⟩ ?_ ?_
  · clear b03 hck3 hb3 hj
    rintro i σ' H1' hi ⟨y4, y5, y6, C, m, rfl, b1, hb1, hck1, hCt, hCo, hCl⟩
    have ha1 := b1 _ _ nab ha
    wtm_at "xs"
    rw [List.length_map]
    refine draw hb1 ⟨by omega, by omega⟩ fun j m2 H2 hj b2 hb2 => ?_
    obtain ⟨k, hk⟩ := Xk.lt_at (xs := ks) (j := j) (by omega)
    refine Xk.x_ixL (Xk.sq_of (b2 _ _ nab ha1)) (Xk.at_nat rfl (show (ks.map V.str)[j]? = _ from Xk.map_at hk)) ?_
    have hkk := hok k (List.mem_of_getElem? hk)
    have b02 := Xk.but_trans b1 b2
    have hck2 := b2 _ _ nck hck1
    have hCt2 : ∀ e ∈ C, H2 e.1 = some (.tup [.str e.2.1, e.2.2]) := fun e he => b2 _ _ (ne_of_obj (hCt e he) hb1 (fun z => by cases z)) (hCt e he)
    have hr2 := b02 _ _ nrb hrw
    clear b1 b2 hb1 hck1 hCt ha1
    wtm_at "xs"
    refine Xk.x_cut (fun σ' H' => ∃ (v : V) (m : Int), σ' = [some (.ref b), some (.ref a), some (.ref r), some (.ref ck), some (.int i), some (.str k), some v, none] ∧ FV v ∧ Xk.But b H2 H' ∧ H' b = some (.lst [.int m])) ?_ ?_
    · wtm_at "xs"
      refine draw (z := 4) hb2 ⟨by decide, by decide⟩ fun j3 m3 H3' hj3 b3 hb3 => ?_
      wtm_at "xs"
      refine Xk.x_itd (fun c => ?_) (fun c => ?_)
      · wtm_at "xs"
        refine ⟨b, m3, rfl, hb3, fun H4 m4 v b4 hb4 hv => ?_⟩
        wtm_at "xs"
        exact ⟨v, m4, rfl, hv, Xk.but_trans b3 b4, hb4⟩
      · wtm_at "xs"
        exact ⟨_, m3, rfl, .inl rfl, b3, hb3⟩
    rintro σ' H3' ⟨v, m3, rfl, hv, b3, hb3⟩
    have hck3 := b3 _ _ nck hck2
    have hCt3 : ∀ e ∈ C, H3' e.1 = some (.tup [.str e.2.1, e.2.2]) := fun e he => b3 _ _ (ne_of_obj (hCt2 e he) hb2 (fun z => by cases z)) (hCt2 e he)
    have b03 := Xk.but_trans b02 b3
    clear b02 b3 hck2 hCt2 hr2 hb2
    wtm_at "xs"
    intro t H4 ht s4 h4
    have hck4 := s4 _ _ hck3
    have hz : (C.map fun e => V.ref e.1).length < 100000 := by rw [List.length_map]; omega
    wtm_at "xs"
    refine ⟨_, _, _, C ++ [(t, k, v)], m3, rfl, Xk.but_new (Xk.but_trans b03 (Xk.but_same s4)) hck, (upd_ne nck.symm).trans (s4 _ _ hb3), by rw [upd_same, List.map_append]; rfl, fun e he => ?_, fun e he => ?_, by rw [List.length_append]; exact Nat.succ_le_succ hCl⟩
    · rcases List.mem_append.mp he with he | he
      · exact keep_tup (s4 _ _ (hCt3 e he)) hck4
      · rw [List.mem_singleton.mp he]
        exact keep_tup h4 hck4
    · rcases List.mem_append.mp he with he | he
      · exact hCo e he
      · rw [List.mem_singleton.mp he]
        exact ⟨hkk, hv⟩
  · clear b03 hck3 hb3 hj
    rintro σ' H1' ⟨y4, y5, y6, C, m, rfl, b1, hb1, hck1, hCt, hCo, hCl⟩
    wtm_at "xs"
    intro p2 H2 hp2 s2 h2
    have npb2 : p2 ≠ b := (Xk.ne_new hp2 hb1).symm
    have hb2 := s2 _ _ hb1
    have hck2 := s2 _ _ hck1
    have hx : ∃ xs : List V, H2 p2 = some (.lst xs) ∧ xs.length = 6 ∧ ∀ x ∈ xs, ∃ i : Int, x = .int i ∧ 1 ≤ i ∧ i ≤ 6 := by
      refine ⟨_, h2, rfl, fun x hx => ?_⟩
      simp only [List.mem_cons, List.not_mem_nil, or_false] at hx
      rcases hx with rfl | rfl | rfl | rfl | rfl | rfl <;> exact ⟨_, rfl, by decide, by decide⟩
    obtain ⟨xs, hx, hxl, hxa⟩ := hx
    have hCt2 : ∀ e ∈ C, H2 e.1 = some (.tup [.str e.2.1, e.2.2]) := fun e he => s2 _ _ (hCt e he)
    have b02 := Xk.but_trans b1 (Xk.but_same s2)
    clear b1 s2 hb1 hck1 hCt h2
    wtm_at "xs"
    refine draw (z := 6) hb2 ⟨by decide, by decide⟩ fun j3 m3 H3' hj3 b3 hb3 => ?_
    obtain ⟨v, hv⟩ := Xk.lt_at (xs := xs) (j := j3) (by omega)
    refine Xk.x_ixL (Xk.sq_of (b3 _ _ npb2 hx)) (Xk.at_nat rfl hv) ?_
    obtain ⟨c2, rfl, hd0, hd4⟩ := hxa v (List.mem_of_getElem? hv)
    have hck3 := b3 _ _ nck hck2
    have hCt3 : ∀ e ∈ C, H3' e.1 = some (.tup [.str e.2.1, e.2.2]) := fun e he => b3 _ _ (ne_of_obj (hCt2 e he) hb2 (fun z => by cases z)) (hCt2 e he)
    have b03 := Xk.but_trans b02 b3
    have ha3 := b03 _ _ nab ha
    clear b02 b3 hb2 hck2 hCt2 hx hxa hv
    wtm_at "xs"
    refine Xk.x_lcR (fun Dl i H' => ∃ (D : List (Addr × Dd)) (m : Int), Xk.But b H3' H' ∧ H' b = some (.lst [.int m]) ∧ H' Dl = some (.lst (D.map fun e => V.ref e.1)) ∧ (∀ e ∈ D, H' e.1 = some (.tup e.2.xs)) ∧ (∀ e ∈ D, e.2.ok) ∧ D.length = i) ⟨by omega, by omega⟩ ?_ ?_ ?_
    · intro Dl hD
      exact ⟨[], m3, Xk.but_same (Xk.same_fr hD), (upd_ne (Xk.ne_new hD hb3)).trans hb3, upd_same, fun e he => (by cases he), fun e he => (by cases he), rfl⟩
    · rintro Dl hD i H' hi ⟨D, m, b4, hb4, hD4, hDt, hDo, hDl⟩
      have nDb : Dl ≠ b := (Xk.ne_new hD hb3).symm
      wtm_at "xs"
      refine ⟨rfl, ?_⟩
      wtm_at "xs"
      refine ⟨b, a, m, ks, rfl, hb4, b4 _ _ nab ha3, nab, hok, hl1, hl2, fun H5 m5 t d b5 hb5 ht hd => ?_⟩
      have hD5 := b5 _ _ nDb hD4
      refine ⟨_, hD5, Xk.size_lt (by rw [List.length_map]; omega), D ++ [(t, d)], m5, Xk.but_new (Xk.but_trans b4 b5) hD, (upd_ne nDb.symm).trans hb5, by rw [upd_same, List.map_append]; rfl, fun e he => ?_, fun e he => ?_, by rw [List.length_append, hDl]; rfl⟩
      · rcases List.mem_append.mp he with he | he
        · exact keep_tup (b5 _ _ (ne_of_obj (hDt e he) hb4 (fun z => by cases z)) (hDt e he)) hD5
        · rw [List.mem_singleton.mp he]
          exact keep_tup ht hD5
      · rcases List.mem_append.mp he with he | he
        · exact hDo e he
        · rw [List.mem_singleton.mp he]
          exact hd
    · rintro Dl H4 hD ⟨D, m, b4, hb4, hD4, hDt, hDo, hDl⟩
      have hck4 := b4 _ _ nck hck3
      have hCt4 : ∀ e ∈ C, H4 e.1 = some (.tup [.str e.2.1, e.2.2]) := fun e he => b4 _ _ (ne_of_obj (hCt3 e he) hb3 (fun z => by cases z)) (hCt3 e he)
      have b04 := Xk.but_trans b03 b4
      clear b03 b4 hck3 hCt3 hb3 ha3
      wtm_at "xs"
      intro u1 H5 hu1 s5 h5
      have hD5 := s5 _ _ hD4
      wtm_at "xs"
      intro u2 H6 hu2 s6 h6
      wtm_at "xs"
      intro u3 H7 hu3 s7 h7
      have s57 := s5.trans (s6.trans s7)
      exact q H7 m u3 C D (Xk.but_trans b04 (Xk.but_same s57)) (s57 _ _ hb4) ⟨⟨u1, u2, h7, (s6.trans s7) _ _ h5, s7 _ _ h6⟩, fun e he => s57 _ _ (hCt4 e he), fun e he => s57 _ _ (hDt e he), hCo, hDo, by omega, by omega⟩ (by omega)
--CUT--
def sp__law_names (K : PySem.W.Frag) : Sp := fun vs H Q _ => ∃ p C D, vs = [.ref p] ∧ DlAt H p C D ∧
  ∀ H' f (ts : List Str), Same H H' → Xk.Fr f H → H' f = some (.lst (ts.map V.str)) → ts.Pairwise (fun a b : Str => a.cps.toList ≤ b.cps.toList) → ts.Nodup → (∀ t, t ∈ ts ↔ KeyOf C D t) → ts.length ≤ 40 → Q (.ref f) H'
theorem ok__law_names (T : Txt K mg) : FnOk P w K mg base CX0 1 T.f__law_names T.d__law_names ["deal"] (sp__law_names K) := by
  refine T.F__law_names.ok sc__law_names (fun vs H Q E h => ?_) (fun cdv A outer s H vs Q E hr h => ?_)
  · obtain ⟨p, C, D, rfl, _⟩ := h
    rfl
  obtain ⟨p, C, D, rfl, hD, q⟩ := h
  obtain ⟨pc, pd', h1, h2, h3⟩ := hD.tp
  have cl := hD.cl
  have dl := hD.dl
  refine ⟨_, (pss_cons (ps_set (i := 1) sc__law_names.nd rfl (Or.inl rfl) (pe_lst pa_nil))
      (pss_cons (ps_for PassesOwn.never rfl (pi_list (pe_callB (Xk.k_sortedS (K := K) (by rfl)) (by rfl) T.m_sorted (by decide +kernel) (pa_cons (pe_op op_cat (pe_lc (own := [("check", 3)]) (g := gName 3) (tt := tYes) rfl sc__law_names.nd  (pi_tup (pe_ix (Xk.k_ixT (K := K) (by rfl)) (pv 0) (pe_int) (fun _ _ => rfl))) (blkOk_by (N := N__law_names) (sc := defScope s__law_names) (own := [("check", 3)]) (by decide +kernel)) (fun _ _ _ _ _ => pg_name (i := 3) sc__law_names.nd rfl (Or.inl rfl)) (fun _ _ _ _ _ => pts_nil) (fun _ _ _ _ _ => (pe_ix (Xk.k_ixT (K := K) (by rfl)) (pv 3) (pe_int) (fun _ _ => rfl)))) (pe_lc (own := [("deed", 4)]) (g := gName 4) (tt := tYes) rfl sc__law_names.nd  (pi_tup (pe_ix (Xk.k_ixT (K := K) (by rfl)) (pv 0) (pe_int) (fun _ _ => rfl))) (blkOk_by (N := N__law_names) (sc := defScope s__law_names) (own := [("deed", 4)]) (by decide +kernel)) (fun _ _ _ _ _ => pg_name (i := 4) sc__law_names.nd rfl (Or.inl rfl)) (fun _ _ _ _ _ => pts_nil) (fun _ _ _ _ _ => (pe_ix (Xk.k_ixT (K := K) (by rfl)) (pv 4) (pe_int) (fun _ _ => rfl))))) pa_nil))) (pg_name (i := 2) sc__law_names.nd rfl (Or.inl rfl)) (pss_one (ps_if (pt_cmpR (Xk.k_nin (K := K) (by rfl)) (pv 2) (pv 1) (by rfl)) (pss_one (ps_expr (pe_bm PySem.F.plainAttrs_list PySem.F.slot_list_append PySem.F.type_list_append mt_append (pv 1) (pa_cons (pv 2) pa_nil)))) pss_nil)))
      (pss_one (ps_ret (pv 1))))), ?_⟩
  wtm_at "x0"
  wtm_at "xs"
  intro f H0 hf s0 h0
  have h1' := s0 _ _ h1
  have h2' := s0 _ _ h2
  have h3' := s0 _ _ h3
  wtm_at "xs"
  refine Xk.x_lcT (xs := C.map fun e => V.ref e.1) (fun Dl i H' => Same H0 H' ∧ H' Dl = some (.lst (((C.take i).map (fun e => e.2.1)).map V.str))) (Xk.st_of h2') ?_ ?_ ?_ ?_
  · intro Dl hF
    exact ⟨Xk.same_fr hF, upd_same⟩
  · rintro Dl i H' hF ⟨s2, _⟩
    exact Xk.st_of (s2 _ _ h2')
  · rintro Dl hF i x H' hi ⟨s2, g⟩
    obtain ⟨e, he, rfl⟩ := Xk.of_map_at hi
    have hx := (s0.trans s2) _ _ (hD.ck e (List.mem_of_getElem? he))
    wtm_at "xs"
    refine ⟨rfl, ?_⟩
    wtm_at "xs"
    refine ⟨_, g, Xk.size_lt (by simp only [List.length_map, List.length_take]; omega), Xk.same_mut s2 hF, ?_⟩
    rw [upd_same, List.take_add_one, he, List.map_append, List.map_append]
    rfl
  · rintro k1 H1 hk1 ⟨s1, g1⟩
    rw [List.length_map, List.take_length] at g1
    have h3'' := s1 _ _ h3'
    wtm_at "xs"
    refine Xk.x_lcT (xs := D.map fun e => V.ref e.1) (fun Dl i H' => Same H1 H' ∧ H' Dl = some (.lst (((D.take i).map (fun e => e.2.key)).map V.str))) (Xk.st_of h3'') ?_ ?_ ?_ ?_
    · intro Dl hF
      exact ⟨Xk.same_fr hF, upd_same⟩
    · rintro Dl i H' hF ⟨s2, _⟩
      exact Xk.st_of (s2 _ _ h3'')
    · rintro Dl hF i x H' hi ⟨s2, g⟩
      obtain ⟨e, he, rfl⟩ := Xk.of_map_at hi
      have hx := (s0.trans (s1.trans s2)) _ _ (hD.dd e (List.mem_of_getElem? he))
      rw [Dd.xs_eq] at hx
      wtm_at "xs"
      refine ⟨rfl, ?_⟩
      wtm_at "xs"
      have i1 : atI (V.str e.2.word :: V.str e.2.key :: e.2.rest) 1 = some (V.str e.2.key) := atI_nat (xs := V.str e.2.word :: V.str e.2.key :: e.2.rest) (j := 1) rfl
      refine Xk.x_ixT (Xk.st_of hx) i1 ?_
      refine ⟨_, g, Xk.size_lt (by simp only [List.length_map, List.length_take]; omega), Xk.same_mut s2 hF, ?_⟩
      rw [upd_same, List.take_add_one, he, List.map_append, List.map_append]
      rfl
    · rintro k2 H2 hk2 ⟨s2, g2⟩
      rw [List.length_map, List.take_length] at g2
      wtm_at "xs"
      refine Xk.x_cat (s2 _ _ g1) g2 (by simp only [List.length_map]; omega) fun k3 H3 hk3 s3 g3 => ?_
      rw [← List.map_append] at g3
      wtm_at "xs"
      refine Xk.x_sortS (Xk.sq_of g3) (by simp only [List.length_append, List.length_map]; omega) fun k4 H4 ys p4 o4 hk4 s4 g4 => ?_
      have hys := srtS_pair o4
      have s04 := s0.trans (s1.trans (s2.trans (s3.trans s4)))
      have h4 := (s1.trans (s2.trans (s3.trans s4))) _ _ h0
      have hf4 : ¬ H4 f = none := by
        rw [h4]
        exact Option.some_ne_none _
      have nf4 : f ≠ k4 := fun z => by
        have z2 := (s1.trans (s2.trans s3)) _ _ h0
        rw [z, hk4.is] at z2
        cases z2
      have hyl : ys.length ≤ 40 := by
        have z := p4.length_eq
        rw [List.length_append, List.length_map, List.length_map] at z
        omega
      refine Xk.x_forL (xs := ys.map V.str) (fun i σ' H' => ∃ (y2 : Option V) (fs : List Str), σ' = [some (.ref p), some (.ref f), y2, none, none] ∧ Same H H' ∧ H' k4 = some (.lst (ys.map V.str)) ∧ H' f = some (.lst (fs.map V.str)) ∧ fs.Sublist (ys.take i) ∧ fs.Nodup ∧ ∀ t, t ∈ fs ↔ t ∈ ys.take i) (Xk.sq_of g4)
        ⟨_, [], rfl, s04, g4, h4, List.nil_sublist _, .nil, fun t => Iff.rfl⟩ (fun i σ' H' _ ⟨_, _, _, _, z, _⟩ => Xk.sq_of z) ?_ ?_
      · rintro i x σ' H5 hi ⟨y2, fs, rfl, s5, g5, h5, sub, nd, mm⟩
        obtain ⟨t, ht, rfl⟩ := Xk.of_map_at hi
        have il := Xk.at_lt ht
        have et : ys.take (i + 1) = ys.take i ++ [t] := by
          rw [List.take_add_one, ht]
          rfl
        have hfl : fs.length ≤ i := Nat.le_trans sub.length_le (List.length_take_le _ _)
        wtm_at "xs"
        refine Xk.x_niL (Xk.sq_of h5) rfl (flat_strs fs) ?_
        rw [in_strs]
        wtm_at "xs"
        refine Xk.x_itn (fun h => ?_) (fun h => ?_)
        · have hz : (fs.map V.str).length < 100000 := by rw [List.length_map]; omega
          wtm_at "xs"
          refine ⟨_, fs ++ [t], rfl, Xk.same_mut s5 hf, (upd_ne nf4.symm).trans g5, by rw [upd_same, List.map_append]; rfl, by rw [et]; exact sub.append (.refl _), List.nodup_append.mpr ⟨nd, List.pairwise_singleton _ _, fun x hx y hy e => ?_⟩, fun u => ?_⟩
          · rw [List.mem_singleton.mp hy] at e
            exact h (e ▸ hx)
          · rw [et, List.mem_append, List.mem_append, mm]
        · wtm_at "xs"
          refine ⟨_, fs, rfl, s5, g5, h5, by rw [et]; exact sub.trans (List.sublist_append_left _ _), nd, fun u => ?_⟩
          rw [et, List.mem_append, List.mem_singleton, mm]
          exact ⟨.inl, fun z => z.elim id fun z => z ▸ (mm t).mp h⟩
      · rintro σ' H5 ⟨y2, fs, rfl, s5, g5, h5, sub, nd, mm⟩
        rw [List.length_map, List.take_length] at sub mm
        wtm_at "xs"
        refine q H5 f fs s5 hf h5 (hys.sublist sub) nd (fun t => ?_) (Nat.le_trans sub.length_le hyl)
        rw [mm, p4.mem_iff, List.mem_append, List.mem_map, List.mem_map]
        rfl
--CUT--
theorem RowsAt.butL {H H' : Hp} {p b : Addr} {L : List (Addr × Br)} {ys : List V} (h : RowsAt H p L) (e : Xk.But b H H') (hb : H b = some (.lst ys)) (n : p ≠ b) : RowsAt H' p L :=
  ⟨e _ _ n h.lst, fun x hx => e _ _ (ne_of_obj (h.tup x hx) hb (fun z => by cases z)) (h.tup x hx)⟩
def sp__law_answer (K : PySem.W.Frag) : Sp := fun vs H Q _ => ∃ (b p : Addr) (n : Int) (L : List (Addr × Br)), vs = [.ref b, .ref p] ∧ H b = some (.lst [.int n]) ∧ RowsAt H p L ∧ p ≠ b ∧ 1 ≤ L.length ∧ L.length ≤ 50 ∧ (∀ r ∈ L.map (·.2), Br.ok r) ∧
  ∀ H' (m : Int) t w G d, Xk.But b H H' → H' b = some (.lst [.int m]) → AnAt H' t w G → G.length ≤ 2 → (∀ e ∈ G, ∃ r ∈ L.map (·.2), e.2.1 = r.1 ∧ e.2.2.1 = r.2.1) → (∀ e ∈ G, Br.ok e.2) → Xk.Pk K H' 4 (.ref t) d → Q (.ref t) H'
theorem ok__law_answer (T : Txt K mg) : FnOk P w K mg base CX0 2 T.f__law_answer T.d__law_answer ["box", "rows"] (sp__law_answer K) := by
  refine T.F__law_answer.ok sc__law_answer (fun vs H Q E h => ?_) (fun cdv A outer s H vs Q E hr h => ?_)
  · obtain ⟨b, p, n, L, rfl, _⟩ := h
    rfl
  obtain ⟨b, p, n, L, rfl, hb, hL, npb, hl1, hl2, hok, q⟩ := h
  refine ⟨_, (pss_cons (ps_set (i := 2) sc__law_answer.nd rfl (Or.inl rfl) (pe_call (ok__law_take T) (hr.mono (by decide)) (by rfl) T.g__law_take T.F__law_take.kp T.b__law_take .nil pass0 (pa_cons (pv 0) (pa_cons (pe_int) pa_nil))))
      (Evl.pss_cut (ps_if (pt_cmpR op_eq (pv 2) (pe_int) (nomark _)) (pss_one (ps_ret (pe_tup (pa_cons (pe_str) pa_nil)))) pss_nil)
      (Evl.pss_cut (ps_if (pt_cmpR op_eq (pv 2) (pe_int) (nomark _)) (pss_one (ps_ret (pe_tup (pa_cons (pe_str) (pa_cons (pe_tup (pa_cons (pe_non) (pa_cons (pe_int) pa_nil))) pa_nil))))) pss_nil)
      (Evl.pss_cut (ps_if (pt_cmpR op_eq (pv 2) (pe_int) (nomark _)) (pss_one (ps_ret (pe_tup (pa_cons (pe_str) (pa_cons (pe_tup (pa_cons (pe_str) pa_nil)) pa_nil))))) pss_nil)
      (pss_cons (ps_set (i := 3) sc__law_answer.nd rfl (Or.inl rfl) (pe_lst pa_nil))
      (pss_cons (ps_for PassesOwn.never rfl (pi_range1 (by rfl) T.m_range (pa_cons (pe_call (ok__law_take T) (hr.mono (by decide)) (by rfl) T.g__law_take T.F__law_take.kp T.b__law_take .nil pass0 (pa_cons (pv 0) (pa_cons (pe_int) pa_nil))) pa_nil)) (pg_name (i := 4) sc__law_answer.nd rfl (Or.inl rfl)) (pss_cons (ps_set (i := 5) sc__law_answer.nd rfl (Or.inl rfl) (pe_ix (Xk.k_ixL (K := K) (by rfl)) (pv 1) (pe_call (ok__law_take T) (hr.mono (by decide)) (by rfl) T.g__law_take T.F__law_take.kp T.b__law_take .nil pass0 (pa_cons (pv 0) (pa_cons (pe_callB (Xk.k_len (K := K) (by rfl)) (by rfl) T.m_len PySem.boot_len (pa_cons (pv 1) pa_nil)) pa_nil))) (fun _ _ => rfl)))
      (pss_one (ps_expr (pe_bm PySem.F.plainAttrs_list PySem.F.slot_list_append PySem.F.type_list_append mt_append (pv 3) (pa_cons (pe_tup (pa_cons (pe_ix (Xk.k_ixT (K := K) (by rfl)) (pv 5) (pe_int) (fun _ _ => rfl)) (pa_cons (pe_ix (Xk.k_ixT (K := K) (by rfl)) (pv 5) (pe_int) (fun _ _ => rfl)) (pa_cons (pe_op op_add (pe_int) (pe_call (ok__law_take T) (hr.mono (by decide)) (by rfl) T.g__law_take T.F__law_take.kp T.b__law_take .nil pass0 (pa_cons (pv 0) (pa_cons (pe_int) pa_nil)))) (pa_cons (pe_op op_add (pe_ix (Xk.k_ixT (K := K) (by rfl)) (pv 5) (pe_int) (fun _ _ => rfl)) (pe_call (ok__law_take T) (hr.mono (by decide)) (by rfl) T.g__law_take T.F__law_take.kp T.b__law_take .nil pass0 (pa_cons (pv 0) (pa_cons (pe_int) pa_nil)))) pa_nil))))) pa_nil))))))
      (pss_one (ps_ret (pe_tup (pa_cons (pe_str) (pa_cons (pe_callTy (Xk.k_tuple (K := K) (by rfl)) (by rfl) T.m_tuple (by decide +kernel) (pa_cons (pv 3) pa_nil)) pa_nil))))))))))), ?_⟩
  wtm_at "x0"
  wtm_at "xs"
  refine draw (z := 4) hb ⟨by decide, by decide⟩ fun j m1 H1 hj b1 hb1 => ?_
  wtm_at "xs"
  refine Xk.x_cut (fun σ' H' => σ' = [some (.ref b), some (.ref p), some (.int j), none, none, none] ∧ H' = H1) ?_ ?_
  · wtm_at "xs"
    refine Xk.x_itd (fun c => ?_) (fun c => ?_)
    · wtm_at "xs"
      intro t H2 ht s2 h2
      exact q H2 m1 t "busy" [] _ (Xk.but_trans b1 (Xk.but_same s2)) (s2 _ _ hb1) ⟨⟨[], h2, by decide, fun z => absurd z (by decide)⟩, fun _ => rfl⟩ (Nat.zero_le _) (fun e he => (by cases he)) (fun e he => (by cases he)) (Xk.pk_tup1 (n := 3) (Xk.st_of h2) Xk.pk_str)
    · wtm_at "xs"
      exact ⟨rfl, rfl⟩
  rintro σ' H' ⟨rfl, rfl⟩
  refine Xk.x_cut (fun σ' H2 => σ' = [some (.ref b), some (.ref p), some (.int j), none, none, none] ∧ H2 = H') ?_ ?_
  · wtm_at "xs"
    refine Xk.x_itd (fun c => ?_) (fun c => ?_)
    · wtm_at "xs"
      intro t0 H2 ht0 s2 h2
      wtm_at "xs"
      intro t H3 ht s3 h3
      have s23 := s2.trans s3
      exact q H3 m1 t "done" [] _ (Xk.but_trans b1 (Xk.but_same s23)) (s23 _ _ hb1) ⟨⟨[_], h3, by show 1 ≤ 5; decide, fun z => absurd z (by decide)⟩, fun _ => rfl⟩ (Nat.zero_le _) (fun e he => (by cases he)) (fun e he => (by cases he)) (Xk.pk_tup2 (n := 3) (Xk.st_of h3) Xk.pk_str (Xk.pk_tup2 (n := 2) (Xk.st_of (s3 _ _ h2)) Xk.pk_non Xk.pk_int))
    · wtm_at "xs"
      exact ⟨rfl, rfl⟩
  rintro σ' H2 ⟨rfl, rfl⟩
  refine Xk.x_cut (fun σ' H' => σ' = [some (.ref b), some (.ref p), some (.int j), none, none, none] ∧ H' = H2) ?_ ?_
  · wtm_at "xs"
    refine Xk.x_itd (fun c => ?_) (fun c => ?_)
    · wtm_at "xs"
      intro t0 H3 ht0 s2 h2
      wtm_at "xs"
      intro t H4 ht s3 h3
      have s23 := s2.trans s3
      exact q H4 m1 t "unheld" [] _ (Xk.but_trans b1 (Xk.but_same s23)) (s23 _ _ hb1) ⟨⟨[_], h3, by show 1 ≤ 5; decide, fun z => absurd z (by decide)⟩, fun _ => rfl⟩ (Nat.zero_le _) (fun e he => (by cases he)) (fun e he => (by cases he)) (Xk.pk_tup2 (n := 3) (Xk.st_of h3) Xk.pk_str (Xk.pk_tup1 (n := 2) (Xk.st_of (s3 _ _ h2)) Xk.pk_str))
    · wtm_at "xs"
      exact ⟨rfl, rfl⟩
  rintro σ' H' ⟨rfl, rfl⟩
  wtm_at "xs"
  intro g H2 hg s2 h2
  have hb2 := s2 _ _ hb1
  have ngb : g ≠ b := (Xk.ne_new hg hb1).symm
  have hL1 := hL.butL b1 hb npb
  have npg : p ≠ g := Xk.ne_new hg hL1.lst
  have hL2 := hL1.same s2
  have b02 := Xk.but_trans b1 (Xk.but_same s2)
  have hgH : Xk.Fr g H := ⟨by
    cases e : H g with
    | none => rfl
    | some o =>
      have z := b1 _ _ ngb e
      rw [hg.is] at z
      cases z⟩
  clear b1 s2 hb1 hL1 hg
  wtm_at "xs"
  refine draw (z := 3) hb2 ⟨by decide, by decide⟩ fun j2 m2 H3 hj2 b3 hb3 => ?_
  have b03 := Xk.but_trans b02 b3
  have h3 := b3 _ _ ngb h2
  have hL3 := hL2.butL b3 hb2 npb
  clear b02 b3 h2 hL2 hb2
  refine Xk.x_range (fun i σ' H' => ∃ (y4 y5 : Option V) (G : List (Addr × Br)) (m : Int), σ' = [some (.ref b), some (.ref p), some (.int j), some (.ref g), y4, y5] ∧ Xk.But b H H' ∧ H' b = some (.lst [.int m]) ∧ RowsAt H' p L ∧ RowsAt H' g G ∧ (∀ e ∈ G, ∃ r ∈ L.map (·.2), e.2.1 = r.1 ∧ e.2.2.1 = r.2.1) ∧ (∀ e ∈ G, Br.ok e.2) ∧ G.length ≤ i)
    ⟨by omega, by omega⟩ ⟨_, _, [], m2, rfl, b03, hb3, hL3, ⟨h3, fun e he => (by cases he)⟩, fun e he => (by cases he), fun e he => (by cases he), Nat.le_refl _⟩ ?_ ?_
  · clear b03 h3 hL3 hb3
    rintro i σ' H1' hi ⟨y4, y5, G, m, rfl, b1, hb1, hL1, hG1, hGr, hGo, hGl⟩
    have hl := hL1.lst
    have hgl := hG1.lst
    wtm_at "xs"
    rw [List.length_map]
    refine draw hb1 ⟨by omega, by omega⟩ fun j3 m3 H2' hj3 b2 hb2 => ?_
    obtain ⟨e, he⟩ := Xk.lt_at (xs := L) (j := j3) (by omega)
    have hem := List.mem_of_getElem? he
    have hL2 := hL1.butL b2 hb1 npb
    have hG2 := hG1.butL b2 hb1 ngb
    refine Xk.x_ixL (Xk.sq_of hL2.lst) (Xk.at_nat rfl (show (L.map fun e => V.ref e.1)[j3]? = _ from Xk.map_at he)) ?_
    have b02 := Xk.but_trans b1 b2
    clear b1 b2 hb1 hl hgl hL1 hG1
    have hE : H2' e.1 = some (.tup [.str e.2.1, ov e.2.2.1, .int e.2.2.2.1, .int e.2.2.2.2]) := hL2.tup e hem
    have nE : e.1 ≠ b := ne_of_obj hE hb2 (fun z => by cases z)
    have hgl2 := hG2.lst
    wtm_at "xs"
    refine draw (z := 3) hb2 ⟨by decide, by decide⟩ fun j4 m4 H3' hj4 b3 hb3 => ?_
    have hE3 := b3 _ _ nE hE
    have hL3 := hL2.butL b3 hb2 npb
    have hG3 := hG2.butL b3 hb2 ngb
    have b03 := Xk.but_trans b02 b3
    clear b02 b3 hb2 hL2 hgl2 hG2 hE
    wtm_at "xs"
    refine draw (z := 3) hb3 ⟨by decide, by decide⟩ fun j5 m5 H4' hj5 b4 hb4 => ?_
    have hL4 := hL3.butL b4 hb3 npb
    have hG4 := hG3.butL b4 hb3 ngb
    have b04 := Xk.but_trans b03 b4
    clear b03 b4 hb3 hL3 hG3 hE3
    wtm_at "xs"
    intro t H5 ht s5 h5
    have hG5 := hG4.same s5
    have hgl5 := hG5.lst
    have hz : (G.map fun e => V.ref e.1).length < 100000 := by rw [List.length_map]; omega
    wtm_at "xs"
    have ok' : Br.ok (e.2.1, e.2.2.1, 1 + (j4 : Int), e.2.2.2.2 + (j5 : Int)) := hok e.2 (List.mem_map_of_mem hem)
    refine ⟨_, _, G ++ [(t, (e.2.1, e.2.2.1, 1 + (j4 : Int), e.2.2.2.2 + (j5 : Int)))], m5, rfl, Xk.but_new (Xk.but_trans b04 (Xk.but_same s5)) hgH, (upd_ne ngb.symm).trans (s5 _ _ hb4), (hL4.same s5).butL (Xk.but_mut (Xk.But.refl _ _)) hgl5 npg, hG4.snoc s5 h5, fun x hx => ?_, fun x hx => ?_, by rw [List.length_append]; exact Nat.succ_le_succ hGl⟩
    · rcases List.mem_append.mp hx with hx | hx
      · exact hGr x hx
      · rw [List.mem_singleton.mp hx]
        exact ⟨e.2, List.mem_map_of_mem hem, rfl, rfl⟩
    · rcases List.mem_append.mp hx with hx | hx
      · exact hGo x hx
      · rw [List.mem_singleton.mp hx]
        exact ok'
  · clear b03 h3 hL3 hb3
    rintro σ' H1' ⟨y4, y5, G, m, rfl, b1, hb1, hL1, hG1, hGr, hGo, hGl⟩
    have hgl := hG1.lst
    have hG2 : G.length ≤ 2 := by omega
    wtm_at "xs"
    intro u H5 hu s5 h5
    wtm_at "xs"
    intro t H6 ht s6 h6
    have s56 := s5.trans s6
    have hG6 := hG1.same s56
    exact q H6 m t "moved" G _ (Xk.but_trans b1 (Xk.but_same s56)) (s56 _ _ hb1) ⟨⟨[_], h6, by show 1 ≤ 5; decide, fun _ => ⟨u, rfl, s6 _ _ h5, hG6.tup⟩⟩, fun z => absurd rfl z⟩ hG2 hGr hGo (Xk.pk_tup2 (n := 3) (Xk.st_of h6) Xk.pk_str ((Xk.pk_tup (n := 1) (Xk.st_of (s6 _ _ h5)) (pk_rows hG6.tup (fun r hr => by obtain ⟨x, hx, rfl⟩ := List.mem_map.mp hr; exact hGo x hx))).mono (by decide)))
--CUT--
/-- a client and its model -/
structure Pr where
  c : Addr
  dx : Addr
  bl : Addr
  md : Addr
  mb : Addr
  n : Int
  L : List (Addr × Br)
  M : List (Addr × Br)
  cv : V
  ov : V
structure PrAt (K : PySem.W.Frag) (C CO : Addr) (H : Hp) (x : Pr) : Prop where
  cl : ClI H C x.c x.dx x.bl x.n x.cv
  md : H x.md = some (.dK [(Sum.inr "number", .int x.n), (Sum.inr "open", x.ov), (Sum.inr "beliefs", .ref x.mb)])
  lt : RowsAt H x.bl x.L
  mt : RowsAt H x.mb x.M
  eq : x.L.map (·.2) = x.M.map (·.2)
  ok : ∀ r ∈ x.L.map (·.2), Br.ok r
  op : (x.cv = .non ∧ x.ov = .non) ∨ ∃ oc odx d pl rq mpl e r T' dd, x.cv = .ref oc ∧ x.ov = .ref rq ∧ OcI H CO oc odx x.n d pl ∧ H rq = some (.tup [.str "request", .int x.n, .ref d, .ref mpl]) ∧ RgAt H pl (e :: r) ∧ RgAt H mpl T' ∧ (e :: r).map (·.2) = T'.map (·.2) ∧ (∀ z ∈ (e :: r).map (·.2), Ok z.1) ∧ Xk.Pk K H 4 (.ref d) dd
theorem PrAt.same {C CO : Addr} {H H' : Hp} {x : Pr} (h : PrAt K C CO H x) (s : Same H H') : PrAt K C CO H' x := by
  refine ⟨s _ _ h.cl, s _ _ h.md, h.lt.same s, h.mt.same s, h.eq, h.ok, ?_⟩
  rcases h.op with o | ⟨oc, odx, d, pl, rq, mpl, e, r, T', dd, h1, h2, h3, h4, h5, h6, h7, h8, h9⟩
  · exact .inl o
  · exact .inr ⟨oc, odx, d, pl, rq, mpl, e, r, T', dd, h1, h2, s _ _ h3, s _ _ h4, h5.same s, h6.same s, h7, h8, h9.same s⟩
theorem pk_two {H : Hp} : ∀ {T T' : List (Addr × Cr)}, T.map (·.2) = T'.map (·.2) → (∀ e ∈ T, H e.1 = some (.tup e.2.xs)) → (∀ e ∈ T', H e.1 = some (.tup e.2.xs)) → (∀ r ∈ T.map (·.2), ∃ ds, Xk.PkAll K H 5 r.xs ds) →
    ∃ ds, Xk.PkAll K H 6 (T.map fun e => V.ref e.1) ds ∧ Xk.PkAll K H 6 (T'.map fun e => V.ref e.1) ds
  | [], [], _, _, _, _ => ⟨[], Xk.pk_nil, Xk.pk_nil⟩
  | [], _ :: _, h, _, _, _ => by cases h
  | _ :: _, [], h, _, _, _ => by cases h
  | a :: r, b :: r', h, h1, h2, h3 => by
    rw [List.map_cons, List.map_cons] at h
    injection h with e1 e2
    obtain ⟨ds, p1, p2⟩ := pk_two e2 (fun e he => h1 e (List.mem_cons_of_mem _ he)) (fun e he => h2 e (List.mem_cons_of_mem _ he)) fun x hx => h3 x (List.mem_cons_of_mem _ hx)
    obtain ⟨d, hd⟩ := h3 a.2 (List.mem_cons_self ..)
    have k1 := h1 a (List.mem_cons_self ..)
    have k2 := h2 b (List.mem_cons_self ..)
    rw [← e1] at k2
    exact ⟨_, Xk.pk_cons (Xk.pk_tup (n := 5) (Xk.st_of k1) hd) p1, Xk.pk_cons (Xk.pk_tup (n := 5) (Xk.st_of k2) hd) p2⟩
def sp__law_agrees (K : PySem.W.Frag) (C CO CH CR : Addr) : Sp := fun vs H Q _ => ∃ (cs ms hi rs hx hc by_ : Addr) (m : Int) (Z : List Pr) (R : List Cr) (B : List Addr), vs = [.ref cs, .ref ms, .ref hi, .ref rs, .int m] ∧ H cs = some (.lst (Z.map fun x => V.ref x.c)) ∧ H ms = some (.lst (Z.map fun x => V.ref x.md)) ∧ Z.length = 4 ∧ (∀ x ∈ Z, PrAt K C CO H x) ∧
  HiI H CH hi hx m hc by_ ∧ H hc = some (.lst (R.map fun r : Cr => V.ref r.a)) ∧ (∀ r ∈ R, Cr.at_ H CR r) ∧ R.length ≤ 1000 ∧ H rs = some (.lst (B.map V.ref)) ∧ B.length = R.length ∧ (∀ (i : Nat) b r, B[i]? = some b → R[i]? = some r → H b = some (.lst r.xs)) ∧ (∀ r ∈ R, ∃ ds, Xk.PkAll K H 5 r.xs ds) ∧ ∀ H', Same H H' → Q (.bl true) H'
theorem ok__law_agrees (T : Txt K mg) : FnOk P w K mg base CX0 3 T.f__law_agrees T.d__law_agrees ["clients", "models", "history", "records", "events"] (sp__law_agrees K T.C_Client T.C_OpenCall T.C_History T.C_CallRow) := by
  refine T.F__law_agrees.ok sc__law_agrees (fun vs H Q E h => ?_) (fun cdv A outer s H vs Q E hr h => ?_)
  · obtain ⟨cs, ms, hi, rs, hx, hc, by_, m, Z, R, B, rfl, _⟩ := h
    rfl
  obtain ⟨cs, ms, hi, rs, hx, hc, by_, m, Z, R, B, rfl, h1, h2, hP, hPA, j1, h3, hR, hRl, h4, hBl, hBR, hds, q⟩ := h
  have c0 := T.Cls_Client
  have c1 := T.A_Client_beliefs
  have c2 := T.A_Client_number
  have c3 := T.A_Client_call
  have d0 := T.Cls_OpenCall
  have d1 := T.A_OpenCall_number
  have d2 := T.A_OpenCall_deal
  have d3 := T.A_OpenCall_places
  have e0 := T.Cls_History
  have e1 := T.A_History_events
  refine ⟨_, (pss_cons (ps_for PassesOwn.never rfl (pi_range1 (by rfl) T.m_range (pa_cons (pe_int) pa_nil)) (pg_name (i := 5) sc__law_agrees.nd rfl (Or.inl rfl)) (pss_cons (ps_set (i := 6) sc__law_agrees.nd rfl (Or.inl rfl) (pe_ix (Xk.k_ixL (K := K) (by rfl)) (pv 1) (pv 5) (fun _ _ => rfl)))
      (pss_cons (ps_set (i := 7) sc__law_agrees.nd rfl (Or.inl rfl) (pe_ix (Xk.k_ixL (K := K) (by rfl)) (pv 0) (pv 5) (fun _ _ => rfl)))
      (Evl.pss_cut (ps_if (PW.pt (pw_or (pt_cmpR op_ne (Xk.k_fld (K := K) (by rfl) (pv 7) rfl) (pe_dget (hu_of hr) (pv 6) (pe_str) (fun _ _ => rfl)) (nomark _)) (pw_or1 (pt_cmpR (Xk.k_neD (K := K) hr.units (by rfl)) (Xk.k_fld (K := K) (by rfl) (pv 7) rfl) (pe_dget (hu_of hr) (pv 6) (pe_str) (fun _ _ => rfl)) (nomark _))))) (pss_one (ps_ret (pe_bl))) pss_nil)
      (Evl.pss_cut (ps_if (pt_cmpR op_ne (pe_cmpR Xk.op_nIsN (Xk.k_fld (K := K) (by rfl) (pv 7) rfl) (pe_non) (nomark _)) (pe_cmpR Xk.op_nIsN (pe_dget (hu_of hr) (pv 6) (pe_str) (fun _ _ => rfl)) (pe_non) (nomark _)) (nomark _)) (pss_one (ps_ret (pe_bl))) pss_nil)
      (pss_one (ps_if (pt_cmpR Xk.op_nNotN (Xk.k_fld (K := K) (by rfl) (pv 7) rfl) (pe_non) (nomark _)) (pss_cons (ps_set (i := 8) sc__law_agrees.nd rfl (Or.inl rfl) (Xk.k_fld (K := K) (by rfl) (pv 7) rfl))
      (Evl.pss_cut (ps_if (PW.pt (pw_or (pt_cmpR (Xk.k_neD (K := K) hr.units (by rfl)) (pe_meth0 (pv 8) T.Cls_OpenCall T.M_OpenCall_request (ok_OpenCall_request T) (hr.mono (by decide)) T.b_OpenCall_request .nil pass0) (pe_dget (hu_of hr) (pv 6) (pe_str) (fun _ _ => rfl)) (nomark _)) (pw_or1 (pt_cmpR op_ne (pe_prop (pv 8) T.Cls_OpenCall T.P_OpenCall_home (ok_OpenCall_home T) (hr.mono (by decide)) T.b_OpenCall_home .nil pass0 rfl) (pe_ix (Xk.k_ixT (K := K) (by rfl)) (pe_ix (Xk.k_ixT (K := K) (by rfl)) (pe_ix (Xk.k_ixT (K := K) (by rfl)) (pe_dget (hu_of hr) (pv 6) (pe_str) (fun _ _ => rfl)) (pe_int) (fun _ _ => rfl)) (pe_int) (fun _ _ => rfl)) (pe_int) (fun _ _ => rfl)) (nomark _))))) (pss_one (ps_ret (pe_bl))) pss_nil)
      (pss_one (ps_if (pt_cmpR (Xk.k_neD (K := K) hr.units (by rfl)) (pe_tup (pa_cons (Xk.k_fld (K := K) (by rfl) (pv 8) rfl) (pa_cons (Xk.k_fld (K := K) (by rfl) (pv 8) rfl) (pa_cons (Xk.k_fld (K := K) (by rfl) (pv 8) rfl) pa_nil)))) (pe_slice sl_tupA (pe_dget (hu_of hr) (pv 6) (pe_str) (fun _ _ => rfl)) (po_some (pe_int)) po_none) (nomark _)) (pss_one (ps_ret (pe_bl))) pss_nil)))) pss_nil)))))))
      (pss_one (ps_ret ((pe_and (pe_cmpR (Xk.k_eqD (K := K) hr.units (by rfl)) (pe_meth0 (pv 2) T.Cls_History T.M_History_rows (ok_History_rows T) (hr.mono (by decide)) T.b_History_rows .nil pass0) (pe_lc (own := [("record", 9)]) (g := gName 9) (tt := tYes) rfl sc__law_agrees.nd  (pi_list (pv 3)) (blkOk_by (N := N__law_agrees) (sc := defScope s__law_agrees) (own := [("record", 9)]) (by decide +kernel)) (fun _ _ _ _ _ => pg_name (i := 9) sc__law_agrees.nd rfl (Or.inl rfl)) (fun _ _ _ _ _ => pts_nil) (fun _ _ _ _ _ => (pe_callTy (Xk.k_tuple (K := K) (by rfl)) (by rfl) T.m_tuple (by decide +kernel) (pa_cons (pv 9) pa_nil)))) (nomark _)) (pe_one (pe_cmpR op_eq (Xk.k_fld (K := K) (by rfl) (pv 2) rfl) (pv 4) (nomark _)))))))), ?_⟩
  wtm_at "x0"
  wtm_at "xs"
  refine Xk.x_range (fun i σ' H' => ∃ (y5 y6 y7 y8 : Option V), σ' = [some (.ref cs), some (.ref ms), some (.ref hi), some (.ref rs), some (.int m), y5, y6, y7, y8, none] ∧ Same H H') ⟨by omega, by omega⟩ ⟨_, _, _, _, rfl, .refl _⟩ ?_ ?_
  · rintro i σ' H1 hi4 ⟨y5, y6, y7, y8, rfl, s1⟩
    obtain ⟨x, hxi⟩ := Xk.lt_at (xs := Z) (j := i) (by omega)
    have g := (hPA x (List.mem_of_getElem? hxi)).same s1
    have gcl := g.cl
    have gmd := g.md
    have h1' := s1 _ _ h1
    have h2' := s1 _ _ h2
    wtm_at "xs"
    have op := g.op
    have geq := g.eq
    have gok := g.ok
    have glt := g.lt
    have gmt := g.mt
    refine Xk.x_nocut ?_
    wtm_at "xs"
    refine x_neRows glt gmt geq gok ?_
    wtm_at "xs"
    refine Xk.x_nocut ?_
    rcases op with ⟨o1, o2⟩ | ⟨oc, odx, d, pl, rq, mpl, e, r, T', dd, o1, o2, o3, o4, o5, o6, o7, o8, o9⟩
    · rw [o1] at gcl
      rw [o2] at gmd
      wtm_at "xs"
      exact ⟨_, _, _, _, rfl, s1⟩
    · rw [o1] at gcl
      rw [o2] at gmd
      have pT := pk_pairs (K := K) o5.it o8
      have pT' := pk_pairs (K := K) o6.it (by rw [← o7]; exact o8)
      rw [← o7] at pT'
      have p1 := (Xk.pk_tup (n := 1) (Xk.st_of o5.tup) pT).mono (show 2 ≤ 4 by decide)
      have p2 := (Xk.pk_tup (n := 1) (Xk.st_of o6.tup) pT').mono (show 2 ≤ 4 by decide)
      wtm_at "xs"
      obtain ⟨e', r', rfl⟩ : ∃ e' r', T' = e' :: r' := by
        cases T' with
        | nil => cases o7
        | cons e' r' => exact ⟨e', r', rfl⟩
      have ee : e.2 = e'.2 := by
        have z := o7
        rw [List.map_cons, List.map_cons] at z
        injection z
      refine Xk.x_nocut ?_
      wtm_at "xs"
      refine ⟨oc, odx, x.n, d, pl, rfl, o3, fun H2 t ht s2 g2 => ?_⟩
      have q3 := s2 _ _ o3
      have q4 := s2 _ _ o4
      have q5 := o5.same s2
      have q6 := o6.same s2
      have q9 := o9.same s2
      have r1 := p1.same s2
      have r2 := p2.same s2
      have gmd2 := s2 _ _ gmd
      have gcl2 := s2 _ _ gcl
      have q6t := q6.tup
      have q6e := q6.it e' (List.mem_cons_self ..)
      have s02 := s1.trans s2
      clear s1 s2 o3 o4 o5 o6 o9 p1 p2 gmd gcl h1' h2'
      wtm_at "xs"
      refine Xk.x_nePk (n := 5) (m := 5) (Xk.pk_tup (n := 4) (Xk.st_of g2) (Xk.pk_cons Xk.pk_str (Xk.pk_cons Xk.pk_int (Xk.pk_cons q9 (Xk.pk_cons r1 Xk.pk_nil))))) (Xk.pk_tup (n := 4) (Xk.st_of q4) (Xk.pk_cons Xk.pk_str (Xk.pk_cons Xk.pk_int (Xk.pk_cons q9 (Xk.pk_cons r2 Xk.pk_nil))))) ?_
      wtm_at "xs"
      refine ⟨oc, odx, x.n, d, pl, e, r, rfl, q3, q5, ?_⟩
      wtm_at "xs"
      have i0 : atI ((e' :: r').map fun e : Addr × Str × Int => V.ref e.1) 0 = some (V.ref e'.1) := atI_nat (xs := (e' :: r').map fun e : Addr × Str × Int => V.ref e.1) (j := 0) rfl
      refine Xk.x_ixT (Xk.st_of q6t) i0 ?_
      rw [← ee] at q6e
      wtm_at "xs"
      intro t2 H3 ht2 s3 g3
      have gmd3 := s3 _ _ gmd2
      have q43 := s3 _ _ q4
      wtm_at "xs"
      refine Xk.x_slA q43 fun t3 H4 s4 g4 => ?_
      rw [Xk.cut_drop (k := 1) (n := 1) rfl] at g4
      replace g4 : H4 t3 = some (.tup [.int x.n, .ref d, .ref mpl]) := g4
      have g3' := s4 _ _ g3
      have s24 := s3.trans s4
      refine Xk.x_nePk (n := 5) (m := 5) (Xk.pk_tup (n := 4) (Xk.st_of g3') (Xk.pk_cons Xk.pk_int (Xk.pk_cons (q9.same s24) (Xk.pk_cons (r1.same s24) Xk.pk_nil)))) (Xk.pk_tup (n := 4) (Xk.st_of g4) (Xk.pk_cons Xk.pk_int (Xk.pk_cons (q9.same s24) (Xk.pk_cons (r2.same s24) Xk.pk_nil)))) ?_
      wtm_at "xs"
      exact ⟨_, _, _, _, rfl, s02.trans s24⟩
  · rintro σ' H1 ⟨y5, y6, y7, y8, rfl, s1⟩
    have j1' := s1 _ _ j1
    have h3' := s1 _ _ h3
    have h4' := s1 _ _ h4
    wtm_at "xs"
    refine ⟨hi, hx, m, hc, by_, R, rfl, j1', h3', (fun r hr => s1 _ _ (hR r hr)), hRl, fun H2 q2 T2 s2 g1 g2 g3 => ?_⟩
    have j2' := s2 _ _ j1'
    have h4'' := s2 _ _ h4'
    wtm_at "xs"
    refine Xk.x_lcL (xs := B.map V.ref) (fun Dl i H' => Same H2 H' ∧ ∃ T3 : List (Addr × Cr), H' Dl = some (.lst (T3.map fun e => V.ref e.1)) ∧ T3.map (·.2) = R.take i ∧ ∀ e ∈ T3, H' e.1 = some (.tup e.2.xs)) (Xk.sq_of h4'') ?_ ?_ ?_ ?_
    · intro Dl hD
      exact ⟨Xk.same_fr hD, [], upd_same, rfl, fun e z => (by cases z)⟩
    · rintro Dl i H' hD ⟨s3, _⟩
      exact Xk.sq_of (s3 _ _ h4'')
    · rintro Dl hD i x H' hi ⟨s3, T', t1, t2, t3⟩
      obtain ⟨b, hb, rfl⟩ := Xk.of_map_at hi
      have hil := Xk.at_lt hb
      obtain ⟨r, hr⟩ := Xk.lt_at (xs := R) (j := i) (by omega)
      have hbr := (s1.trans (s2.trans s3)) _ _ (hBR i b r hb hr)
      wtm_at "xs"
      refine ⟨rfl, ?_⟩
      wtm_at "xs"
      intro t H3 ht s4 h5
      have hT : T'.length ≤ R.length := by
        have z := congrArg List.length t2
        rw [List.length_map, List.length_take] at z
        omega
      have t14 := s4 _ _ t1
      refine ⟨_, t14, Xk.size_lt (by rw [List.length_map]; omega), Xk.same_mut (s3.trans s4) hD, T' ++ [(t, r)], by rw [upd_same, List.map_append]; rfl, ?_, fun z hz => ?_⟩
      · rw [List.map_append, t2, List.take_add_one, hr]
        rfl
      · rcases List.mem_append.mp hz with hz | hz
        · exact keep_tup (s4 _ _ (t3 z hz)) t14
        · rw [List.mem_singleton.mp hz]
          exact keep_tup h5 t14
    · rintro Dl H3 hD ⟨s3, T', t1, t2, t3⟩
      rw [List.length_map, hBl, List.take_length] at t2
      have j3' := s3 _ _ j2'
      have s03 := s1.trans (s2.trans s3)
      obtain ⟨ds, p1, p2⟩ := pk_two (K := K) (T := T2) (T' := T') (by rw [g2, t2]) (fun e he => s3 _ _ (g3 e he)) t3 (fun r hr => by
        rw [g2] at hr
        obtain ⟨ds, hd⟩ := hds r hr
        exact ⟨ds, hd.same s03⟩)
      refine Xk.x_eqPkL (n := 6) (m := 6) (Xk.sq_of (s3 _ _ g1)) (Xk.sq_of t1) p1 p2 ?_
      wtm_at "xs"
      rw [decide_eq_true (show V.int m = V.int m from rfl)]
      exact q H3 s03
--CUT--
/-! ### what a turn leaves alone -/
def kd : HO → Nat
  | .tup _ => 0
  | .frz _ _ => 1
  | .lst _ => 3
  | .dK _ => 4
  | .dT _ => 5
  | .ins _ _ ((n, _) :: _) => 100 + n.cps.toList.headD 0
  | _ => 6
theorem nk {H : Hp} {a b : Addr} {o o' : HO} (h : H a = some o) (h' : H b = some o') (n : kd o ≠ kd o') : a ≠ b := fun z => by
  rw [z, h'] at h
  exact n (congrArg kd (Option.some.inj h)).symm
/-- all but these stay -/
def Kp (S : List Addr) (H H' : Hp) : Prop := ∀ a o, a ∉ S → H a = some o → H' a = some o
theorem Kp.refl (S : List Addr) (H : Hp) : Kp S H H := fun _ _ _ h => h
theorem Kp.same {S : List Addr} {H H1 H2 : Hp} (k : Kp S H H1) (s : Same H1 H2) : Kp S H H2 := fun a o n h => s _ _ (k a o n h)
theorem Kp.but {S : List Addr} {p : Addr} {H H1 H2 : Hp} (k : Kp S H H1) (b : Xk.But p H1 H2) (hp : p ∈ S) : Kp S H H2 := fun a o n h => b _ _ (fun z => n (z ▸ hp)) (k a o n h)
theorem Kp.mut {S : List Addr} {p : Addr} {o : HO} {H H1 : Hp} (k : Kp S H H1) (hp : p ∈ S) : Kp S H (upd H1 p o) := k.but (Xk.but_mut (Xk.But.refl _ _)) hp
theorem Kp.b3 {S : List Addr} {p q r : Addr} {H H1 H2 : Hp} (k : Kp S H H1) (b : But3 p q r H1 H2) (hp : p ∈ S) (hq : q ∈ S) (hr : r ∈ S) : Kp S H H2 := fun a o n h => b _ _ (fun z => n (z ▸ hp)) (fun z => n (z ▸ hq)) (fun z => n (z ▸ hr)) (k a o n h)
/-- what changes is no tuple and no open call -/
def Nt (H : Hp) (S : List Addr) : Prop := ∀ p ∈ S, ∃ o, H p = some o ∧ kd o ≠ 0 ∧ kd o ≠ 1 ∧ kd o ≠ 210
theorem Nt.out {H : Hp} {S : List Addr} (t : Nt H S) {a : Addr} {o : HO} (h : H a = some o) (k : kd o = 0 ∨ kd o = 1 ∨ kd o = 210) : a ∉ S := fun z => by
  obtain ⟨o', h', k1, k2, k3⟩ := t a z
  rw [h] at h'
  cases h'
  rcases k with k | k | k
  · exact k1 k
  · exact k2 k
  · exact k3 k
theorem Kp.tup {S : List Addr} {H H' : Hp} (k : Kp S H H') (t : Nt H S) {a : Addr} {xs : List V} (h : H a = some (.tup xs)) : H' a = some (.tup xs) := k a _ (t.out h (.inl rfl)) h
theorem Kp.st {S : List Addr} {H H' : Hp} (k : Kp S H H') (t : Nt H S) : Xk.St K H H' := by
  refine ⟨fun b xs h => ?_⟩
  rcases h with (h | ⟨u, h⟩) | h
  · exact .inl (.inl (k.tup t h))
  · exact .inl (.inr ⟨u, k _ _ (t.out h (.inr (.inl rfl))) h⟩)
  · exact .inr h
theorem RowsAt.kp {S : List Addr} {H H' : Hp} {p : Addr} {L : List (Addr × Br)} (h : RowsAt H p L) (k : Kp S H H') (t : Nt H S) (n : p ∉ S) : RowsAt H' p L := ⟨k _ _ n h.lst, fun e he => k.tup t (h.tup e he)⟩
theorem RgAt.kp {S : List Addr} {H H' : Hp} {p : Addr} {L : List (Addr × Str × Int)} (h : RgAt H p L) (k : Kp S H H') (t : Nt H S) : RgAt H' p L := ⟨k.tup t h.tup, fun e he => k.tup t (h.it e he)⟩
theorem PrAt.kp {C CO : Addr} {S : List Addr} {H H' : Hp} {x : Pr} (h : PrAt K C CO H x) (k : Kp S H H') (t : Nt H S) (n1 : x.c ∉ S) (n2 : x.md ∉ S) (n3 : x.bl ∉ S) (n4 : x.mb ∉ S) : PrAt K C CO H' x := by
  refine ⟨k _ _ n1 h.cl, k _ _ n2 h.md, h.lt.kp k t n3, h.mt.kp k t n4, h.eq, h.ok, ?_⟩
  rcases h.op with o | ⟨oc, odx, d, pl, rq, mpl, e, r, T', dd, h1, h2, h3, h4, h5, h6, h7, h8, h9⟩
  · exact .inl o
  · exact .inr ⟨oc, odx, d, pl, rq, mpl, e, r, T', dd, h1, h2, k _ _ (t.out h3 (.inr (.inr (show 100 + (Str.ofString "number").cps.toList.headD 0 = 210 by decide +kernel)))) h3, k.tup t h4, h5.kp k t, h6.kp k t, h7, h8, h9.st (k.st t)⟩
/-- rows of beliefs are no list of lists, of objects -/
theorem rows_ne {H : Hp} {p q : Addr} {L : List (Addr × Br)} {xs : List V} (hL : RowsAt H p L) (hn : 1 ≤ L.length) (hq : H q = some (.lst xs)) (hx : ∀ v ∈ xs, ∃ a o, v = .ref a ∧ H a = some o ∧ kd o ≠ 0) : p ≠ q := fun z => by
  have h := hL.lst
  rw [z, hq] at h
  injection h with h
  injection h with h
  obtain ⟨e, he⟩ := Xk.lt_at (xs := L) (j := 0) (by omega)
  have hm := List.mem_of_getElem? he
  obtain ⟨a, o, h1, h2, h3⟩ := hx (.ref e.1) (by rw [h]; exact List.mem_map_of_mem hm)
  injection h1 with h1
  rw [← h1, hL.tup e hm] at h2
  cases h2
  exact h3 rfl
/-! ### two ranges -/
def Two (s : Str) (l : List Br) : Prop := ∃ c1 e1 c2 e2, l = [(Str.ofString "", some s, c1, e1), (s, none, c2, e2)]
theorem Two.ch {s : Str} {l : List Br} (h : Two s l) (hs : (LT.lt (Array.toList (PySem.Str.cps "")) (Array.toList (PySem.Str.cps s)))) : Ch "" l := by
  obtain ⟨c1, e1, c2, e2, rfl⟩ := h
  exact ⟨rfl, rfl, hs, rfl, rfl⟩
theorem Two.len {s : Str} {l : List Br} (h : Two s l) : l.length = 2 := by
  obtain ⟨c1, e1, c2, e2, rfl⟩ := h
  rfl
theorem Two.map {s : Str} {l : List Br} (h : Two s l) (hi : Br) : Two s (l.map (behind hi)) := by
  obtain ⟨c1, e1, c2, e2, rfl⟩ := h
  have a1 := behind_eq hi ("", some s, c1, e1)
  have a2 := behind_eq hi (s, none, c2, e2)
  refine ⟨(behind hi ("", some s, c1, e1)).2.2.1, (behind hi ("", some s, c1, e1)).2.2.2, (behind hi (s, none, c2, e2)).2.2.1, (behind hi (s, none, c2, e2)).2.2.2, ?_⟩
  rw [List.map_cons, List.map_cons, List.map_nil]
  refine congr (congrArg _ ?_) (congrArg (fun x => [x]) ?_)
  · exact Prod.ext a1.1 (Prod.ext a1.2 rfl)
  · exact Prod.ext a2.1 (Prod.ext a2.2 rfl)
theorem Two.cut {s : Str} {l : List Br} (h : Two s l) : l.flatMap (cutR s) = l := by
  obtain ⟨c1, e1, c2, e2, rfl⟩ := h
  have i := decide_eq_false (lt_irr s)
  have z1 : cutR s (Str.ofString "", some s, c1, e1) = [(Str.ofString "", some s, c1, e1)] := if_neg (fun y => by
    rw [Bool.and_eq_true] at y
    have y2 : decide ((LT.lt (Array.toList (PySem.Str.cps s)) (Array.toList (PySem.Str.cps s)))) = true := y.2
    rw [i] at y2
    cases y2)
  have z2 : cutR s (s, none, c2, e2) = [(s, none, c2, e2)] := if_neg (by
    show ¬ (decide ((LT.lt (Array.toList (PySem.Str.cps s)) (Array.toList (PySem.Str.cps s)))) && true) = true
    rw [i, Bool.false_and]
    decide)
  rw [List.flatMap_cons, List.flatMap_cons, List.flatMap_nil, z1, z2]
  rfl
theorem Two.learn {s : Str} {l : List Br} (h : Two s l) (hs : (LT.lt (Array.toList (PySem.Str.cps "")) (Array.toList (PySem.Str.cps s)))) {hi : Br} (hh : (hi.1 = "" ∧ hi.2.1 = some s) ∨ (hi.1 = s ∧ hi.2.1 = none)) : Two s (learnR hi l) := by
  have z : cutL hi.2.1 (cutL (some hi.1) l) = l := by
    rcases hh with ⟨h1, h2⟩ | ⟨h1, h2⟩
    · rw [h1, h2]
      have c : cutL (some "") l = l := cut_off (h.ch hs) (lt_irr "")
      rw [c]
      exact h.cut
    · rw [h1, h2]
      exact h.cut
  unfold learnR
  rw [z]
  exact h.map hi
theorem Two.fold {s : Str} (hs : (LT.lt (Array.toList (PySem.Str.cps "")) (Array.toList (PySem.Str.cps s)))) : ∀ (G : List Br) {l : List Br}, Two s l → (∀ hi ∈ G, (hi.1 = "" ∧ hi.2.1 = some s) ∨ (hi.1 = s ∧ hi.2.1 = none)) → Two s (G.foldl (fun l hi => learnR hi l) l)
  | [], _, h, _ => h
  | hi :: G, _, h, hh => Two.fold hs G (h.learn hs (hh hi (List.mem_cons_self ..))) fun x hx => hh x (List.mem_cons_of_mem _ hx)
theorem Two.has {s : Str} {l : List Br} (h : Two s l) {hi : Br} (hh : ∃ r ∈ l, hi.1 = r.1 ∧ hi.2.1 = r.2.1) : (hi.1 = "" ∧ hi.2.1 = some s) ∨ (hi.1 = s ∧ hi.2.1 = none) := by
  obtain ⟨c1, e1, c2, e2, rfl⟩ := h
  obtain ⟨r, hr, h1, h2⟩ := hh
  rcases List.mem_cons.mp hr with rfl | hr
  · exact .inl ⟨h1, h2⟩
  · rw [List.mem_singleton.mp hr] at h1 h2
    exact .inr ⟨h1, h2⟩
theorem Two.ok {s : Str} {l : List Br} (h : Two s l) (hs : Ok s) : ∀ r ∈ l, Br.ok r := by
  obtain ⟨c1, e1, c2, e2, rfl⟩ := h
  intro r hr
  rcases List.mem_cons.mp hr with rfl | hr
  · exact ⟨(show Ok (Str.ofString "") from ⟨by decide, by decide⟩), fun t z => by cases z; exact hs⟩
  · rw [List.mem_singleton.mp hr]
    exact ⟨hs, fun t z => by cases z⟩
/-! ### a deal is packable -/
theorem pk_fv {H : Hp} {n : Nat} {v : V} (h : FV v) : ∃ d, Xk.Pk K H n v d := by
  rcases h with rfl | ⟨i, rfl⟩ | ⟨s, rfl, h⟩
  · exact ⟨_, Xk.pk_non⟩
  · exact ⟨_, Xk.pk_int⟩
  · exact ⟨_, pk_s h⟩
theorem Dd.pk {H : Hp} {n : Nat} {d : Dd} (h : d.ok) : ∃ ds, Xk.PkAll K H n d.xs ds := by
  cases d with
  | get k => exact ⟨_, Xk.pk_cons (Xk.pk_str (x := "get") (by decide +kernel)) (Xk.pk_cons (pk_s h) Xk.pk_nil)⟩
  | del k => exact ⟨_, Xk.pk_cons (Xk.pk_str (x := "del") (by decide +kernel)) (Xk.pk_cons (pk_s h) Xk.pk_nil)⟩
  | add k i => exact ⟨_, Xk.pk_cons (Xk.pk_str (x := "add") (by decide +kernel)) (Xk.pk_cons (pk_s h) (Xk.pk_cons Xk.pk_int Xk.pk_nil))⟩
  | put k v =>
    obtain ⟨d, hd⟩ := pk_fv (K := K) (H := H) (n := n) (.inr h.2)
    exact ⟨_, Xk.pk_cons (Xk.pk_str (x := "put") (by decide +kernel)) (Xk.pk_cons (pk_s h.1) (Xk.pk_cons hd Xk.pk_nil))⟩
theorem pk_refs {H : Hp} {n : Nat} : ∀ {ps : List Addr}, (∀ p ∈ ps, ∃ d, Xk.Pk K H n (.ref p) d) → ∃ ds, Xk.PkAll K H n (ps.map V.ref) ds
  | [], _ => ⟨[], Xk.pk_nil⟩
  | p :: ps, h => by
    obtain ⟨d, hd⟩ := h p (List.mem_cons_self ..)
    obtain ⟨ds, hds⟩ := pk_refs fun p hp => h p (List.mem_cons_of_mem _ hp)
    exact ⟨_, Xk.pk_cons hd hds⟩
theorem DlAt.pk {H : Hp} {p : Addr} {Cs : List (Addr × Ck)} {D : List (Addr × Dd)} (h : DlAt H p Cs D) : ∃ d, Xk.Pk K H 3 (.ref p) d := by
  obtain ⟨pc, pd, h1, h2, h3⟩ := h.tp
  obtain ⟨d1, k1⟩ := pk_refs (K := K) (H := H) (n := 1) (ps := Cs.map (·.1)) fun p hp => by
    obtain ⟨e, he, rfl⟩ := List.mem_map.mp hp
    have f := h.fv e he
    obtain ⟨d, hd⟩ := pk_fv (K := K) (H := H) (n := 0) f.2
    exact ⟨_, Xk.pk_tup2 (n := 0) (Xk.st_of (h.ck e he)) (pk_s f.1) hd⟩
  obtain ⟨d2, k2⟩ := pk_refs (K := K) (H := H) (n := 1) (ps := D.map (·.1)) fun p hp => by
    obtain ⟨e, he, rfl⟩ := List.mem_map.mp hp
    obtain ⟨ds, hds⟩ := Dd.pk (K := K) (H := H) (n := 0) (h.ok e he)
    exact ⟨_, Xk.pk_tup (n := 0) (Xk.st_of (h.dd e he)) hds⟩
  rw [List.map_map] at k1 k2
  exact ⟨_, Xk.pk_tup2 (n := 2) (Xk.st_of h1) (Xk.pk_tup (n := 1) (Xk.st_of h2) k1) (Xk.pk_tup (n := 1) (Xk.st_of h3) k2)⟩
/-- texts in order, each once, with the same members, are the same -/
theorem srt_same {xs ys : List Str} (h1 : xs.Pairwise (fun a b : Str => a.cps.toList ≤ b.cps.toList)) (h2 : ys.Pairwise (fun a b : Str => a.cps.toList ≤ b.cps.toList)) (n1 : xs.Nodup) (n2 : ys.Nodup) (m : ∀ t, t ∈ xs ↔ t ∈ ys) : xs = ys := by
  have p : xs.Perm ys := (List.perm_ext_iff_of_nodup n1 n2).mpr m
  refine p.eq_of_pairwise (fun a b _ _ h h' => ?_) h1 h2
  have e := List.le_antisymm h h'
  cases a
  cases b
  exact congrArg Str.mk (Array.toList_inj.mp e)
/-- where the law's things stand -/
structure Pl where
  cs : Addr
  ms : Addr
  hi : Addr
  hx : Addr
  hc : Addr
  by_ : Addr
  rs : Addr
  ka : Addr
  n1 : rs ≠ hc
  n2 : ka ≠ rs
  n3 : ka ≠ hc
  n4 : cs ≠ rs
  n5 : cs ≠ hc
  n6 : ms ≠ rs
  n7 : ms ≠ hc
/-- what holds between two turns -/
structure Wd (K : PySem.W.Frag) (C CO CH CR : Addr) (s : Str) (H0 H : Hp) (p : Pl) (ks : List Str) (m : Int) (Z : List Pr) (R : List Cr) (B : List Addr) (kvs : List (List Key × V)) (i : Nat) : Prop where
  hcs : H p.cs = some (.lst (Z.map fun x => V.ref x.c))
  hms : H p.ms = some (.lst (Z.map fun x => V.ref x.md))
  hka : H p.ka = some (.lst (ks.map V.str))
  hZ : Z.length = 4
  hP : ∀ x ∈ Z, PrAt K C CO H x
  h2 : ∀ x ∈ Z, Two s (x.L.map (·.2))
  nc : (Z.map Pr.c).Nodup
  nm : (Z.map Pr.md).Nodup
  hh : HiI H CH p.hi p.hx m p.hc p.by_
  hhc : H p.hc = some (.lst (R.map fun r : Cr => V.ref r.a))
  hR : ∀ r ∈ R, Cr.at_ H CR r
  hRl : R.length ≤ i
  nR : (R.map Cr.a).Nodup
  hby : H p.by_ = some (.dT kvs)
  kl : kvs.length ≤ i
  hkv : ∀ r ∈ R, valV kvs (ky r.c r.n) = some (.ref r.a)
  up : ∀ r ∈ R, ∃ (j : Nat) (x : Pr), (j : Int) = r.c ∧ Z[j]? = some x ∧ r.n ≤ x.n
  op : ∀ (j : Nat) (x : Pr), Z[j]? = some x → x.cv ≠ .non → ∃ r ∈ R, r.c = j ∧ r.n = x.n
  hrs : H p.rs = some (.lst (B.map V.ref))
  hBl : B.length = R.length
  hB : ∀ (i : Nat) b r, B[i]? = some b → R[i]? = some r → H b = some (.lst r.xs)
  nB : B.Nodup
  hds : ∀ r ∈ R, ∃ ds, Xk.PkAll K H 5 r.xs ds
  sm : Same H0 H
  fP : Xk.Fr p.hi H0 ∧ Xk.Fr p.hc H0 ∧ Xk.Fr p.by_ H0 ∧ Xk.Fr p.rs H0
  fZ : ∀ x ∈ Z, Xk.Fr x.c H0 ∧ Xk.Fr x.md H0
  fR : ∀ r ∈ R, Xk.Fr r.a H0
  fB : ∀ b ∈ B, Xk.Fr b H0
section
variable {C CO CH CR : Addr} {s : Str} {H0 H H' : Hp} {p : Pl} {ks : List Str} {m : Int} {Z : List Pr} {R : List Cr} {B : List Addr} {kvs : List (List Key × V)} {i : Nat}
theorem Wd.same (w : Wd K C CO CH CR s H0 H p ks m Z R B kvs i) (e : Same H H') : Wd K C CO CH CR s H0 H' p ks m Z R B kvs i :=
  ⟨e _ _ w.hcs, e _ _ w.hms, e _ _ w.hka, w.hZ, fun x hx => (w.hP x hx).same e, w.h2, w.nc, w.nm, e _ _ w.hh, e _ _ w.hhc, fun r hr => e _ _ (w.hR r hr), w.hRl, w.nR, e _ _ w.hby, w.kl, w.hkv, w.up, w.op, e _ _ w.hrs, w.hBl,
    fun i b r h1 h2 => e _ _ (w.hB i b r h1 h2), w.nB, fun r hr => by obtain ⟨ds, h⟩ := w.hds r hr; exact ⟨ds, h.same e⟩, w.sm.trans e, w.fP, w.fZ, w.fR, w.fB⟩
theorem Wd.le (w : Wd K C CO CH CR s H0 H p ks m Z R B kvs i) {j : Nat} (h : i ≤ j) : Wd K C CO CH CR s H0 H p ks m Z R B kvs j :=
  { w with hRl := Nat.le_trans w.hRl h, kl := Nat.le_trans w.kl h }
/-- lists of beliefs are neither the records nor the calls -/
theorem Wd.rowsO (w : Wd K C CO CH CR s H0 H p ks m Z R B kvs i) {q : Addr} {L : List (Addr × Br)} (hL : RowsAt H q L) (hn : 1 ≤ L.length) : q ≠ p.rs ∧ q ≠ p.hc := by
  refine ⟨rows_ne hL hn w.hrs fun v hv => ?_, rows_ne hL hn w.hhc fun v hv => ?_⟩
  · obtain ⟨b, hb, rfl⟩ := List.mem_map.mp hv
    obtain ⟨j, hj⟩ := List.getElem?_of_mem hb
    obtain ⟨r, hr⟩ := Xk.lt_at (xs := R) (j := j) (by have z := Xk.at_lt hj; have y := w.hBl; omega)
    exact ⟨b, _, rfl, w.hB j b r hj hr, by show ¬ (3 = 0); omega⟩
  · obtain ⟨r, hr, rfl⟩ := List.mem_map.mp hv
    exact ⟨r.a, _, rfl, w.hR r hr, by show ¬ (100 + _ = 0); omega⟩
theorem Wd.recO (w : Wd K C CO CH CR s H0 H p ks m Z R B kvs i) {b : Addr} (hb : b ∈ B) : ∃ xs : List V, ∃ c : Int, H b = some (.lst (.int c :: xs)) := by
  obtain ⟨j, hj⟩ := List.getElem?_of_mem hb
  obtain ⟨r, hr⟩ := Xk.lt_at (xs := R) (j := j) (by have z := Xk.at_lt hj; have y := w.hBl; omega)
  exact ⟨_, r.c, w.hB j b r hj hr⟩
theorem int_ne {H : Hp} {b q : Addr} {c : Int} {xs ys : List V} (h : H b = some (.lst (.int c :: xs))) (h' : H q = some (.lst ys)) (n : ∀ v ∈ ys, ∀ c : Int, v ≠ .int c) : b ≠ q := fun z => by
  rw [z, h'] at h
  injection h with h
  injection h with h
  exact n (.int c) (by rw [h]; exact List.mem_cons_self ..) c rfl
theorem Kp.sm {S : List Addr} {H0 H1 H2 : Hp} (k : Kp S H1 H2) (e : Same H0 H1) (f : ∀ p ∈ S, Xk.Fr p H0) : Same H0 H2 := fun a o h => k a o (fun z => by
  rw [(f a z).is] at h
  cases h) (e _ _ h)
theorem nin6 {q a b c d e f : Addr} (h1 : q ≠ a) (h2 : q ≠ b) (h3 : q ≠ c) (h4 : q ≠ d) (h5 : q ≠ e) (h6 : q ≠ f) : q ∉ [a, b, c, d, e, f] := fun z => by
  simp only [List.mem_cons, List.not_mem_nil, or_false] at z
  rcases z with z | z | z | z | z | z
  · exact h1 z
  · exact h2 z
  · exact h3 z
  · exact h4 z
  · exact h5 z
  · exact h6 z
theorem nin4 {q a b c d : Addr} {B : List Addr} (h1 : q ≠ a) (h2 : q ≠ b) (h3 : q ≠ c) (h4 : q ≠ d) (h5 : q ∉ B) : q ∉ a :: b :: c :: d :: B := fun z => by
  rcases List.mem_cons.mp z with z | z
  · exact h1 z
  rcases List.mem_cons.mp z with z | z
  · exact h2 z
  rcases List.mem_cons.mp z with z | z
  · exact h3 z
  rcases List.mem_cons.mp z with z | z
  · exact h4 z
  · exact h5 z
theorem map_set_eq {α β : Type} {f : α → β} {l : List α} {i : Nat} {x y : α} (h : l[i]? = some x) (e : f y = f x) : (l.set i y).map f = l.map f := by
  refine List.ext_getElem? fun k => ?_
  rw [List.getElem?_map, List.getElem?_map, List.getElem?_set]
  by_cases c : i = k
  · subst c
    rw [if_pos rfl, h, if_pos (Xk.at_lt h)]
    show some (f y) = some (f x)
    rw [e]
  · rw [if_neg c]
theorem set_cases {α : Type} {l : List α} {i k : Nat} {x' y : α} (hy : (l.set i x')[k]? = some y) : (k = i ∧ y = x') ∨ (k ≠ i ∧ l[k]? = some y) := by
  rw [List.getElem?_set] at hy
  by_cases c : i = k
  · subst c
    rw [if_pos rfl] at hy
    split at hy
    · cases hy
      exact .inl ⟨rfl, rfl⟩
    · cases hy
  · rw [if_neg c] at hy
    exact .inr ⟨fun z => c z.symm, hy⟩
theorem set_mem {α : Type} {l : List α} {i : Nat} {x' y : α} (hy : y ∈ l.set i x') : y = x' ∨ ∃ k, k ≠ i ∧ l[k]? = some y := by
  obtain ⟨k, hk⟩ := List.getElem?_of_mem hy
  rcases set_cases hk with ⟨_, h⟩ | ⟨h1, h2⟩
  · exact .inl h
  · exact .inr ⟨k, h1, h2⟩
theorem nd_ne {α β : Type} {f : α → β} {l : List α} (n : (l.map f).Nodup) {i j : Nat} {x y : α} (hi : l[i]? = some x) (hj : l[j]? = some y) (h : i ≠ j) : f x ≠ f y := fun e => by
  have h1 : (l.map f)[i]? = some (f x) := Xk.map_at hi
  have h2 : (l.map f)[j]? = some (f x) := by rw [e]; exact Xk.map_at hj
  have h3 := Xk.at_lt h1
  exact h ((List.getElem?_inj h3 n).mp (h1.trans h2.symm))
theorem Wd.kc (w : Wd K C CO CH CR s H0 H p ks m Z R B kvs i) {x : Pr} (hx : x ∈ Z) {q : Addr} {o : HO} (h : H q = some o) (n : kd o ≠ 198) : q ≠ x.c := nk h (w.hP x hx).cl n
theorem Wd.km (w : Wd K C CO CH CR s H0 H p ks m Z R B kvs i) {x : Pr} (hx : x ∈ Z) {q : Addr} {o : HO} (h : H q = some o) (n : kd o ≠ 4) : q ≠ x.md := nk h (w.hP x hx).md n
theorem Wd.kh (w : Wd K C CO CH CR s H0 H p ks m Z R B kvs i) {q : Addr} {o : HO} (h : H q = some o) (n : kd o ≠ 201) : q ≠ p.hi := nk h w.hh n
theorem Wd.kb (w : Wd K C CO CH CR s H0 H p ks m Z R B kvs i) {q : Addr} {o : HO} (h : H q = some o) (n : kd o ≠ 5) : q ≠ p.by_ := nk h w.hby n
theorem Wd.kr (w : Wd K C CO CH CR s H0 H p ks m Z R B kvs i) {q : Addr} {o : HO} (h : H q = some o) (n : kd o ≠ 3) : q ≠ p.rs := nk h w.hrs n
theorem Wd.kl' (w : Wd K C CO CH CR s H0 H p ks m Z R B kvs i) {q : Addr} {o : HO} (h : H q = some o) (n : kd o ≠ 3) : q ≠ p.hc := nk h w.hhc n
theorem Wd.kB (w : Wd K C CO CH CR s H0 H p ks m Z R B kvs i) {q : Addr} {o : HO} (h : H q = some o) (n : kd o ≠ 3) : q ∉ B := fun z => by
  obtain ⟨xs, c, h'⟩ := w.recO z
  exact nk h h' n rfl
/-- rows by their names -/
theorem Wd.one (w : Wd K C CO CH CR s H0 H p ks m Z R B kvs i) {r r' : Cr} (hr : r ∈ R) (hr' : r' ∈ R) (e1 : r.c = r'.c) (e2 : r.n = r'.n) : r = r' := by
  have h1 := w.hkv r hr
  have h2 := w.hkv r' hr'
  rw [e1, e2, h2] at h1
  injection h1 with h1
  injection h1 with h1
  obtain ⟨k, hk⟩ := List.getElem?_of_mem hr
  obtain ⟨k', hk'⟩ := List.getElem?_of_mem hr'
  by_cases c : k = k'
  · rw [c, hk'] at hk
    exact (Option.some.inj hk).symm
  · exact absurd h1.symm (nd_ne w.nR hk hk' c)
theorem Wd.ask (w : Wd K C CO CH CR s H0 H p ks m Z R B kvs i) {j : Nat} {x : Pr} (hx : Z[j]? = some x) {H' : Hp} (k : Kp [x.md, x.c, p.hi, p.hc, p.by_, p.rs] H H')
    {oc odx d pl rq mpl : Addr} {e : Addr × Str × Int} {r T' : List (Addr × Str × Int)} {dd : PyData} (c1 : ClI H' C x.c x.dx x.bl (x.n + 1) (.ref oc)) (c2 : H' x.md = some (.dK [(Sum.inr "number", .int (x.n + 1)), (Sum.inr "open", .ref rq), (Sum.inr "beliefs", .ref x.mb)]))
    (o1 : OcI H' CO oc odx (x.n + 1) d pl) (o2 : H' rq = some (.tup [.str "request", .int (x.n + 1), .ref d, .ref mpl])) (o3 : RgAt H' pl (e :: r)) (o4 : RgAt H' mpl T') (o5 : (e :: r).map (·.2) = T'.map (·.2)) (o6 : ∀ z ∈ (e :: r).map (·.2), Ok z.1) (o7 : Xk.Pk K H' 4 (.ref d) dd)
    {rr rdx nb : Addr} (h1 : HiI H' CH p.hi p.hx (m + 1) p.hc p.by_) (h2 : H' p.hc = some (.lst ((R.map fun r : Cr => V.ref r.a) ++ [.ref rr]))) (h3 : H' p.by_ = some (.dT (putK kvs (ky j (x.n + 1)) (.ref rr)))) (h4 : CrI H' CR rr rdx j (x.n + 1) d m .non .non)
    (h5 : H' p.rs = some (.lst (B.map V.ref ++ [.ref nb]))) (h6 : H' nb = some (.lst [.int j, .int (x.n + 1), .ref d, .int m, .non, .non])) (f1 : Xk.Fr rr H) (f2 : Xk.Fr nb H) :
    Wd K C CO CH CR s H0 H' p ks (m + 1) (Z.set j { x with n := x.n + 1, cv := .ref oc, ov := .ref rq }) (R ++ [⟨rr, rdx, j, x.n + 1, d, m, .non, .non⟩]) (B ++ [nb]) (putK kvs (ky j (x.n + 1)) (.ref rr)) (i + 1) := by
  have hxm := List.mem_of_getElem? hx
  have px := w.hP x hxm
  have e198 : ∀ {q dx bl n cv}, kd (HO.ins q dx [("beliefs", .ref bl), ("number", .int n), ("call", cv)]) = 198 := by intros; show 100 + (Str.ofString "beliefs").cps.toList.headD 0 = 198; decide +kernel
  have e201 : kd (HO.ins CH p.hx [("events", .int m), ("_calls", .ref p.hc), ("_by_name", .ref p.by_)]) = 201 := by show 100 + (Str.ofString "events").cps.toList.headD 0 = 201; decide +kernel
  have e199 : ∀ {q dx c n d k v u}, kd (HO.ins q dx [("client", .int c), ("number", .int n), ("deal", .ref d), ("asked", .int k), ("answered", v), ("answer", u)]) = 199 := by intros; show 100 + (Str.ofString "client").cps.toList.headD 0 = 199; decide +kernel
  have t : Nt H [x.md, x.c, p.hi, p.hc, p.by_, p.rs] := by
    intro q hq
    simp only [List.mem_cons, List.not_mem_nil, or_false] at hq
    rcases hq with rfl | rfl | rfl | rfl | rfl | rfl
    · exact ⟨_, px.md, by show ¬ (4 = 0); omega, by show ¬ (4 = 1); omega, by show ¬ (4 = 210); omega⟩
    · exact ⟨_, px.cl, by rw [e198]; omega, by rw [e198]; omega, by rw [e198]; omega⟩
    · exact ⟨_, w.hh, by rw [e201]; omega, by rw [e201]; omega, by rw [e201]; omega⟩
    · exact ⟨_, w.hhc, by show ¬ (3 = 0); omega, by show ¬ (3 = 1); omega, by show ¬ (3 = 210); omega⟩
    · exact ⟨_, w.hby, by show ¬ (5 = 0); omega, by show ¬ (5 = 1); omega, by show ¬ (5 = 210); omega⟩
    · exact ⟨_, w.hrs, by show ¬ (3 = 0); omega, by show ¬ (3 = 1); omega, by show ¬ (3 = 210); omega⟩
  have sS : ∀ q ∈ [x.md, x.c, p.hi, p.hc, p.by_, p.rs], Xk.Fr q H0 := by
    have z1 := w.fP
    have z2 := w.fZ x hxm
    intro q hq
    simp only [List.mem_cons, List.not_mem_nil, or_false] at hq
    rcases hq with rfl | rfl | rfl | rfl | rfl | rfl
    · exact z2.2
    · exact z2.1
    · exact z1.1
    · exact z1.2.1
    · exact z1.2.2.1
    · exact z1.2.2.2
  -- a list that is neither
  have lq : ∀ {q : Addr} {xs : List V}, H q = some (.lst xs) → q ≠ p.rs → q ≠ p.hc → q ∉ [x.md, x.c, p.hi, p.hc, p.by_, p.rs] := fun h n1 n2 =>
    nin6 (w.km hxm h (by show ¬ (3 = 4); omega)) (w.kc hxm h (by show ¬ (3 = 198); omega)) (w.kh h (by show ¬ (3 = 201); omega)) n2 (w.kb h (by show ¬ (3 = 5); omega)) n1
  have rq' : ∀ {q : Addr} {L : List (Addr × Br)}, RowsAt H q L → Two s (L.map (·.2)) → q ∉ [x.md, x.c, p.hi, p.hc, p.by_, p.rs] := fun h h2 => by
    have z := h2.len
    rw [List.length_map] at z
    have y := w.rowsO h (by omega)
    exact lq h.lst y.1 y.2
  have x2 := w.h2 x hxm
  have x2' : Two s (x.M.map (·.2)) := by rw [← px.eq]; exact x2
  have bq : ∀ {b : Addr} {xs : List V}, b ∈ B → H b = some (.lst xs) → b ∉ [x.md, x.c, p.hi, p.hc, p.by_, p.rs] := fun hb h => by
    obtain ⟨ys, c, hc⟩ := w.recO hb
    refine lq h (int_ne hc w.hrs fun v hv c z => ?_) (int_ne hc w.hhc fun v hv c z => ?_)
    · obtain ⟨y, _, rfl⟩ := List.mem_map.mp hv
      cases z
    · obtain ⟨y, _, rfl⟩ := List.mem_map.mp hv
      cases z
  have crq : ∀ {r : Cr}, r ∈ R → r.a ∉ [x.md, x.c, p.hi, p.hc, p.by_, p.rs] := fun hr => by
    have h := w.hR _ hr
    exact nin6 (w.km hxm h (by rw [e199]; omega)) (w.kc hxm h (by rw [e199]; omega)) (w.kh h (by rw [e199]; omega)) (w.kl' h (by rw [e199]; omega)) (w.kb h (by rw [e199]; omega)) (w.kr h (by rw [e199]; omega))
  have px' : PrAt K C CO H' { x with n := x.n + 1, cv := .ref oc, ov := .ref rq } :=
    ⟨c1, c2, px.lt.kp k t (rq' px.lt x2), px.mt.kp k t (rq' px.mt x2'), px.eq, px.ok, .inr ⟨oc, odx, d, pl, rq, mpl, e, r, T', dd, rfl, rfl, o1, o2, o3, o4, o5, o6, o7⟩⟩
  have pk : Xk.Pk K H' 5 (.ref d) dd := o7.mono (by decide)
  refine ⟨?_, ?_, k _ _ (lq w.hka p.n2 p.n3) w.hka, ?_, ?_, ?_, ?_, ?_, h1, ?_, ?_, ?_, ?_, h3, ?_, ?_, ?_, ?_, ?_, ?_, ?_, ?_, ?_, k.sm w.sm sS, w.fP, ?_, ?_, ?_⟩
  · rw [map_set_eq (f := fun x => V.ref x.c) (y := { x with n := x.n + 1, cv := .ref oc, ov := .ref rq }) hx rfl]
    exact k _ _ (lq w.hcs p.n4 p.n5) w.hcs
  · rw [map_set_eq (f := fun x => V.ref x.md) (y := { x with n := x.n + 1, cv := .ref oc, ov := .ref rq }) hx rfl]
    exact k _ _ (lq w.hms p.n6 p.n7) w.hms
  · rw [List.length_set]
    exact w.hZ
  · intro y hy
    rcases set_mem hy with rfl | ⟨l, hl, hy⟩
    · exact px'
    · have hym := List.mem_of_getElem? hy
      have py := w.hP y hym
      have y2 := w.h2 y hym
      have y2' : Two s (y.M.map (·.2)) := by rw [← py.eq]; exact y2
      exact py.kp k t (nin6 (w.km hxm py.cl (by rw [e198]; omega)) (nd_ne w.nc hy hx hl) (w.kh py.cl (by rw [e198]; omega)) (w.kl' py.cl (by rw [e198]; omega)) (w.kb py.cl (by rw [e198]; omega)) (w.kr py.cl (by rw [e198]; omega)))
        (nin6 (nd_ne w.nm hy hx hl) (w.kc hxm py.md (by show ¬ (4 = 198); omega)) (w.kh py.md (by show ¬ (4 = 201); omega)) (w.kl' py.md (by show ¬ (4 = 3); omega)) (w.kb py.md (by show ¬ (4 = 5); omega)) (w.kr py.md (by show ¬ (4 = 3); omega))) (rq' py.lt y2) (rq' py.mt y2')
  · intro y hy
    rcases set_mem hy with rfl | ⟨l, hl, hy⟩
    · exact x2
    · exact w.h2 y (List.mem_of_getElem? hy)
  · rw [map_set_eq (f := Pr.c) (y := { x with n := x.n + 1, cv := .ref oc, ov := .ref rq }) hx rfl]
    exact w.nc
  · rw [map_set_eq (f := Pr.md) (y := { x with n := x.n + 1, cv := .ref oc, ov := .ref rq }) hx rfl]
    exact w.nm
  · rw [List.map_append]
    exact h2
  · intro r hr
    rcases List.mem_append.mp hr with hr | hr
    · exact k _ _ (crq hr) (w.hR r hr)
    · rw [List.mem_singleton.mp hr]
      exact h4
  · rw [List.length_append]
    exact Nat.succ_le_succ w.hRl
  · rw [List.map_append]
    refine List.nodup_append.mpr ⟨w.nR, List.pairwise_singleton _ _, fun u hu v hv z => ?_⟩
    obtain ⟨r, hr, rfl⟩ := List.mem_map.mp hu
    rw [List.mem_singleton.mp hv] at z
    exact Xk.ne_new f1 (w.hR r hr) z
  · exact Nat.le_trans (length_putK _ _ _) (Nat.succ_le_succ w.kl)
  · intro r hr
    rw [valV_put]
    rcases List.mem_append.mp hr with hr | hr
    · rw [if_neg]
      · exact w.hkv r hr
      · intro z
        injection z with z1 z2
        injection z2 with z2 _
        injection z1 with z1
        injection z2 with z2
        obtain ⟨l, y, hl, hy, hn⟩ := w.up r hr
        have e : l = j := by omega
        rw [e, hx] at hy
        cases hy
        omega
    · rw [List.mem_singleton.mp hr, if_pos rfl]
  · intro r hr
    rcases List.mem_append.mp hr with hr | hr
    · obtain ⟨l, y, hl, hy, hn⟩ := w.up r hr
      by_cases c : j = l
      · refine ⟨l, _, hl, by rw [← c, List.getElem?_set_self (Xk.at_lt hx)], ?_⟩
        rw [← c, hx] at hy
        cases hy
        show r.n ≤ x.n + 1
        omega
      · exact ⟨l, y, hl, by rw [List.getElem?_set_ne c]; exact hy, hn⟩
    · rw [List.mem_singleton.mp hr]
      exact ⟨j, _, rfl, List.getElem?_set_self (Xk.at_lt hx), Int.le_refl _⟩
  · intro l y hy hcv
    rcases set_cases hy with ⟨rfl, rfl⟩ | ⟨hl, hy⟩
    · exact ⟨_, List.mem_append_right _ (List.mem_singleton.mpr rfl), rfl, rfl⟩
    · obtain ⟨r, hr, z⟩ := w.op l y hy hcv
      exact ⟨r, List.mem_append_left _ hr, z⟩
  · rw [List.map_append]
    exact h5
  · rw [List.length_append, List.length_append, w.hBl]
    rfl
  · intro l b r hb hr
    by_cases c : l < B.length
    · rw [List.getElem?_append_left c] at hb
      rw [List.getElem?_append_left (by rw [← w.hBl]; exact c)] at hr
      have h := w.hB l b r hb hr
      exact k _ _ (bq (List.mem_of_getElem? hb) h) h
    · rw [List.getElem?_append_right (by omega)] at hb
      rw [List.getElem?_append_right (by rw [← w.hBl]; omega), ← w.hBl] at hr
      cases hz : l - B.length with
      | zero =>
        rw [hz] at hb hr
        cases hb
        cases hr
        exact h6
      | succ n =>
        rw [hz] at hb
        cases hb
  · refine List.nodup_append.mpr ⟨w.nB, List.pairwise_singleton _ _, fun u hu v hv z => ?_⟩
    rw [List.mem_singleton.mp hv] at z
    obtain ⟨xs, c, h⟩ := w.recO hu
    exact Xk.ne_new f2 h z
  · intro r hr
    rcases List.mem_append.mp hr with hr | hr
    · obtain ⟨ds, h⟩ := w.hds r hr
      exact ⟨ds, h.st (k.st t)⟩
    · rw [List.mem_singleton.mp hr]
      exact ⟨_, Xk.pk_cons Xk.pk_int (Xk.pk_cons Xk.pk_int (Xk.pk_cons pk (Xk.pk_cons Xk.pk_int (Xk.pk_cons Xk.pk_non (Xk.pk_cons Xk.pk_non Xk.pk_nil)))))⟩
  · intro y hy
    rcases set_mem hy with rfl | ⟨l, hl, hy⟩
    · exact w.fZ x hxm
    · exact w.fZ y (List.mem_of_getElem? hy)
  · intro r hr
    rcases List.mem_append.mp hr with hr | hr
    · exact w.fR r hr
    · rw [List.mem_singleton.mp hr]
      exact Xk.free_back f1 w.sm
  · intro b hb
    rcases List.mem_append.mp hb with hb | hb
    · exact w.fB b hb
    · rw [List.mem_singleton.mp hb]
      exact Xk.free_back f2 w.sm
/-- a row that is closed -/
def clR (j : Nat) (n m : Int) (an : Addr) (r : Cr) : Cr := if r.c = j ∧ r.n = n then { r with v := .int m, w := .ref an } else r
theorem clR_same (j : Nat) (n m : Int) (an : Addr) (r : Cr) : (clR j n m an r).a = r.a ∧ (clR j n m an r).c = r.c ∧ (clR j n m an r).n = r.n := by
  unfold clR
  split <;> exact ⟨rfl, rfl, rfl⟩
theorem Wd.close (w : Wd K C CO CH CR s H0 H p ks m Z R B kvs i) {j : Nat} {x : Pr} (hx : Z[j]? = some x) {r0 : Cr} (hr0 : r0 ∈ R) (hc0 : r0.c = j) (hn0 : r0.n = x.n) {H' : Hp} (k : Kp (x.md :: x.c :: p.hi :: r0.a :: B) H H') (hs : Ok s)
    {bl' mb' an : Addr} {L' M' : List (Addr × Br)} {d : PyData} (c1 : ClI H' C x.c x.dx bl' x.n .non) (c2 : H' x.md = some (.dK [(Sum.inr "number", .int x.n), (Sum.inr "open", .non), (Sum.inr "beliefs", .ref mb')]))
    (hL : RowsAt H' bl' L') (hM : RowsAt H' mb' M') (eLM : L'.map (·.2) = M'.map (·.2)) (t2 : Two s (L'.map (·.2)))
    (h1 : HiI H' CH p.hi p.hx (m + 1) p.hc p.by_) (h4 : CrI H' CR r0.a r0.dx r0.c r0.n r0.d r0.k (.int m) (.ref an))
    (h5 : ∀ (i : Nat) b r, B[i]? = some b → R[i]? = some r → H' b = some (.lst (clR j x.n m an r).xs)) (hpk : Xk.Pk K H' 4 (.ref an) d) :
    Wd K C CO CH CR s H0 H' p ks (m + 1) (Z.set j { x with bl := bl', L := L', mb := mb', M := M', cv := .non, ov := .non }) (R.map (clR j x.n m an)) B kvs (i + 1) := by
  have hxm := List.mem_of_getElem? hx
  have px := w.hP x hxm
  have cr0 := w.hR r0 hr0
  have e198 : ∀ {q dx bl n cv}, kd (HO.ins q dx [("beliefs", .ref bl), ("number", .int n), ("call", cv)]) = 198 := by intros; show 100 + (Str.ofString "beliefs").cps.toList.headD 0 = 198; decide +kernel
  have e201 : kd (HO.ins CH p.hx [("events", .int m), ("_calls", .ref p.hc), ("_by_name", .ref p.by_)]) = 201 := by show 100 + (Str.ofString "events").cps.toList.headD 0 = 201; decide +kernel
  have e199 : ∀ {q dx c n d k v u}, kd (HO.ins q dx [("client", .int c), ("number", .int n), ("deal", .ref d), ("asked", .int k), ("answered", v), ("answer", u)]) = 199 := by intros; show 100 + (Str.ofString "client").cps.toList.headD 0 = 199; decide +kernel
  have t : Nt H (x.md :: x.c :: p.hi :: r0.a :: B) := by
    intro q hq
    rcases List.mem_cons.mp hq with rfl | hq
    · exact ⟨_, px.md, by show ¬ (4 = 0); omega, by show ¬ (4 = 1); omega, by show ¬ (4 = 210); omega⟩
    rcases List.mem_cons.mp hq with rfl | hq
    · exact ⟨_, px.cl, by rw [e198]; omega, by rw [e198]; omega, by rw [e198]; omega⟩
    rcases List.mem_cons.mp hq with rfl | hq
    · exact ⟨_, w.hh, by rw [e201]; omega, by rw [e201]; omega, by rw [e201]; omega⟩
    rcases List.mem_cons.mp hq with rfl | hq
    · exact ⟨_, cr0, by rw [e199]; omega, by rw [e199]; omega, by rw [e199]; omega⟩
    · obtain ⟨xs, c, h⟩ := w.recO hq
      exact ⟨_, h, by show ¬ (3 = 0); omega, by show ¬ (3 = 1); omega, by show ¬ (3 = 210); omega⟩
  have sS : ∀ q ∈ x.md :: x.c :: p.hi :: r0.a :: B, Xk.Fr q H0 := by
    intro q hq
    rcases List.mem_cons.mp hq with rfl | hq
    · exact (w.fZ x hxm).2
    rcases List.mem_cons.mp hq with rfl | hq
    · exact (w.fZ x hxm).1
    rcases List.mem_cons.mp hq with rfl | hq
    · exact w.fP.1
    rcases List.mem_cons.mp hq with rfl | hq
    · exact w.fR r0 hr0
    · exact w.fB q hq
  have kr0 : ∀ {q : Addr} {o : HO}, H q = some o → kd o ≠ 199 → q ≠ r0.a := fun h n => nk h cr0 (by rw [e199]; exact n)
  -- a list without numbers
  have lq : ∀ {q : Addr} {xs : List V}, H q = some (.lst xs) → (∀ v ∈ xs, ∀ c : Int, v ≠ .int c) → q ∉ x.md :: x.c :: p.hi :: r0.a :: B := fun h n =>
    nin4 (w.km hxm h (by show ¬ (3 = 4); omega)) (w.kc hxm h (by show ¬ (3 = 198); omega)) (w.kh h (by show ¬ (3 = 201); omega)) (kr0 h (by show ¬ (3 = 199); omega)) fun z => by
      obtain ⟨xs, c, h'⟩ := w.recO z
      exact int_ne h' h n rfl
  have lrf : ∀ {α : Type} {f : α → Addr} {l : List α}, ∀ v ∈ l.map (fun y => V.ref (f y)), ∀ c : Int, v ≠ .int c := fun v hv c z => by
    obtain ⟨y, _, rfl⟩ := List.mem_map.mp hv
    cases z
  have oq : ∀ {q : Addr} {o : HO}, H q = some o → kd o ≠ 3 → kd o ≠ 4 → kd o ≠ 198 → kd o ≠ 199 → kd o ≠ 201 → q ∉ x.md :: x.c :: p.hi :: r0.a :: B := fun h n3 n4 n198 n199 n201 =>
    nin4 (w.km hxm h n4) (w.kc hxm h n198) (w.kh h n201) (kr0 h n199) (w.kB h n3)
  refine ⟨?_, ?_, k _ _ (lq w.hka fun v hv c z => ?_) w.hka, ?_, ?_, ?_, ?_, ?_, h1, ?_, ?_, ?_, ?_, k _ _ (oq w.hby (by show ¬ (5 = 3); omega) (by show ¬ (5 = 4); omega) (by show ¬ (5 = 198); omega) (by show ¬ (5 = 199); omega) (by show ¬ (5 = 201); omega)) w.hby, Nat.le_succ_of_le w.kl, ?_, ?_, ?_, k _ _ (lq w.hrs (lrf (f := id))) w.hrs, ?_, ?_, w.nB, ?_, k.sm w.sm sS, w.fP, ?_, ?_, w.fB⟩
  · rw [map_set_eq (f := fun x => V.ref x.c) (y := { x with bl := bl', L := L', mb := mb', M := M', cv := .non, ov := .non }) hx rfl]
    exact k _ _ (lq w.hcs lrf) w.hcs
  · rw [map_set_eq (f := fun x => V.ref x.md) (y := { x with bl := bl', L := L', mb := mb', M := M', cv := .non, ov := .non }) hx rfl]
    exact k _ _ (lq w.hms lrf) w.hms
  · obtain ⟨y, _, rfl⟩ := List.mem_map.mp hv
    cases z
  · rw [List.length_set]
    exact w.hZ
  · intro y hy
    rcases set_mem hy with rfl | ⟨l, hl, hy⟩
    · exact ⟨c1, c2, hL, hM, eLM, t2.ok hs, .inl ⟨rfl, rfl⟩⟩
    · have hym := List.mem_of_getElem? hy
      have py := w.hP y hym
      exact py.kp k t (nin4 (w.km hxm py.cl (by rw [e198]; omega)) (nd_ne w.nc hy hx hl) (w.kh py.cl (by rw [e198]; omega)) (kr0 py.cl (by rw [e198]; omega)) (w.kB py.cl (by rw [e198]; omega)))
        (nin4 (nd_ne w.nm hy hx hl) (w.kc hxm py.md (by show ¬ (4 = 198); omega)) (w.kh py.md (by show ¬ (4 = 201); omega)) (kr0 py.md (by show ¬ (4 = 199); omega)) (w.kB py.md (by show ¬ (4 = 3); omega))) (lq py.lt.lst lrf) (lq py.mt.lst lrf)
  · intro y hy
    rcases set_mem hy with rfl | ⟨l, hl, hy⟩
    · exact t2
    · exact w.h2 y (List.mem_of_getElem? hy)
  · rw [map_set_eq (f := Pr.c) (y := { x with bl := bl', L := L', mb := mb', M := M', cv := .non, ov := .non }) hx rfl]
    exact w.nc
  · rw [map_set_eq (f := Pr.md) (y := { x with bl := bl', L := L', mb := mb', M := M', cv := .non, ov := .non }) hx rfl]
    exact w.nm
  · have z : (R.map (clR j x.n m an)).map (fun r : Cr => V.ref r.a) = R.map fun r : Cr => V.ref r.a := by
      rw [List.map_map]
      refine List.map_congr_left fun r _ => ?_
      show V.ref (clR j x.n m an r).a = _
      rw [(clR_same j x.n m an r).1]
    rw [z]
    exact k _ _ (lq w.hhc lrf) w.hhc
  · intro r' hr'
    obtain ⟨r, hr, rfl⟩ := List.mem_map.mp hr'
    by_cases c : r.c = j ∧ r.n = x.n
    · have e := w.one hr hr0 (c.1.trans hc0.symm) (c.2.trans hn0.symm)
      have z : clR j x.n m an r = { r with v := .int m, w := .ref an } := if_pos c
      rw [z, e]
      exact h4
    · have z : clR j x.n m an r = r := if_neg c
      rw [z]
      have h := w.hR r hr
      refine k _ _ (nin4 (w.km hxm h (by rw [e199]; omega)) (w.kc hxm h (by rw [e199]; omega)) (w.kh h (by rw [e199]; omega)) (fun e => c ?_) (w.kB h (by rw [e199]; omega))) h
      obtain ⟨k1, g1⟩ := List.getElem?_of_mem hr
      obtain ⟨k2, g2⟩ := List.getElem?_of_mem hr0
      by_cases d : k1 = k2
      · rw [d, g2] at g1
        cases g1
        exact ⟨hc0, hn0⟩
      · exact absurd e (nd_ne w.nR g1 g2 d)
  · rw [List.length_map]
    exact Nat.le_succ_of_le w.hRl
  · have z : (R.map (clR j x.n m an)).map Cr.a = R.map Cr.a := by
      rw [List.map_map]
      exact List.map_congr_left fun r _ => (clR_same j x.n m an r).1
    rw [z]
    exact w.nR
  · intro r' hr'
    obtain ⟨r, hr, rfl⟩ := List.mem_map.mp hr'
    have z := clR_same j x.n m an r
    rw [z.1, z.2.1, z.2.2]
    exact w.hkv r hr
  · intro r' hr'
    obtain ⟨r, hr, rfl⟩ := List.mem_map.mp hr'
    have z := clR_same j x.n m an r
    rw [z.2.1, z.2.2]
    obtain ⟨l, y, hl, hy, hn⟩ := w.up r hr
    by_cases c : j = l
    · refine ⟨l, _, hl, by rw [← c, List.getElem?_set_self (Xk.at_lt hx)], ?_⟩
      rw [← c, hx] at hy
      cases hy
      exact hn
    · exact ⟨l, y, hl, by rw [List.getElem?_set_ne c]; exact hy, hn⟩
  · intro l y hy hcv
    rcases set_cases hy with ⟨rfl, rfl⟩ | ⟨hl, hy⟩
    · exact absurd rfl hcv
    · obtain ⟨r, hr, z1, z2⟩ := w.op l y hy hcv
      have z := clR_same j x.n m an r
      exact ⟨_, List.mem_map_of_mem hr, z.2.1.trans z1, z.2.2.trans z2⟩
  · rw [List.length_map]
    exact w.hBl
  · intro l b r' hb hr'
    obtain ⟨r, hr, rfl⟩ := Xk.of_map_at hr'
    exact h5 l b r hb hr
  · intro r' hr'
    obtain ⟨r, hr, rfl⟩ := List.mem_map.mp hr'
    obtain ⟨ds, h⟩ := w.hds r hr
    have h' := h.st (k.st t)
    by_cases c : r.c = j ∧ r.n = x.n
    · have z : clR j x.n m an r = { r with v := .int m, w := .ref an } := if_pos c
      rw [z]
      obtain ⟨d1, e1, rfl, p1, h'⟩ := h'.uncons
      obtain ⟨d2, e2, rfl, p2, h'⟩ := h'.uncons
      obtain ⟨d3, e3, rfl, p3, h'⟩ := h'.uncons
      obtain ⟨d4, e4, rfl, p4, h'⟩ := h'.uncons
      exact ⟨_, Xk.pk_cons p1 (Xk.pk_cons p2 (Xk.pk_cons p3 (Xk.pk_cons p4 (Xk.pk_cons Xk.pk_int (Xk.pk_cons (hpk.mono (by decide)) Xk.pk_nil)))))⟩
    · have z : clR j x.n m an r = r := if_neg c
      rw [z]
      exact ⟨ds, h'⟩
  · intro y hy
    rcases set_mem hy with rfl | ⟨l, hl, hy⟩
    · exact w.fZ x hxm
    · exact w.fZ y (List.mem_of_getElem? hy)
  · intro r' hr'
    obtain ⟨r, hr, rfl⟩ := List.mem_map.mp hr'
    rw [(clR_same j x.n m an r).1]
    exact w.fR r hr
theorem Wd.box (w : Wd K C CO CH CR s H0 H p ks m Z R B kvs i) {b : Addr} {n : Int} (hb : H b = some (.lst [.int n])) (k : Xk.But b H H') (fb : Xk.Fr b H0) : Wd K C CO CH CR s H0 H' p ks m Z R B kvs i := by
  have k' : Kp [b] H H' := (Kp.refl _ _).but k (List.mem_singleton.mpr rfl)
  have t : Nt H [b] := fun q hq => by
    rw [List.mem_singleton.mp hq]
    exact ⟨_, hb, by show ¬ (3 = 0); omega, by show ¬ (3 = 1); omega, by show ¬ (3 = 210); omega⟩
  have lq : ∀ {q : Addr} {xs : List V}, H q = some (.lst xs) → (∀ v ∈ xs, ∀ c : Int, v ≠ .int c) → q ≠ b := fun h n => (int_ne hb h n).symm
  have lrf : ∀ {α : Type} {f : α → Addr} {l : List α}, ∀ v ∈ l.map (fun y => V.ref (f y)), ∀ c : Int, v ≠ .int c := fun v hv c z => by
    obtain ⟨y, _, rfl⟩ := List.mem_map.mp hv
    cases z
  have oq : ∀ {q : Addr} {o : HO}, H q = some o → kd o ≠ 3 → q ≠ b := fun h n3 => nk h hb n3
  have n1 : ∀ {q : Addr}, q ≠ b → q ∉ [b] := fun h z => h (List.mem_singleton.mp z)
  have e198 : ∀ {q dx bl n cv}, kd (HO.ins q dx [("beliefs", .ref bl), ("number", .int n), ("call", cv)]) = 198 := by intros; show 100 + (Str.ofString "beliefs").cps.toList.headD 0 = 198; decide +kernel
  have e201 : kd (HO.ins CH p.hx [("events", .int m), ("_calls", .ref p.hc), ("_by_name", .ref p.by_)]) = 201 := by show 100 + (Str.ofString "events").cps.toList.headD 0 = 201; decide +kernel
  have e199 : ∀ {q dx c n d k v u}, kd (HO.ins q dx [("client", .int c), ("number", .int n), ("deal", .ref d), ("asked", .int k), ("answered", v), ("answer", u)]) = 199 := by intros; show 100 + (Str.ofString "client").cps.toList.headD 0 = 199; decide +kernel
  refine ⟨k _ _ (lq w.hcs lrf) w.hcs, k _ _ (lq w.hms lrf) w.hms, k _ _ (lq w.hka fun v hv c z => ?_) w.hka, w.hZ, fun x hx => ?_, w.h2, w.nc, w.nm, k _ _ (oq w.hh (by rw [e201]; omega)) w.hh, k _ _ (lq w.hhc lrf) w.hhc, fun r hr => k _ _ (oq (w.hR r hr) (by rw [e199]; omega)) (w.hR r hr), w.hRl, w.nR, k _ _ (oq w.hby (by show ¬ (5 = 3); omega)) w.hby, w.kl, w.hkv, w.up, w.op, k _ _ (lq w.hrs (lrf (f := id))) w.hrs, w.hBl,
    fun i c r h1 h2 => ?_, w.nB, fun r hr => by obtain ⟨ds, h⟩ := w.hds r hr; exact ⟨ds, h.st (k'.st t)⟩, k'.sm w.sm (fun q hq => by rw [List.mem_singleton.mp hq]; exact fb), w.fP, w.fZ, w.fR, w.fB⟩
  · obtain ⟨y, _, rfl⟩ := List.mem_map.mp hv
    cases z
  · have px := w.hP x hx
    exact px.kp k' t (n1 (oq px.cl (by rw [e198]; omega))) (n1 (oq px.md (by show ¬ (4 = 3); omega))) (n1 (lq px.lt.lst lrf)) (n1 (lq px.mt.lst lrf))
  · have h := w.hB i c r h1 h2
    exact k _ _ (ne_of_obj h hb (fun z => by injection z with z; cases z)) h
theorem Wd.six (w : Wd K C CO CH CR s H0 H p ks m Z R B kvs i) {j : Nat} {x : Pr} (hx : Z[j]? = some x) : Nt H [x.md, x.c, p.hi, p.hc, p.by_, p.rs] ∧ ∀ {q : Addr} {L : List (Addr × Br)}, (RowsAt H q L → Two s (L.map (·.2)) → q ∉ [x.md, x.c, p.hi, p.hc, p.by_, p.rs]) ∧ p.cs ∉ [x.md, x.c, p.hi, p.hc, p.by_, p.rs] := by
  have hxm := List.mem_of_getElem? hx
  have px := w.hP x hxm
  have e198 : ∀ {q dx bl n cv}, kd (HO.ins q dx [("beliefs", .ref bl), ("number", .int n), ("call", cv)]) = 198 := by intros; show 100 + (Str.ofString "beliefs").cps.toList.headD 0 = 198; decide +kernel
  have e201 : kd (HO.ins CH p.hx [("events", .int m), ("_calls", .ref p.hc), ("_by_name", .ref p.by_)]) = 201 := by show 100 + (Str.ofString "events").cps.toList.headD 0 = 201; decide +kernel
  have e199 : ∀ {q dx c n d k v u}, kd (HO.ins q dx [("client", .int c), ("number", .int n), ("deal", .ref d), ("asked", .int k), ("answered", v), ("answer", u)]) = 199 := by intros; show 100 + (Str.ofString "client").cps.toList.headD 0 = 199; decide +kernel
  have t : Nt H [x.md, x.c, p.hi, p.hc, p.by_, p.rs] := by
    intro q hq
    simp only [List.mem_cons, List.not_mem_nil, or_false] at hq
    rcases hq with rfl | rfl | rfl | rfl | rfl | rfl
    · exact ⟨_, px.md, by show ¬ (4 = 0); omega, by show ¬ (4 = 1); omega, by show ¬ (4 = 210); omega⟩
    · exact ⟨_, px.cl, by rw [e198]; omega, by rw [e198]; omega, by rw [e198]; omega⟩
    · exact ⟨_, w.hh, by rw [e201]; omega, by rw [e201]; omega, by rw [e201]; omega⟩
    · exact ⟨_, w.hhc, by show ¬ (3 = 0); omega, by show ¬ (3 = 1); omega, by show ¬ (3 = 210); omega⟩
    · exact ⟨_, w.hby, by show ¬ (5 = 0); omega, by show ¬ (5 = 1); omega, by show ¬ (5 = 210); omega⟩
    · exact ⟨_, w.hrs, by show ¬ (3 = 0); omega, by show ¬ (3 = 1); omega, by show ¬ (3 = 210); omega⟩
  -- a list that is neither
  have lq : ∀ {q : Addr} {xs : List V}, H q = some (.lst xs) → q ≠ p.rs → q ≠ p.hc → q ∉ [x.md, x.c, p.hi, p.hc, p.by_, p.rs] := fun h n1 n2 =>
    nin6 (w.km hxm h (by show ¬ (3 = 4); omega)) (w.kc hxm h (by show ¬ (3 = 198); omega)) (w.kh h (by show ¬ (3 = 201); omega)) n2 (w.kb h (by show ¬ (3 = 5); omega)) n1
  have rq' : ∀ {q : Addr} {L : List (Addr × Br)}, RowsAt H q L → Two s (L.map (·.2)) → q ∉ [x.md, x.c, p.hi, p.hc, p.by_, p.rs] := fun h h2 => by
    have z := h2.len
    rw [List.length_map] at z
    have y := w.rowsO h (by omega)
    exact lq h.lst y.1 y.2
  exact ⟨t, ⟨rq', lq w.hcs p.n4 p.n5⟩⟩
theorem DlAt.kp {S : List Addr} {H H' : Hp} {p : Addr} {Cs : List (Addr × Ck)} {D : List (Addr × Dd)} (h : DlAt H p Cs D) (k : Kp S H H') (t : Nt H S) : DlAt H' p Cs D := by
  obtain ⟨pc, pd, h1, h2, h3⟩ := h.tp
  exact ⟨⟨pc, pd, k.tup t h1, k.tup t h2, k.tup t h3⟩, fun e he => k.tup t (h.ck e he), fun e he => k.tup t (h.dd e he), h.fv, h.ok, h.cl, h.dl⟩
theorem x_els {c : TT} {A B : TS} {D : Ends} {σ : L2.St} {H : Hp} (Pf : Hp → Prop) (els : ∀ H1, Pf H1 → B D σ H1) (q : ∀ B' : TS, (∀ H1, Pf H1 → B' D σ H1) → tIfS c A B' D σ H) : tIfS c A B D σ H := q B els
theorem Wd.ne (w : Wd K C CO CH CR s H0 H p ks m Z R B kvs i) {j : Nat} {x : Pr} (hx : Z[j]? = some x) : x.c ≠ x.md ∧ p.hi ≠ x.md ∧ p.hc ≠ x.md ∧ p.by_ ≠ x.md ∧ p.rs ≠ x.md ∧ p.hi ≠ x.c ∧ p.hc ≠ x.c ∧ p.by_ ≠ x.c ∧ p.rs ≠ x.c ∧ p.rs ≠ p.hi ∧ p.rs ≠ p.hc ∧ p.rs ≠ p.by_ := by
  have hxm := List.mem_of_getElem? hx
  have px := w.hP x hxm
  have e198 : kd (HO.ins C x.dx [("beliefs", .ref x.bl), ("number", .int x.n), ("call", x.cv)]) = 198 := by show 100 + (Str.ofString "beliefs").cps.toList.headD 0 = 198; decide +kernel
  have e201 : kd (HO.ins CH p.hx [("events", .int m), ("_calls", .ref p.hc), ("_by_name", .ref p.by_)]) = 201 := by show 100 + (Str.ofString "events").cps.toList.headD 0 = 201; decide +kernel
  exact ⟨w.km hxm px.cl (by rw [e198]; omega), w.km hxm w.hh (by rw [e201]; omega), w.km hxm w.hhc (by show ¬ (3 = 4); omega), w.km hxm w.hby (by show ¬ (5 = 4); omega), w.km hxm w.hrs (by show ¬ (3 = 4); omega),
    w.kc hxm w.hh (by rw [e201]; omega), w.kc hxm w.hhc (by show ¬ (3 = 198); omega), w.kc hxm w.hby (by show ¬ (5 = 198); omega), w.kc hxm w.hrs (by show ¬ (3 = 198); omega), w.kh w.hrs (by show ¬ (3 = 201); omega), p.n1, w.kb w.hrs (by show ¬ (3 = 5); omega)⟩
theorem Kp.fr {S : List Addr} {q : Addr} (k : Kp S H H') (f : Xk.Fr q H') (n : ∀ a ∈ S, H' a ≠ none) : Xk.Fr q H := ⟨by
  cases e : H q with
  | none => rfl
  | some o =>
    by_cases c : q ∈ S
    · exact absurd f.is (n q c)
    · have z := k q o c e
      rw [f.is] at z
      cases z⟩
theorem nn6 {a b c d e f : Addr} {o1 o2 o3 o4 o5 o6 : HO} (h1 : H a = some o1) (h2 : H b = some o2) (h3 : H c = some o3) (h4 : H d = some o4) (h5 : H e = some o5) (h6 : H f = some o6) : ∀ q ∈ [a, b, c, d, e, f], H q ≠ none := fun q hq z => by
  simp only [List.mem_cons, List.not_mem_nil, or_false] at hq
  rcases hq with rfl | rfl | rfl | rfl | rfl | rfl
  · rw [h1] at z; cases z
  · rw [h2] at z; cases z
  · rw [h3] at z; cases z
  · rw [h4] at z; cases z
  · rw [h5] at z; cases z
  · rw [h6] at z; cases z
theorem Dd.okk {d : Dd} (h : d.ok) : Ok d.key := by
  cases d with
  | get k => exact h
  | del k => exact h
  | add k i => exact h
  | put k v => exact h.1
theorem Wd.five (w : Wd K C CO CH CR s H0 H p ks m Z R B kvs i) {j : Nat} {x : Pr} (hx : Z[j]? = some x) {r0 : Cr} (hr0 : r0 ∈ R) :
    Nt H (x.md :: x.c :: p.hi :: r0.a :: B) ∧ (∀ {q : Addr} {L : List (Addr × Br)}, RowsAt H q L → q ∉ x.md :: x.c :: p.hi :: r0.a :: B) ∧ r0.a ≠ x.md ∧ r0.a ≠ x.c ∧ r0.a ≠ p.hi ∧ p.rs ≠ r0.a ∧ p.by_ ≠ x.md ∧ p.by_ ≠ x.c ∧ x.md ∉ B ∧ x.c ∉ B ∧ p.hi ∉ B ∧ r0.a ∉ B ∧ p.rs ∉ B := by
  have hxm := List.mem_of_getElem? hx
  have px := w.hP x hxm
  have cr0 := w.hR r0 hr0
  have e198 : ∀ {q dx bl n cv}, kd (HO.ins q dx [("beliefs", .ref bl), ("number", .int n), ("call", cv)]) = 198 := by intros; show 100 + (Str.ofString "beliefs").cps.toList.headD 0 = 198; decide +kernel
  have e201 : kd (HO.ins CH p.hx [("events", .int m), ("_calls", .ref p.hc), ("_by_name", .ref p.by_)]) = 201 := by show 100 + (Str.ofString "events").cps.toList.headD 0 = 201; decide +kernel
  have e199 : ∀ {q dx c n d k v u}, kd (HO.ins q dx [("client", .int c), ("number", .int n), ("deal", .ref d), ("asked", .int k), ("answered", v), ("answer", u)]) = 199 := by intros; show 100 + (Str.ofString "client").cps.toList.headD 0 = 199; decide +kernel
  have t : Nt H (x.md :: x.c :: p.hi :: r0.a :: B) := by
    intro q hq
    rcases List.mem_cons.mp hq with rfl | hq
    · exact ⟨_, px.md, by show ¬ (4 = 0); omega, by show ¬ (4 = 1); omega, by show ¬ (4 = 210); omega⟩
    rcases List.mem_cons.mp hq with rfl | hq
    · exact ⟨_, px.cl, by rw [e198]; omega, by rw [e198]; omega, by rw [e198]; omega⟩
    rcases List.mem_cons.mp hq with rfl | hq
    · exact ⟨_, w.hh, by rw [e201]; omega, by rw [e201]; omega, by rw [e201]; omega⟩
    rcases List.mem_cons.mp hq with rfl | hq
    · exact ⟨_, cr0, by rw [e199]; omega, by rw [e199]; omega, by rw [e199]; omega⟩
    · obtain ⟨xs, c, h⟩ := w.recO hq
      exact ⟨_, h, by show ¬ (3 = 0); omega, by show ¬ (3 = 1); omega, by show ¬ (3 = 210); omega⟩
  have sS : ∀ q ∈ x.md :: x.c :: p.hi :: r0.a :: B, Xk.Fr q H0 := by
    intro q hq
    rcases List.mem_cons.mp hq with rfl | hq
    · exact (w.fZ x hxm).2
    rcases List.mem_cons.mp hq with rfl | hq
    · exact (w.fZ x hxm).1
    rcases List.mem_cons.mp hq with rfl | hq
    · exact w.fP.1
    rcases List.mem_cons.mp hq with rfl | hq
    · exact w.fR r0 hr0
    · exact w.fB q hq
  have kr0 : ∀ {q : Addr} {o : HO}, H q = some o → kd o ≠ 199 → q ≠ r0.a := fun h n => nk h cr0 (by rw [e199]; exact n)
  -- a list without numbers
  have lq : ∀ {q : Addr} {xs : List V}, H q = some (.lst xs) → (∀ v ∈ xs, ∀ c : Int, v ≠ .int c) → q ∉ x.md :: x.c :: p.hi :: r0.a :: B := fun h n =>
    nin4 (w.km hxm h (by show ¬ (3 = 4); omega)) (w.kc hxm h (by show ¬ (3 = 198); omega)) (w.kh h (by show ¬ (3 = 201); omega)) (kr0 h (by show ¬ (3 = 199); omega)) fun z => by
      obtain ⟨xs, c, h'⟩ := w.recO z
      exact int_ne h' h n rfl
  have lrf : ∀ {α : Type} {f : α → Addr} {l : List α}, ∀ v ∈ l.map (fun y => V.ref (f y)), ∀ c : Int, v ≠ .int c := fun v hv c z => by
    obtain ⟨y, _, rfl⟩ := List.mem_map.mp hv
    cases z
  have oq : ∀ {q : Addr} {o : HO}, H q = some o → kd o ≠ 3 → kd o ≠ 4 → kd o ≠ 198 → kd o ≠ 199 → kd o ≠ 201 → q ∉ x.md :: x.c :: p.hi :: r0.a :: B := fun h n3 n4 n198 n199 n201 =>
    nin4 (w.km hxm h n4) (w.kc hxm h n198) (w.kh h n201) (kr0 h n199) (w.kB h n3)
  exact ⟨t, fun h => lq h.lst lrf, w.km hxm cr0 (by rw [e199]; omega), w.kc hxm cr0 (by rw [e199]; omega), w.kh cr0 (by rw [e199]; omega), kr0 w.hrs (by show ¬ (3 = 199); omega), w.km hxm w.hby (by show ¬ (5 = 4); omega), w.kc hxm w.hby (by show ¬ (5 = 198); omega), w.kB px.md (by show ¬ (4 = 3); omega), w.kB px.cl (by rw [e198]; omega), w.kB w.hh (by rw [e201]; omega), w.kB cr0 (by rw [e199]; omega), fun z => lq w.hrs (lrf (f := id)) (List.mem_cons_of_mem _ (List.mem_cons_of_mem _ (List.mem_cons_of_mem _ (List.mem_cons_of_mem _ z))))⟩
theorem RowsAt.dk {H H' : Hp} {p x : Addr} {kvs : List (Key × V)} {L : List (Addr × Br)} (h : RowsAt H p L) (b : Xk.But x H H') (hx : H x = some (.dK kvs)) : RowsAt H' p L :=
  ⟨b _ _ (ne_of_obj h.lst hx (fun z => by cases z)) h.lst, fun e he => b _ _ (ne_of_obj (h.tup e he) hx (fun z => by cases z)) (h.tup e he)⟩
theorem Kp.mono {S S' : List Addr} (k : Kp S H H') (h : ∀ q ∈ S, q ∈ S') : Kp S' H H' := fun a o n e => k a o (fun z => n (h a z)) e
theorem Kp.trans {S : List Addr} {H1 H2 : Hp} (k : Kp S H H1) (k' : Kp S H1 H2) : Kp S H H2 := fun a o n e => k' a o n (k a o n e)
end
--CUT--
def sp_law (K : PySem.W.Frag) : Sp := fun vs H Q _ => ∃ (a : Addr) (ns : List Int), vs = [.ref a] ∧ SqL K H a (ns.map V.int) ∧ ns.length ≤ 63 ∧ ∀ H', Q (.bl true) H'
theorem ok_law (T : Txt K mg) : FnOk P w K mg base CX0 5 T.f_law T.d_law ["script"] (sp_law K) := by
  refine T.F_law.ok sc_law (fun vs H Q E h => ?_) (fun cdv A outer s H vs Q E hr h => ?_)
  · obtain ⟨a, ns, rfl, _⟩ := h
    rfl
  obtain ⟨a, ns, rfl, hS, hl, q⟩ := h
  have c0 := T.Cls_Client
  have e0 := T.Cls_OpenCall
  have g0 := T.Cls_History
  refine ⟨_, (pss_cons (ps_set (i := 1) sc_law.nd rfl (Or.inl rfl) (pe_lst (pa_cons (pe_call (ok__law_number T) (hr.mono (by decide)) (by rfl) T.g__law_number T.F__law_number.kp T.b__law_number .nil pass0 (pa_cons (pv 0) (pa_cons (pe_int) pa_nil))) pa_nil)))
      (pss_cons (ps_set (i := 2) sc_law.nd rfl (Or.inl rfl) (pe_call (ok__law_keys T) (hr.mono (by decide)) (by rfl) T.g__law_keys T.F__law_keys.kp T.b__law_keys .nil pass0 (pa_cons (pv 1) pa_nil)))
      (pss_cons (ps_set (i := 3) sc_law.nd rfl (Or.inl rfl) (pe_call (ok__law_key T) (hr.mono (by decide)) (by rfl) T.g__law_key T.F__law_key.kp T.b__law_key .nil pass0 (pa_cons (pv 1) (pa_cons (pe_str) pa_nil))))
      (pss_cons (ps_set (i := 4) sc_law.nd rfl (Or.inr rfl) (pe_tup (pa_cons (pe_tup (pa_cons (pe_str) (pa_cons (pe_op op_add (pe_int) (pe_call (ok__law_take T) (hr.mono (by decide)) (by rfl) T.g__law_take T.F__law_take.kp T.b__law_take .nil pass0 (pa_cons (pv 1) (pa_cons (pe_int) pa_nil)))) pa_nil))) (pa_cons (pe_tup (pa_cons (pv 3) (pa_cons (pe_op op_add (pe_int) (pe_call (ok__law_take T) (hr.mono (by decide)) (by rfl) T.g__law_take T.F__law_take.kp T.b__law_take .nil pass0 (pa_cons (pv 1) (pa_cons (pe_int) pa_nil)))) pa_nil))) pa_nil))))
      (pss_cons (ps_setLc (i := 5) (own := [("k", 11)]) (g := gName 11) (tt := tYes) rfl sc_law.nd rfl rfl (sw_true rfl rfl rfl (by decide +kernel)) (pi_range1 (by rfl) T.m_range (pa_cons (pe_int) pa_nil)) (blkOk_by (N := N_law) (sc := defScope s_law) (own := [("k", 11)]) (by decide +kernel)) (fun _ _ _ _ _ => pg_name (i := 11) sc_law.nd rfl (Or.inl rfl)) (fun _ _ _ _ _ => pts_nil) (fun _ _ _ _ _ => (pe_make T.Mk_Client (ok_Client___init__ T) (hr.mono (by decide)) (by rfl) T.g_Client T.b_Client___init__ .nil pass0 (pa_cons (pv 4) pa_nil))))
      (pss_cons (ps_setLc (i := 6) (own := [("k", 11)]) (g := gName 11) (tt := tYes) rfl sc_law.nd rfl rfl (sw_true rfl rfl rfl (by decide +kernel)) (pi_range1 (by rfl) T.m_range (pa_cons (pe_int) pa_nil)) (blkOk_by (N := N_law) (sc := defScope s_law) (own := [("k", 11)]) (by decide +kernel)) (fun _ _ _ _ _ => pg_name (i := 11) sc_law.nd rfl (Or.inl rfl)) (fun _ _ _ _ _ => pts_nil) (fun _ _ _ _ _ => (pe_disp (pps_cons (pe_str) (pe_int) (pps_cons (pe_str) (pe_non) (pps_cons (pe_str) (pe_call (ok_first_beliefs T) (hr.mono (by decide)) (by rfl) T.g_first_beliefs T.F_first_beliefs.kp T.b_first_beliefs .nil pass0 (pa_cons (pv 4) pa_nil)) pps_nil))) (by rfl) (by rfl) (fun z => by cases z) (by decide))))
      (pss_cons (ps_set (i := 7) sc_law.nd rfl (Or.inl rfl) (pe_make0 T.Mk_History (ok_History___init__ T) (hr.mono (by decide)) (by rfl) T.g_History T.b_History___init__ .nil pass0))
      (pss_cons (ps_set (i := 8) sc_law.nd rfl (Or.inl rfl) (pe_make T.Mk_OpenCall (ok_OpenCall___init__ T) (hr.mono (by decide)) (by rfl) T.g_OpenCall T.b_OpenCall___init__ .nil pass0 (pa_cons (pe_int) (pa_cons (pe_tup (pa_cons (pe_tup pa_nil) (pa_cons (pe_tup (pa_cons (pe_tup (pa_cons (pe_str) (pa_cons (pe_str) pa_nil))) pa_nil)) pa_nil))) (pa_cons (pe_tup (pa_cons (pe_tup (pa_cons (pe_str) (pa_cons (pe_int) pa_nil))) pa_nil)) pa_nil)))))
      (Evl.pss_cut (ps_if (PW.pt (pw_or (pt_cmpR op_ne (pe_prop (pv 8) T.Cls_OpenCall T.P_OpenCall_home (ok_OpenCall_home T) (hr.mono (by decide)) T.b_OpenCall_home .nil pass0 rfl) (pe_int) (nomark _)) (pw_or1 (pt_cmpR (Xk.k_neD (K := K) hr.units (by rfl)) (pe_meth0 (pv 8) T.Cls_OpenCall T.M_OpenCall_request (ok_OpenCall_request T) (hr.mono (by decide)) T.b_OpenCall_request .nil pass0) (pe_tup (pa_cons (pe_str) (pa_cons (pe_int) (pa_cons (pe_tup (pa_cons (pe_tup pa_nil) (pa_cons (pe_tup (pa_cons (pe_tup (pa_cons (pe_str) (pa_cons (pe_str) pa_nil))) pa_nil)) pa_nil))) (pa_cons (pe_tup (pa_cons (pe_tup (pa_cons (pe_str) (pa_cons (pe_int) pa_nil))) pa_nil)) pa_nil))))) (nomark _))))) (pss_one (ps_ret (pe_bl))) pss_nil)
      (pss_cons (ps_set (i := 9) sc_law.nd rfl (Or.inl rfl) (pe_lst pa_nil))
      (pss_cons (ps_set (i := 10) sc_law.nd rfl (Or.inl rfl) (pe_int))
      (pss_cons (ps_for PassesOwn.never rfl (pi_range1 (by rfl) T.m_range (pa_cons (pe_op op_add (pe_int) (pe_call (ok__law_take T) (hr.mono (by decide)) (by rfl) T.g__law_take T.F__law_take.kp T.b__law_take .nil pass0 (pa_cons (pv 1) (pa_cons (pe_int) pa_nil)))) pa_nil)) (pg_name (i := 11) sc_law.nd rfl (Or.inl rfl)) (pss_cons (ps_set (i := 1) sc_law.nd rfl (Or.inl rfl) (pe_lst (pa_cons (pe_call (ok__law_number T) (hr.mono (by decide)) (by rfl) T.g__law_number T.F__law_number.kp T.b__law_number .nil pass0 (pa_cons (pv 0) (pa_cons (pe_op op_add (pe_int) (pv 11)) pa_nil))) pa_nil)))
      (pss_cons (ps_set (i := 12) sc_law.nd rfl (Or.inl rfl) (pe_call (ok__law_take T) (hr.mono (by decide)) (by rfl) T.g__law_take T.F__law_take.kp T.b__law_take .nil pass0 (pa_cons (pv 1) (pa_cons (pe_int) pa_nil))))
      (pss_cons (ps_set (i := 13) sc_law.nd rfl (Or.inr rfl) (pe_ix (Xk.k_ixL (K := K) (by rfl)) (pv 6) (pv 12) (fun _ _ => rfl)))
      (Evl.pss_cut (ps_if (PW.pt (pw_and (pt_cmpR Xk.op_nIsN (pe_dget (hu_of hr) (pv 13) (pe_str) (fun _ _ => rfl)) (pe_non) (nomark _)) (pw_and1 (pt_cmpR op_gt (pe_call (ok__law_take T) (hr.mono (by decide)) (by rfl) T.g__law_take T.F__law_take.kp T.b__law_take .nil pass0 (pa_cons (pv 1) (pa_cons (pe_int) pa_nil))) (pe_int) (nomark _))))) (pss_cons (ps_set (i := 14) sc_law.nd rfl (Or.inl rfl) (pe_call (ok__law_deal T) (hr.mono (by decide)) (by rfl) T.g__law_deal T.F__law_deal.kp T.b__law_deal .nil pass0 (pa_cons (pv 1) (pa_cons (pv 2) (pa_cons (pe_dnewK) pa_nil)))))
      (pss_cons (ps_dput (hu_of hr) (pv 13) (pe_str) (pe_op op_add (pe_dget (hu_of hr) (pv 13) (pe_str) (fun _ _ => rfl)) (pe_int)) rfl)
      (pss_cons (ps_set (i := 15) sc_law.nd rfl (Or.inl rfl) (pe_callTy (Xk.k_tuple (K := K) (by rfl)) (by rfl) T.m_tuple (by decide +kernel) (pa_cons (pe_lc (own := [("key", 21)]) (g := gName 21) (tt := tYes) rfl sc_law.nd  (pi_list (pe_call (ok__law_names T) (hr.mono (by decide)) (by rfl) T.g__law_names T.F__law_names.kp T.b__law_names .nil pass0 (pa_cons (pv 14) pa_nil))) (blkOk_by (N := N_law) (sc := defScope s_law) (own := [("key", 21)]) (by decide +kernel)) (fun _ _ _ _ _ => pg_name (i := 21) sc_law.nd rfl (Or.inl rfl)) (fun _ _ _ _ _ => pts_nil) (fun _ _ _ _ _ => (pe_tup (pa_cons (pv 21) (pa_cons (pe_call (ok__law_cell T) (hr.mono (by decide)) (by rfl) T.g__law_cell T.F__law_cell.kp T.b__law_cell .nil pass0 (pa_cons (pe_dget (hu_of hr) (pv 13) (pe_str) (fun _ _ => rfl)) (pa_cons (pv 21) pa_nil))) pa_nil))))) pa_nil)))
      (pss_cons (ps_dput (hu_of hr) (pv 13) (pe_str) (pe_tup (pa_cons (pe_str) (pa_cons (pe_dget (hu_of hr) (pv 13) (pe_str) (fun _ _ => rfl)) (pa_cons (pv 14) (pa_cons (pv 15) pa_nil))))) rfl)
      (pss_cons (ps_expr (pe_meth (pe_ix (Xk.k_ixL (K := K) (by rfl)) (pv 5) (pv 12) (fun _ _ => rfl)) T.Cls_Client T.M_Client_begin (ok_Client_begin T) (hr.mono (by decide)) T.b_Client_begin .nil pass0 (pa_cons (pv 14) pa_nil)))
      (pss_cons (ps_expr (pe_meth (pv 7) T.Cls_History T.M_History_ask (ok_History_ask T) (hr.mono (by decide)) T.b_History_ask .nil pass0 (pa_cons (pv 12) (pa_cons (pe_dget (hu_of hr) (pv 13) (pe_str) (fun _ _ => rfl)) (pa_cons (pv 14) pa_nil)))))
      (pss_cons (ps_expr (pe_bm PySem.F.plainAttrs_list PySem.F.slot_list_append PySem.F.type_list_append mt_append (pv 9) (pa_cons (pe_lst (pa_cons (pv 12) (pa_cons (pe_dget (hu_of hr) (pv 13) (pe_str) (fun _ _ => rfl)) (pa_cons (pv 14) (pa_cons (pv 10) (pa_cons (pe_non) (pa_cons (pe_non) pa_nil))))))) pa_nil)))
      (pss_one (ps_set (i := 10) sc_law.nd rfl (Or.inl rfl) (pe_op op_add (pv 10) (pe_int))))))))))) (pss_cons (ps_set (i := 16) sc_law.nd rfl (Or.inl rfl) (pe_callB (Xk.call_nMax2 rfl) (by rfl) T.m_max (by decide +kernel) (pa_cons (pe_int) (pa_cons (pe_op op_add (pe_dget (hu_of hr) (pv 13) (pe_str) (fun _ _ => rfl)) (pe_ix (Xk.k_ixL (K := K) (by rfl)) (pe_lst (pa_cons (pe_int) (pa_cons (pe_int) (pa_cons (pe_int) (pa_cons (pe_un un_neg (pe_int)) (pa_cons (pe_int) pa_nil)))))) (pe_call (ok__law_take T) (hr.mono (by decide)) (by rfl) T.g__law_take T.F__law_take.kp T.b__law_take .nil pass0 (pa_cons (pv 1) (pa_cons (pe_int) pa_nil))) (fun _ _ => rfl))) pa_nil))))
      (pss_cons (ps_set (i := 17) sc_law.nd rfl (Or.inl rfl) (pe_call (ok__law_answer T) (hr.mono (by decide)) (by rfl) T.g__law_answer T.F__law_answer.kp T.b__law_answer .nil pass0 (pa_cons (pv 1) (pa_cons (pe_dget (hu_of hr) (pv 13) (pe_str) (fun _ _ => rfl)) pa_nil))))
      (pss_cons (ps_set (i := 18) sc_law.nd rfl (Or.inl rfl) ((pe_and (pe_cmpR Xk.op_nNotN (pe_dget (hu_of hr) (pv 13) (pe_str) (fun _ _ => rfl)) (pe_non) (nomark _)) (pe_one (pe_cmpR op_eq (pv 16) (pe_dget (hu_of hr) (pv 13) (pe_str) (fun _ _ => rfl)) (nomark _))))))
      (Evl.pss_cut (ps_if (pt_cmpR op_ne (pe_meth (pe_ix (Xk.k_ixL (K := K) (by rfl)) (pv 5) (pv 12) (fun _ _ => rfl)) T.Cls_Client T.M_Client_hear (ok_Client_hear T) (hr.mono (by decide)) T.b_Client_hear .nil pass0 (pa_cons (pv 16) (pa_cons (pv 17) pa_nil))) (pv 18) (nomark _)) (pss_one (ps_ret (pe_bl))) pss_nil)
      (pss_one (ps_if (pt_val (pv 18)) (pss_cons (ps_dput (hu_of hr) (pv 13) (pe_str) (pe_non) rfl)
      (Evl.pss_cut (ps_if (pt_cmpR op_eq (pe_ix (Xk.k_ixT (K := K) (by rfl)) (pv 17) (pe_int) (fun _ _ => rfl)) (pe_str) (nomark _)) (pss_one (ps_for PassesOwn.never rfl (pi_tup (pe_ix (Xk.k_ixT (K := K) (by rfl)) (pv 17) (pe_int) (fun _ _ => rfl))) (pg_name (i := 19) sc_law.nd rfl (Or.inl rfl)) (pss_one (ps_dput (hu_of hr) (pv 13) (pe_str) (pe_call (ok_learned T) (hr.mono (by decide)) (by rfl) T.g_learned T.F_learned.kp T.b_learned .nil pass0 (pa_cons (pe_dget (hu_of hr) (pv 13) (pe_str) (fun _ _ => rfl)) (pa_cons (pv 19) pa_nil))) rfl)))) pss_nil)
      (pss_cons (ps_expr (pe_meth (pv 7) T.Cls_History T.M_History_close (ok_History_close T) (hr.mono (by decide)) T.b_History_close .nil pass0 (pa_cons (pv 12) (pa_cons (pv 16) (pa_cons (pv 17) pa_nil)))))
      (pss_cons (ps_for PassesOwn.never rfl (pi_list (pv 9)) (pg_name (i := 20) sc_law.nd rfl (Or.inl rfl)) (pss_one (ps_if (pt_cmpR (Xk.k_eqD (K := K) hr.units (by rfl)) (pe_slice (Xk.k_slL (K := K) (by rfl)) (pv 20) po_none (po_some (pe_int))) (pe_lst (pa_cons (pv 12) (pa_cons (pv 16) pa_nil))) (nomark _)) (pss_cons (ps_asg (pv 10) (pg_sub (pv 20) (pe_int) set_list))
      (pss_one (ps_asg (pv 17) (pg_sub (pv 20) (pe_int) set_list)))) pss_nil)))
      (pss_one (ps_set (i := 10) sc_law.nd rfl (Or.inl rfl) (pe_op op_add (pv 10) (pe_int)))))))) pss_nil)))))))
      (pss_one (ps_if (pt_not (pt_val (pe_call (ok__law_agrees T) (hr.mono (by decide)) (by rfl) T.g__law_agrees T.F__law_agrees.kp T.b__law_agrees .nil pass0 (pa_cons (pv 5) (pa_cons (pv 6) (pa_cons (pv 7) (pa_cons (pv 9) (pa_cons (pv 10) pa_nil)))))))) (pss_one (ps_ret (pe_bl))) pss_nil)))))))
      (pss_one (ps_ret (pe_bl))))))))))))))), ?_⟩
  wtm_at "x0"
  wtm_at "xs"
  refine ⟨_, _, ns, rfl, hS, hl, by omega, by omega, fun n1 hn1 => ?_⟩
  wtm_at "xs"
  intro b H1 hb s1 hb1
  wtm_at "xs"
  refine ⟨b, n1, rfl, hb1, fun H2 f n2 ks hf b2 hb2 hf2 hok hl5 hl1 => ?_⟩
  wtm_at "xs"
  refine ⟨b, n2, "m", rfl, hb2, by decide, by decide, fun H3 n3 s b3 hb3 hsok hslen => ?_⟩
  have hf3 := b3 _ _ (Xk.ne_new hf hb1).symm hf2
  wtm_at "xs"
  refine draw hb3 ⟨by decide, by decide⟩ fun j4 n4 H4 hj4 b4 hb4 => ?_
  have hf4 := b4 _ _ (Xk.ne_new hf hb1).symm hf3
  wtm_at "xs"
  intro t5 H5 ht5 s5 h5
  wtm_at "xs"
  refine draw (s5 _ _ hb4) ⟨by decide, by decide⟩ fun j6 n6 H6 hj6 b6 hb6 => ?_
  have hf6 := b6 _ _ (Xk.ne_new hf hb1).symm (s5 _ _ hf4)
  have h56 := b6 _ _ (Xk.ne_new ht5 hb4).symm h5
  wtm_at "xs"
  intro t7 H7 ht7 s7 h7
  wtm_at "xs"
  intro rg H8 hrg s8 h8
  have hR8 : RgAt H8 rg [(t5, "", 1 + (j4 : Int)), (t7, s, 1 + (j6 : Int))] := ⟨h8, fun e he => by
    rcases List.mem_cons.mp he with rfl | he
    · exact s8 _ _ (s7 _ _ h56)
    · rw [List.mem_singleton.mp he]
      exact s8 _ _ h7⟩
  have hf8 := s8 _ _ (s7 _ _ hf6)
  have hn0 : (LT.lt (Array.toList (PySem.Str.cps "")) (Array.toList (PySem.Str.cps s))) := by
    cases s with
    | mk c =>
      cases hc : c.toList with
      | nil =>
        have z : ("m" : Str).length ≤ c.size := hslen
        rw [← Array.length_toList, hc] at z
        exact absurd z (by decide)
      | cons x r =>
        exact List.nil_lt_cons _ _
  have h2L : ∀ {L : List (Addr × Br)}, L.map (·.2) = firstR ([(t5, (Str.ofString "", 1 + (j4 : Int))), (t7, (s, 1 + (j6 : Int)))].map (·.2)) → Two s (L.map (·.2)) := fun e => ⟨_, _, _, _, e⟩
  have s08 : Same H H8 := (Xk.same_but b6 hb ((Xk.same_but b4 hb (Xk.same_but b3 hb (Xk.same_but b2 hb s1))).trans s5)).trans (s7.trans s8)
  have hb8 := s8 _ _ (s7 _ _ hb6)
  have nbf : f ≠ b := (Xk.ne_new hf hb1).symm
  clear b2 b3 b4 b6 hb1 hb2 hb3 hb4 hb6 hf2 hf3 hf4 hf6 s5 s7 s8 h5 h56 h7 ht5 ht7 h8 s1
  wtm_at "xs"
  refine Xk.x_lcR (m := 4) (fun Dl i H' => Same H8 H' ∧ ∃ Y : List (Addr × Addr × Addr × List (Addr × Br)), H' Dl = some (.lst (Y.map fun y => V.ref y.1)) ∧ Y.length = i ∧ (∀ y ∈ Y, ClI H' T.C_Client y.1 y.2.1 y.2.2.1 0 .non ∧ RowsAt H' y.2.2.1 y.2.2.2 ∧ y.2.2.2.map (·.2) = firstR ([(t5, (Str.ofString "", 1 + (j4 : Int))), (t7, (s, 1 + (j6 : Int)))].map (·.2))) ∧ (Y.map (·.1)).Nodup ∧ ∀ y ∈ Y, Xk.Fr y.1 H8) ⟨by decide, by decide⟩ ?_ ?_ ?_
  · intro Dl hD
    exact ⟨Xk.same_fr hD, [], upd_same, rfl, fun y hy => (by cases hy), .nil, fun y hy => (by cases hy)⟩
  · rintro Dl hD i H' hi ⟨s9, Y, y1, y2, y3, y4, y5⟩
    wtm_at "xs"
    refine ⟨rfl, ?_⟩
    wtm_at "xs"
    refine Xk.x_rMake fun x dx H9 hx hdx hn s10 h10 h11 => ?_
    refine ⟨x, dx, rg, _, rfl, h11, hR8.same (s9.trans s10), Nat.le_of_ble_eq_true rfl, Nat.le_of_ble_eq_true rfl, fun H10 bl L hbl b10 h12 hL eL => ⟨rfl, ?_⟩⟩
    have s11 : Same H' H10 := Xk.same_but b10 hx s10
    refine ⟨_, s11 _ _ y1, Xk.size_lt (by rw [List.length_map]; omega), Xk.same_mut (s9.trans s11) hD, Y ++ [(x, dx, bl, L)], by rw [upd_same, List.map_append]; rfl, by rw [List.length_append, y2]; rfl, ?_, ?_, fun y hy => ?_⟩
    · intro y hy
      rcases List.mem_append.mp hy with hy | hy
      · obtain ⟨z1, z2, z3⟩ := y3 y hy
        have nd : y.2.2.1 ≠ Dl := rows_ne z2 (by have z := (h2L z3).len; rw [List.length_map] at z; omega) y1 fun v hv => by
          obtain ⟨u, hu, rfl⟩ := List.mem_map.mp hv
          exact ⟨u.1, _, rfl, (y3 u hu).1, by show ¬ (100 + _ = 0); omega⟩
        exact ⟨(upd_ne (ne_of_obj z1 y1 (fun z => by cases z))).trans (s11 _ _ z1), (z2.same s11).butL (Xk.but_mut (Xk.But.refl _ _)) (s11 _ _ y1) nd, z3⟩
      · rw [List.mem_singleton.mp hy]
        exact ⟨(upd_ne (Xk.ne_new hx y1).symm).trans h12, hL.butL (Xk.but_mut (Xk.But.refl _ _)) (s11 _ _ y1) (Xk.ne_new hbl (s10 _ _ y1)).symm, eL⟩
    · rw [List.map_append]
      refine List.nodup_append.mpr ⟨y4, List.pairwise_singleton _ _, fun u hu v hv e => ?_⟩
      obtain ⟨y, hy, rfl⟩ := List.mem_map.mp hu
      rw [List.mem_singleton.mp hv] at e
      exact Xk.ne_new hx (y3 y hy).1 e
    · rcases List.mem_append.mp hy with hy | hy
      · exact y5 y hy
      · rw [List.mem_singleton.mp hy]
        exact Xk.free_back hx s9
  rintro cs H9 hcs ⟨s9, Y, y1, y2, y3, y4, y5⟩
  wtm_at "xs"
  refine Xk.x_lcR (m := 4) (fun Dl i H' => Same H9 H' ∧ ∃ Z : List Pr, H' Dl = some (.lst (Z.map fun x => V.ref x.md)) ∧ Z.length = i ∧ Z.map (fun x => (x.c, x.dx, x.bl, x.L)) = Y.take i ∧ (∀ x ∈ Z, H' x.md = some (.dK [(Sum.inr "number", .int 0), (Sum.inr "open", .non), (Sum.inr "beliefs", .ref x.mb)]) ∧ RowsAt H' x.mb x.M ∧ x.M.map (·.2) = firstR ([(t5, (Str.ofString "", 1 + (j4 : Int))), (t7, (s, 1 + (j6 : Int)))].map (·.2)) ∧ x.n = 0 ∧ x.cv = .non ∧ x.ov = .non) ∧ (Z.map Pr.md).Nodup ∧ ∀ x ∈ Z, Xk.Fr x.md H9) ⟨by decide, by decide⟩ ?_ ?_ ?_
  · intro Dl hD
    exact ⟨Xk.same_fr hD, [], upd_same, rfl, rfl, fun y hy => (by cases hy), .nil, fun y hy => (by cases hy)⟩
  · rintro Dl hD i H' hi ⟨s10, Z, z1, z2, z3, z4, z5, z6⟩
    wtm_at "xs"
    refine ⟨rfl, ?_⟩
    wtm_at "xs"
    refine Xk.x_disp fun md hmd => ?_
    have sm : Same H' (upd H' md (.dK [])) := Xk.same_fr hmd
    wtm_at "xs"
    refine ⟨rg, _, rfl, hR8.same (s9.trans (s10.trans sm)), Nat.le_of_ble_eq_true rfl, Nat.le_of_ble_eq_true rfl, fun H11 mb M s11 hmb hM eM => ?_⟩
    wtm_at "xs"
    have md1 : H11 md = some (.dK []) := s11 _ _ upd_same
    refine ⟨md1, [(Sum.inr "number", .int 0), (Sum.inr "open", .non), (Sum.inr "beliefs", .ref mb)], rfl, Nat.le_of_ble_eq_true rfl, ?_⟩
    have sH : Same H' (upd H11 md (.dK [(Sum.inr "number", .int 0), (Sum.inr "open", .non), (Sum.inr "beliefs", .ref mb)])) := Xk.same_mut (sm.trans s11) hmd
    obtain ⟨y, hy⟩ := Xk.lt_at (xs := Y) (j := i) (by omega)
    have nmd : mb ≠ md := (Xk.ne_new hmb (upd_same : upd H' md (.dK []) md = _)).symm
    have hM2 : RowsAt (upd H11 md (.dK [(Sum.inr "number", .int 0), (Sum.inr "open", .non), (Sum.inr "beliefs", .ref mb)])) mb M := ⟨(upd_ne nmd).trans hM.lst, fun e he => (upd_ne (ne_of_obj (hM.tup e he) md1 (fun z => by cases z))).trans (hM.tup e he)⟩
    refine ⟨_, sH _ _ z1, Xk.size_lt (by rw [List.length_map]; omega), Xk.same_mut (s10.trans sH) hD, Z ++ [⟨y.1, y.2.1, y.2.2.1, md, mb, 0, y.2.2.2, M, .non, .non⟩], by rw [upd_same, List.map_append]; rfl, by rw [List.length_append, z2]; rfl, ?_, ?_, ?_, fun x hx => ?_⟩
    · rw [List.map_append, z3, List.take_add_one, hy]
      rfl
    · intro x hx
      rcases List.mem_append.mp hx with hx | hx
      · obtain ⟨w1, w2, w3, w4⟩ := z4 x hx
        have nd : x.mb ≠ Dl := rows_ne w2 (by have z := (h2L w3).len; rw [List.length_map] at z; omega) z1 fun v hv => by
          obtain ⟨u, hu, rfl⟩ := List.mem_map.mp hv
          exact ⟨u.md, _, rfl, (z4 u hu).1, by show ¬ (4 = 0); omega⟩
        exact ⟨(upd_ne (ne_of_obj w1 z1 (fun z => by cases z))).trans (sH _ _ w1), (w2.same sH).butL (Xk.but_mut (Xk.But.refl _ _)) (sH _ _ z1) nd, w3, w4⟩
      · rw [List.mem_singleton.mp hx]
        refine ⟨(upd_ne (Xk.ne_new hmd z1).symm).trans upd_same, hM2.butL (Xk.but_mut (Xk.But.refl _ _)) (sH _ _ z1) ?_, eM, rfl, rfl, rfl⟩
        exact (Xk.ne_new hmb (sm _ _ z1)).symm
    · rw [List.map_append]
      refine List.nodup_append.mpr ⟨z5, List.pairwise_singleton _ _, fun u hu v hv e => ?_⟩
      obtain ⟨x, hx, rfl⟩ := List.mem_map.mp hu
      rw [List.mem_singleton.mp hv] at e
      exact Xk.ne_new hmd (z4 x hx).1 e
    · rcases List.mem_append.mp hx with hx | hx
      · exact z6 x hx
      · rw [List.mem_singleton.mp hx]
        exact Xk.free_back hmd s10
  rintro ms H10 hms ⟨s10, Z, z1, z2, z3, z4, z5, z6⟩
  wtm_at "xs"
  refine Xk.x_rMake fun hi hx H11 hhi hhx hhn s11 h12 h13 => ?_
  refine ⟨hi, hx, rfl, h13, fun H12 hc by_ hhc hby hcb b12 hh hhcl hhby => ⟨rfl, ?_⟩⟩
  have s12 : Same H10 H12 := Xk.same_but b12 hhi s11
  replace hhc := Xk.free_back hhc s11
  replace hby := Xk.free_back hby s11
  clear b12 s11 h12 h13
  wtm_at "xs"
  intro u1 H13 hu1 s13 g1
  wtm_at "xs"
  intro u2 H14 hu2 s14 g2
  wtm_at "xs"
  intro u3 H15 hu3 s15 g3
  wtm_at "xs"
  intro u4 H16 hu4 s16 g4
  wtm_at "xs"
  intro u5 H17 hu5 s17 g5
  wtm_at "xs"
  intro u6 H18 hu6 s18 g6
  wtm_at "xs"
  refine Xk.x_rMake fun oc odx H19 hoc hodx hon s19 h20 h21 => ?_
  refine ⟨oc, odx, 7, u4, u6, rfl, h21, fun H20 b20 hoc2 => ⟨rfl, ?_⟩⟩
  have s20 : Same H18 H20 := Xk.same_but b20 hoc s19
  have g1' := (s14.trans (s15.trans (s16.trans (s17.trans (s18.trans s20))))) _ _ g1
  have g2' := (s15.trans (s16.trans (s17.trans (s18.trans s20)))) _ _ g2
  have g3' := (s16.trans (s17.trans (s18.trans s20))) _ _ g3
  have g4' := (s17.trans (s18.trans s20)) _ _ g4
  have g5' := (s18.trans s20) _ _ g5
  have g6' := s20 _ _ g6
  have sA : Same H12 H20 := s13.trans (s14.trans (s15.trans (s16.trans (s17.trans (s18.trans s20)))))
  clear b20 s19 h20 h21 g1 g2 g3 g4 g5 g6 s13 s14 s15 s16 s17 s18 s20
  refine Xk.x_nocut ?_
  wtm_at "xs"
  refine ⟨oc, odx, 7, u4, u6, (u5, "a", 3), [], rfl, hoc2, ⟨g6', fun e he => by rw [List.mem_singleton.mp he]; exact g5'⟩, ?_⟩
  wtm_at "xs"
  refine ⟨oc, odx, 7, u4, u6, rfl, hoc2, fun H21 v1 hv1 s21 k1 => ?_⟩
  wtm_at "xs"
  intro w1 H22 hw1 s22 k2
  wtm_at "xs"
  intro w2 H23 hw2 s23 k3
  wtm_at "xs"
  intro w3 H24 hw3 s24 k4
  wtm_at "xs"
  intro w4 H25 hw4 s25 k5
  wtm_at "xs"
  intro w5 H26 hw5 s26 k6
  wtm_at "xs"
  intro w6 H27 hw6 s27 k7
  wtm_at "xs"
  intro w7 H28 hw7 s28 k8
  have s78 := s28
  have s68 := s27.trans s28
  have s58 := s26.trans s68
  have s48 := s25.trans s58
  have s38 := s24.trans s48
  have s2_8 := s23.trans s38
  have s18 := s22.trans s2_8
  have sB := s21.trans s18
  have pa : Xk.Pk K H28 4 (.ref v1) _ := Xk.pk_tup (n := 3) (Xk.st_of (s18 _ _ k1)) (Xk.pk_cons Xk.pk_str (Xk.pk_cons Xk.pk_int (Xk.pk_cons
    (Xk.pk_tup2 (n := 2) (Xk.st_of (sB _ _ g4')) (Xk.pk_tup (n := 1) (Xk.st_of (sB _ _ g1')) Xk.pk_nil) (Xk.pk_tup1 (n := 1) (Xk.st_of (sB _ _ g3')) (Xk.pk_tup2 (n := 0) (Xk.st_of (sB _ _ g2')) Xk.pk_str Xk.pk_str)))
    (Xk.pk_cons (Xk.pk_tup1 (n := 2) (Xk.st_of (sB _ _ g6')) (Xk.pk_tup2 (n := 1) (Xk.st_of (sB _ _ g5')) Xk.pk_str Xk.pk_int)) Xk.pk_nil))))
  have pb : Xk.Pk K H28 4 (.ref w7) _ := Xk.pk_tup (n := 3) (Xk.st_of k8) (Xk.pk_cons Xk.pk_str (Xk.pk_cons Xk.pk_int (Xk.pk_cons
    (Xk.pk_tup2 (n := 2) (Xk.st_of (s58 _ _ k5)) (Xk.pk_tup (n := 1) (Xk.st_of (s2_8 _ _ k2)) Xk.pk_nil) (Xk.pk_tup1 (n := 1) (Xk.st_of (s48 _ _ k4)) (Xk.pk_tup2 (n := 0) (Xk.st_of (s38 _ _ k3)) Xk.pk_str Xk.pk_str)))
    (Xk.pk_cons (Xk.pk_tup1 (n := 2) (Xk.st_of (s78 _ _ k7)) (Xk.pk_tup2 (n := 1) (Xk.st_of (s68 _ _ k6)) Xk.pk_str Xk.pk_int)) Xk.pk_nil))))
  refine Xk.x_nePk (n := 4) (m := 4) pa pb ?_
  wtm_at "xs"
  have sC : Same H12 H28 := sA.trans sB
  clear pa pb s78 s68 s58 s48 s38 s2_8 s18 sA sB k1 k2 k3 k4 k5 k6 k7 k8 g1' g2' g3' g4' g5' g6' s21 s22 s23 s24 s25 s26 s27 s28
  intro rs H29 hrs s29 hrs2
  have sD : Same H8 H29 := s9.trans (s10.trans (s12.trans (sC.trans s29)))
  have hb29 := sD _ _ hb8
  wtm_at "xs"
  refine draw hb29 ⟨by decide, by decide⟩ fun j30 n30 H30 hj30 b30 hb30 => ?_
  have sE : Same H12 H29 := sC.trans s29
  have hcs29 := (s10.trans (s12.trans sE)) _ _ y1
  have hms29 := (s12.trans sE) _ _ z1
  have hf29 := sD _ _ hf8
  have s0_12 : Same H H12 := s08.trans (s9.trans (s10.trans s12))
  have eZ : Z.map (fun x => (x.c, x.dx, x.bl, x.L)) = Y := by rw [z3, ← y2]; exact List.take_length
  have eZc : (Z.map fun x => V.ref x.c) = Y.map fun y => V.ref y.1 := by rw [← eZ, List.map_map]; rfl
  have eZn : Z.map Pr.c = Y.map (·.1) := by rw [← eZ, List.map_map]; rfl
  have nr : rs ≠ hc := (Xk.ne_new hrs ((sC) _ _ hhcl)).symm
  have w0 : Wd K T.C_Client T.C_OpenCall T.C_History T.C_CallRow s H H29 ⟨cs, ms, hi, hx, hc, by_, rs, f, nr, Xk.ne_new hrs ((s9.trans (s10.trans (s12.trans sC))) _ _ hf8), Xk.ne_new hhc ((s9.trans s10) _ _ hf8), Xk.ne_new hrs ((s10.trans (s12.trans sC)) _ _ y1), Xk.ne_new hhc (s10 _ _ y1), Xk.ne_new hrs ((s12.trans sC) _ _ z1), Xk.ne_new hhc z1⟩ ks 0 Z [] [] [] 0 := by
    refine ⟨by rw [eZc]; exact hcs29, hms29, hf29, z2, fun x hx => ?_, fun x hx => ?_, by rw [eZn]; exact y4, z5, sE _ _ hh, sE _ _ hhcl, fun r hr => (by cases hr), Nat.le_refl _, .nil, sE _ _ hhby, Nat.le_refl _, fun r hr => (by cases hr), fun r hr => (by cases hr), fun j x hx hcv => ?_, hrs2, rfl, fun i b r hb => (by cases hb), .nil, fun r hr => (by cases hr), s0_12.trans sE, ⟨Xk.free_back hhi (s08.trans (s9.trans s10)), Xk.free_back hhc (s08.trans (s9.trans s10)), Xk.free_back hby (s08.trans (s9.trans s10)), Xk.free_back hrs (s0_12.trans sC)⟩, fun x hx => ?_, fun r hr => (by cases hr), fun b hb => (by cases hb)⟩
    · obtain ⟨a1, a2, a3, a4, a5, a6⟩ := z4 x hx
      obtain ⟨b1, b2, b3⟩ := y3 (x.c, x.dx, x.bl, x.L) (by rw [← eZ]; exact List.mem_map.mpr ⟨x, hx, rfl⟩)
      have sF := s10.trans (s12.trans sE)
      refine ⟨by rw [a4, a5]; exact sF _ _ b1, by rw [a4, a6]; exact (s12.trans sE) _ _ a1, b2.same sF, a2.same (s12.trans sE), b3.trans a3.symm, (h2L b3).ok hsok, .inl ⟨a5, a6⟩⟩
    · obtain ⟨b1, b2, b3⟩ := y3 (x.c, x.dx, x.bl, x.L) (by rw [← eZ]; exact List.mem_map.mpr ⟨x, hx, rfl⟩)
      exact h2L b3
    · exact absurd (z4 x (List.mem_of_getElem? hx)).2.2.2.2.1 hcv
    · exact ⟨Xk.free_back (y5 (x.c, x.dx, x.bl, x.L) (by rw [← eZ]; exact List.mem_map.mpr ⟨x, hx, rfl⟩)) s08, Xk.free_back (z6 x hx) (s08.trans s9)⟩
  replace w0 := w0.box hb29 b30 hb
  generalize hpl : (Pl.mk cs ms hi hx hc by_ rs f nr _ _ _ _ _ _) = p at w0
  have ec : cs = p.cs := by rw [← hpl]
  have em : ms = p.ms := by rw [← hpl]
  have eh : hi = p.hi := by rw [← hpl]
  have er : rs = p.rs := by rw [← hpl]
  have ef : f = p.ka := by rw [← hpl]
  subst ec em eh er ef
  clear hpl hcs29 hms29 hf29 b30 hb30 hb29 sD sE s0_12 sC s29 eZ eZc eZn nr z1 z2 z3 z4 z5 z6 y1 y2 y3 y4 y5 s12 hh hhcl hhby hhc hby hcb hhi hhx hhn s9 s10 hms hcs hrs hrs2 hb8 hf8 hR8 hoc hodx hon hoc2 hu1 hu2 hu3 hu4 hu5 hu6 hv1 hw1 hw2 hw3 hw4 hw5 hw6 hw7 h2L s08
  wtm_at "xs"
  refine Xk.x_range (fun i σ' H' => ∃ (y1 y11 y12 y13 y14 y15 y16 y17 y18 y19 y20 y21 : Option V) (m : Int) (Z : List Pr) (R : List Cr) (B : List Addr) (kvs : List (List Key × V)), σ' = [some (.ref a), y1, some (.ref p.ka), some (.str s), some (.ref rg), some (.ref p.cs), some (.ref p.ms), some (.ref p.hi), some (.ref oc), some (.ref p.rs), some (.int m), y11, y12, y13, y14, y15, y16, y17, y18, y19, y20, y21] ∧ Wd K T.C_Client T.C_OpenCall T.C_History T.C_CallRow s H H' p ks m Z R B kvs i)
    ⟨by omega, by omega⟩ ⟨_, _, _, _, _, _, _, _, _, _, _, _, _, _, _, _, _, rfl, w0⟩ ?_ ?_
  · clear w0
    rintro i σ' H1 hi ⟨y1, y11, y12, y13, y14, y15, y16, y17, y18, y19, y20, y21, m, Z, R, B, kvs, rfl, w1⟩
    have hms1 := w1.hms
    wtm_at "xs"
    refine ⟨a, _, ns, rfl, Xk.sq_same hS w1.sm, hl, by omega, by omega, fun n1 hn1 => ?_⟩
    wtm_at "xs"
    intro b2 H2 hb2 s2 hbx2
    have hms2 := s2 _ _ hms1
    wtm_at "xs"
    refine draw hbx2 ⟨by decide, by decide⟩ fun j n3 H3 hj b3 hbx3 => ?_
    have s03 := Xk.same_but b3 hb2 s2
    have fb := Xk.free_back hb2 (w1.sm)
    replace w1 := w1.same s03
    clear s2 hms2 hbx2 b3 s03 hms1
    obtain ⟨x, hx⟩ := Xk.lt_at (xs := Z) (j := j) (by have z := w1.hZ; omega)
    have hxm := List.mem_of_getElem? hx
    have px := w1.hP x hxm
    have hms := w1.hms
    have hmd := px.md
    wtm_at "xs"
    refine Xk.x_cut (fun σ' H' => ∃ (y11 y12 y13 y14 y15 y16 y17 y18 y19 y20 y21 : Option V) (m : Int) (Z : List Pr) (R : List Cr) (B : List Addr) (kvs : List (List Key × V)), σ' = [some (.ref a), some (.ref b2), some (.ref p.ka), some (.str s), some (.ref rg), some (.ref p.cs), some (.ref p.ms), some (.ref p.hi), some (.ref oc), some (.ref p.rs), some (.int m), y11, y12, y13, y14, y15, y16, y17, y18, y19, y20, y21] ∧ Wd K T.C_Client T.C_OpenCall T.C_History T.C_CallRow s H H' p ks m Z R B kvs (i + 1)) ?_ ?_
    · refine x_els (fun H' => ∃ n : Int, H' b2 = some (.lst [.int n]) ∧ Wd K T.C_Client T.C_OpenCall T.C_History T.C_CallRow s H H' p ks m Z R B kvs i) ?_ (fun BB els => ?_)
      · rintro H4 ⟨n4, hbx4, w4⟩
        have px := w4.hP x hxm
        have hmd := px.md
        have x2 := w4.h2 x hxm
        have x2' : Two s (x.M.map (·.2)) := by rw [← px.eq]; exact x2
        have hl2 : x.M.length = 2 := by have z := x2'.len; rw [List.length_map] at z; exact z
        have hcs := w4.hcs
        wtm_at "xs"
        intro l5 H5 hl5 s5 h5
        have hbx5 := s5 _ _ hbx4
        have hmd5 := s5 _ _ hmd
        have nl5 := Xk.ne_new hl5 hbx4
        wtm_at "xs"
        refine draw hbx5 ⟨by decide, by decide⟩ fun j6 n6 H6 hj6 b6 hbx6 => ?_
        obtain ⟨u, hu⟩ := Xk.lt_at (xs := [V.int 0, V.int 0, V.int 0, V.int (-1), V.int 1]) (j := j6) (by simp only [List.length_cons, List.length_nil]; omega)
        obtain ⟨c6, rfl⟩ : ∃ c : Int, u = .int c := by
          have hm := List.mem_of_getElem? hu
          simp only [List.mem_cons, List.not_mem_nil, or_false] at hm
          rcases hm with rfl | rfl | rfl | rfl | rfl <;> exact ⟨_, rfl⟩
        replace w4 := (w4.same s5).box hbx5 b6 fb
        refine Xk.x_ixL (Xk.sq_of (b6 _ _ nl5.symm h5)) (Xk.at_nat rfl hu) ?_
        clear h5 hbx5 hmd5 nl5 b6 s5 hmd hl5 hbx4 px
        have px := w4.hP x hxm
        have hmd := px.md
        wtm_at "xs"
        refine ⟨b2, x.mb, n6, x.M, rfl, hbx6, px.mt, (int_ne hbx6 px.mt.lst fun v hv c z => by obtain ⟨y, _, rfl⟩ := List.mem_map.mp hv; cases z).symm, by omega, by omega, x2'.ok hsok, fun H7 m7 an wd G d7 b7 hbx7 hA hG hGr hGo hPk => ?_⟩
        replace w4 := w4.box hbx6 b7 fb
        clear hmd px b7 hbx6 hu
        have px := w4.hP x hxm
        have hmd := px.md
        have hcs := w4.hcs
        have hcl := px.cl
        have hGt : ∀ hi ∈ G.map (fun e : Addr × Br => e.2), (hi.1 = Str.ofString "" ∧ hi.2.1 = some s) ∨ (hi.1 = s ∧ hi.2.1 = none) := fun hi hh => by
          obtain ⟨e, he, rfl⟩ := List.mem_map.mp hh
          exact x2'.has (hGr e he)
        have hch : ∀ i, i ≤ G.length → ((((G.take i).map (·.2)).foldl (fun l hi => learnR hi l) (x.L.map (·.2))).length ≤ 40 ∧ Ch "" (((G.take i).map (·.2)).foldl (fun l hi => learnR hi l) (x.L.map (·.2)))) := fun i _ => by
          have z := Two.fold hn0 ((G.take i).map (·.2)) x2 fun hi hh => by
            obtain ⟨e, he, rfl⟩ := List.mem_map.mp hh
            exact hGt _ (List.mem_map.mpr ⟨e, List.mem_of_mem_take he, rfl⟩)
          exact ⟨by rw [z.len]; omega, z.ch hn0⟩
        rcases px.op with ⟨o1, o2⟩ | ⟨oc', odx', d', pl', rq', mpl', e', r', T', dd', o1, o2, o3, _⟩
        · rw [o2] at hmd
          wtm_at "xs"
          refine Xk.x_nocut ?_
          wtm_at "xs"
          refine ⟨x.c, x.dx, x.bl, x.n, x.cv, x.L, _, an, wd, G, rfl, px.cl, .inl o1, px.lt, hA, by omega, hch, fun _ H8 s8 => ?_, fun oc odx d p z => by rw [o1] at z; cases z⟩
          wtm_at "xs"
          refine ⟨_, _, _, _, _, _, _, _, _, _, _, _, _, _, _, _, rfl, (w4.same s8).le (Nat.le_succ _)⟩
        · rw [o2] at hmd
          have hop : (x.cv = .non ∨ ∃ oc odx m d p, x.cv = .ref oc ∧ OcI H7 T.C_OpenCall oc odx m d p) := .inr ⟨oc', odx', _, d', pl', o1, o3⟩
          wtm_at "xs"
          refine Xk.x_nocut ?_
          wtm_at "xs"
          generalize hv : max 0 (x.n + c6) = v
          refine ⟨x.c, x.dx, x.bl, x.n, x.cv, x.L, v, an, wd, G, rfl, px.cl, hop, px.lt, hA, by omega, hch, fun hno H8 s8 => ?_, fun oc2 odx2 d2 p2 e1 e2 H8 bl' L' b8 hbl' hcl8 hL8 eL8 => ?_⟩
          · have c : ¬ (V.int v = V.int x.n) := fun z => by
              injection z with z
              exact hno oc' odx' x.n d' pl' o1 o3 z.symm
            wtm_at "xs"
            rw [decide_eq_false c, show (!decide (V.bl false = V.bl false)) = false from by decide]
            wtm_at "xs"
            exact ⟨_, _, _, _, _, _, _, _, _, _, _, _, _, _, _, _, rfl, (w4.same s8).le (Nat.le_succ _)⟩
          · have c : v = x.n := by
              rw [o1] at e1
              injection e1 with e1
              rw [← e1] at e2
              have y := o3.symm.trans e2
              injection y with y
              injection y with _ _ y
              injection y with y _
              injection y with _ y
              injection y with y
              exact y.symm
            subst c
            wtm_at "xs"
            rw [decide_eq_true (show V.int x.n = V.int x.n from rfl), show (!decide (V.bl true = V.bl true)) = false from by decide]
            obtain ⟨r0, hr0, hc0, hn0'⟩ := w4.op j x hx (by rw [o1]; exact fun z => by cases z)
            obtain ⟨t, rowS, n1, n2, n3, n4, n5, n6, n7, n8, n9, n10, n11⟩ := w4.five hx hr0
            obtain ⟨ne1, ne2, ne3, ne4, ne5, ne6, ne7, ne8, ne9, ne10, ne11, ne12⟩ := w4.ne hx
            have m8 := b8 _ _ ne1.symm hmd
            wtm_at "xs"
            obtain ⟨H9, e9⟩ : ∃ H9, H9 = upd H8 x.md (.dK [(Sum.inr "number", .int x.n), (Sum.inr "open", .non), (Sum.inr "beliefs", .ref x.mb)]) := ⟨_, rfl⟩
            change Evl.tCut _ _ _ _ (upd H8 x.md (.dK [(Sum.inr "number", .int x.n), (Sum.inr "open", .non), (Sum.inr "beliefs", .ref x.mb)]))
            rw [← e9]
            have b9 : Xk.But x.md H8 H9 := by rw [e9]; exact Xk.but_mut (Xk.But.refl _ _)
            have k9 : Kp (x.md :: x.c :: p.hi :: r0.a :: B) H7 H9 := ((Kp.refl _ _).but b8 (List.mem_cons_of_mem _ (List.mem_cons_self ..))).but b9 (List.mem_cons_self ..)
            have m9 : H9 x.md = some (.dK [(Sum.inr "number", .int x.n), (Sum.inr "open", .non), (Sum.inr "beliefs", .ref x.mb)]) := by rw [e9]; exact upd_same
            have c9 := b9 _ _ ne1 hcl8
            have hB9 : ∀ (l : Nat) b r, B[l]? = some b → R[l]? = some r → H9 b = some (.lst r.xs) := fun l b r hb hr =>
              b9 _ _ (fun z => n7 (z ▸ List.mem_of_getElem? hb)) (b8 _ _ (fun z => n8 (z ▸ List.mem_of_getElem? hb)) (w4.hB l b r hb hr))
            have hL9 := hL8.dk b9 m8
            have hM9 := px.mt.kp k9 t (rowS px.mt)
            have hh9 := b9 _ _ ne2 (b8 _ _ ne6 w4.hh)
            have by9 := b9 _ _ ne4 (b8 _ _ ne8 w4.hby)
            have cr9 := b9 _ _ n1 (b8 _ _ n2 (w4.hR r0 hr0))
            have rs9 := b9 _ _ ne5 (b8 _ _ ne9 w4.hrs)
            clear e9 b9 m8 hcl8 hL8 b8 hbx7 hmd hcl hcs
            obtain ⟨xs, t1, t2, t3⟩ := hA.tp
            have hno := hA.no
            have t1' := k9.tup t t1
            refine Xk.x_cut (fun σ' H' => ∃ (y19 : Option V) (mb' : Addr) (M' : List (Addr × Br)), σ' = [some (.ref a), some (.ref b2), some (.ref p.ka), some (.str s), some (.ref rg), some (.ref p.cs), some (.ref p.ms), some (.ref p.hi), some (.ref oc), some (.ref p.rs), some (.int m), some (.int i), some (.int j), some (.ref x.md), y14, y15, some (.int x.n), some (.ref an), some (.bl true), y19, y20, y21] ∧ Xk.But x.md H9 H' ∧ H' x.md = some (.dK [(Sum.inr "number", .int x.n), (Sum.inr "open", .non), (Sum.inr "beliefs", .ref mb')]) ∧ RowsAt H' mb' M' ∧ M'.map (·.2) = (G.map (·.2)).foldl (fun l hi => learnR hi l) (x.M.map (·.2))) ?_ ?_
            · wtm_at "xs"
              have i0 : atI (V.str wd :: xs) 0 = some (V.str wd) := atI_nat (xs := V.str wd :: xs) (j := 0) rfl
              refine Xk.x_ixT (Xk.st_of t1') i0 ?_
              wtm_at "xs"
              refine Xk.x_itd (fun hw => ?_) (fun hw => ?_)
              · have hw' : wd = "moved" := by injection hw
                obtain ⟨hp, rfl, g2, g3⟩ := t3 hw'
                wtm_at "xs"
                have i1 : atI [V.str wd, V.ref hp] 1 = some (V.ref hp) := atI_nat (xs := [V.str wd, V.ref hp]) (j := 1) rfl
                first | refine Xk.x_ixT (Xk.st_of t1') i1 ?_ | skip
                refine Xk.x_forT (xs := G.map fun e => V.ref e.1) (fun l σ' H' => ∃ (y19 : Option V) (mb' : Addr) (M' : List (Addr × Br)), σ' = [some (.ref a), some (.ref b2), some (.ref p.ka), some (.str s), some (.ref rg), some (.ref p.cs), some (.ref p.ms), some (.ref p.hi), some (.ref oc), some (.ref p.rs), some (.int m), some (.int i), some (.int j), some (.ref x.md), y14, y15, some (.int x.n), some (.ref an), some (.bl true), y19, y20, y21] ∧ Xk.But x.md H9 H' ∧ H' x.md = some (.dK [(Sum.inr "number", .int x.n), (Sum.inr "open", .non), (Sum.inr "beliefs", .ref mb')]) ∧ RowsAt H' mb' M' ∧ M'.map (·.2) = ((G.take l).map (·.2)).foldl (fun l hi => learnR hi l) (x.M.map (·.2))) (Xk.st_of (k9.tup t g2))
                  ⟨_, x.mb, x.M, rfl, Xk.But.refl _ _, m9, hM9, rfl⟩ (fun l σ' H' _ ⟨_, _, _, _, b, _⟩ => Xk.st_of (b _ _ (ne_of_obj (k9.tup t g2) m9 (fun z => by cases z)) (k9.tup t g2))) ?_ ?_
                · rintro l y σ' H' hl' ⟨y19, mb', M', rfl, b10, m10, hM10, eM⟩
                  obtain ⟨e, he, rfl⟩ := Xk.of_map_at hl'
                  have hem := List.mem_of_getElem? he
                  have ge := b10 _ _ (ne_of_obj (k9.tup t (g3 e hem)) m9 (fun z => by cases z)) (k9.tup t (g3 e hem))
                  obtain ⟨c1', c2'⟩ := hch l (Nat.le_of_lt (Xk.at_lt he))
                  rw [px.eq, ← eM] at c1' c2'
                  rw [List.length_map] at c1'
                  wtm_at "xs"
                  refine ⟨mb', e.1, M', e.2, rfl, hM10, ge, c1', c2', fun H11 q3 M3 s11 hq3 hM3 e3 => ?_⟩
                  have m11 := s11 _ _ m10
                  wtm_at "xs"
                  have b12 : Xk.But x.md H11 (upd H11 x.md (.dK [(Sum.inr "number", .int x.n), (Sum.inr "open", .non), (Sum.inr "beliefs", .ref q3)])) := Xk.but_mut (Xk.But.refl _ _)
                  refine ⟨_, q3, M3, rfl, Xk.but_trans (Xk.but_trans b10 (Xk.but_same s11)) b12, upd_same, hM3.dk b12 m11, ?_⟩
                  rw [e3, eM, List.take_add_one, he, List.map_append, List.foldl_append]
                  rfl
                · rintro σ' H' ⟨y19, mb', M', rfl, b10, m10, hM10, eM⟩
                  rw [List.length_map, List.take_length] at eM
                  exact ⟨_, mb', M', rfl, b10, m10, hM10, eM⟩
              · have hg := hno fun z => hw (by rw [z])
                subst hg
                wtm_at "xs"
                exact ⟨_, x.mb, x.M, rfl, Xk.But.refl _ _, m9, hM9, rfl⟩
            rintro σ' H10 ⟨y19, mb', M', rfl, b10, m10, hM10, eM⟩
            have hh10 := b10 _ _ ne2 hh9
            have by10 := b10 _ _ n5 by9
            have cr10 := b10 _ _ n1 cr9
            have rs10 := b10 _ _ ne5 rs9
            have c10 := b10 _ _ ne1 c9
            have hL10 := hL9.dk b10 m9
            have hB10 : ∀ (l : Nat) b r, B[l]? = some b → R[l]? = some r → H10 b = some (.lst r.xs) := fun l b r hb hr => b10 _ _ (fun z => n7 (z ▸ List.mem_of_getElem? hb)) (hB9 l b r hb hr)
            have k10 := k9.but b10 (List.mem_cons_self ..)
            clear hh9 by9 cr9 rs9 c9 hL9 b10 m9 hM9 k9 t1'
            wtm_at "xs"
            refine ⟨p.hi, p.hx, m, p.hc, p.by_, kvs, (j : Int), x.n, .ref an, r0.a, r0.dx, r0.c, r0.n, r0.d, r0.k, r0.v, r0.w, rfl, hh10, by10, by rw [← hc0, ← hn0']; exact w4.hkv r0 hr0, cr10, n3, fun H11 b11 hh11 cr11 => ?_⟩
            have rs11 := b11 _ _ ne10 n4 n4 rs10
            have m11 := b11 _ _ ne2.symm n1.symm n1.symm m10
            have c11 := b11 _ _ ne6.symm n2.symm n2.symm c10
            have hi0 : p.hi ∈ x.md :: x.c :: p.hi :: r0.a :: B := List.mem_cons_of_mem _ (List.mem_cons_of_mem _ (List.mem_cons_self ..))
            have hr0' : r0.a ∈ x.md :: x.c :: p.hi :: r0.a :: B := List.mem_cons_of_mem _ (List.mem_cons_of_mem _ (List.mem_cons_of_mem _ (List.mem_cons_self ..)))
            have hBm : ∀ q ∈ B, q ∈ x.md :: x.c :: p.hi :: r0.a :: B := fun q hq => List.mem_cons_of_mem _ (List.mem_cons_of_mem _ (List.mem_cons_of_mem _ (List.mem_cons_of_mem _ hq)))
            have k11 := k10.b3 b11 hi0 hr0' hr0'
            have nmI : ∀ {q : Addr} {o : HO}, H10 q = some o → kd o ≠ 199 → kd o ≠ 201 → H11 q = some o := fun h z1 z2 => b11 _ _ (nk h hh10 (by
              rw [show kd (HO.ins T.C_History p.hx [("events", .int m), ("_calls", .ref p.hc), ("_by_name", .ref p.by_)]) = 201 from by show 100 + (Str.ofString "events").cps.toList.headD 0 = 201; decide +kernel]
              exact z2)) (nk h cr10 (by
              rw [show kd (HO.ins T.C_CallRow r0.dx [("client", .int r0.c), ("number", .int r0.n), ("deal", .ref r0.d), ("asked", .int r0.k), ("answered", r0.v), ("answer", r0.w)]) = 199 from by show 100 + (Str.ofString "client").cps.toList.headD 0 = 199; decide +kernel]
              exact z1)) (nk h cr10 (by
              rw [show kd (HO.ins T.C_CallRow r0.dx [("client", .int r0.c), ("number", .int r0.n), ("deal", .ref r0.d), ("asked", .int r0.k), ("answered", r0.v), ("answer", r0.w)]) = 199 from by show 100 + (Str.ofString "client").cps.toList.headD 0 = 199; decide +kernel]
              exact z1)) h
            have hL11 : RowsAt H11 bl' L' := ⟨nmI hL10.lst (by show ¬ (3 = 199); omega) (by show ¬ (3 = 201); omega), fun e he => nmI (hL10.tup e he) (by show ¬ (0 = 199); omega) (by show ¬ (0 = 201); omega)⟩
            have hM11 : RowsAt H11 mb' M' := ⟨nmI hM10.lst (by show ¬ (3 = 199); omega) (by show ¬ (3 = 201); omega), fun e he => nmI (hM10.tup e he) (by show ¬ (0 = 199); omega) (by show ¬ (0 = 201); omega)⟩
            have hB11 : ∀ (l : Nat) b r, B[l]? = some b → R[l]? = some r → H11 b = some (.lst r.xs) := fun l b r hb hr =>
              b11 _ _ (fun z => n9 (z ▸ List.mem_of_getElem? hb)) (fun z => n10 (z ▸ List.mem_of_getElem? hb)) (fun z => n10 (z ▸ List.mem_of_getElem? hb)) (hB10 l b r hb hr)
            clear rs10 m10 c10 hL10 hM10 cr10 by10 hh10 b11 k10 nmI
            have nbl : bl' ∉ B := fun z => by
              obtain ⟨l, hl⟩ := List.getElem?_of_mem z
              obtain ⟨r, hr⟩ := Xk.lt_at (xs := R) (j := l) (by have z := Xk.at_lt hl; have y := w4.hBl; omega)
              exact int_ne (hB11 l _ r hl hr) hL11.lst (fun v hv c z => by obtain ⟨y, _, rfl⟩ := List.mem_map.mp hv; cases z) rfl
            have nmb : mb' ∉ B := fun z => by
              obtain ⟨l, hl⟩ := List.getElem?_of_mem z
              obtain ⟨r, hr⟩ := Xk.lt_at (xs := R) (j := l) (by have z := Xk.at_lt hl; have y := w4.hBl; omega)
              exact int_ne (hB11 l _ r hl hr) hM11.lst (fun v hv c z => by obtain ⟨y, _, rfl⟩ := List.mem_map.mp hv; cases z) rfl
            wtm_at "xs"
            refine Xk.x_forL (xs := B.map V.ref) (fun l σ' H' => ∃ (y20 : Option V), σ' = [some (.ref a), some (.ref b2), some (.ref p.ka), some (.str s), some (.ref rg), some (.ref p.cs), some (.ref p.ms), some (.ref p.hi), some (.ref oc), some (.ref p.rs), some (.int m), some (.int i), some (.int j), some (.ref x.md), y14, y15, some (.int x.n), some (.ref an), some (.bl true), y19, y20, y21] ∧ Kp B H11 H' ∧ ∀ (t : Nat) b r, B[t]? = some b → R[t]? = some r → H' b = some (.lst (if t < l then clR j x.n m an r else r).xs)) (Xk.sq_of rs11)
              ⟨_, rfl, Kp.refl _ _, fun t b r hb hr => by rw [if_neg (by omega)]; exact hB11 t b r hb hr⟩ (fun l σ' H' _ ⟨_, _, k, _⟩ => Xk.sq_of (k _ _ n11 rs11)) ?_ ?_
            · rintro l y σ' H' hl' ⟨y20, rfl, k12, hB12⟩
              obtain ⟨b, hb, rfl⟩ := Xk.of_map_at hl'
              have hlB := Xk.at_lt hb
              obtain ⟨r, hr⟩ := Xk.lt_at (xs := R) (j := l) (by have y := w4.hBl; omega)
              have h12 := hB12 l b r hb hr
              rw [if_neg (by omega)] at h12
              have nother : ∀ (t : Nat) c, B[t]? = some c → t ≠ l → c ≠ b := fun t c hc htl z => by
                have h1 := Xk.at_lt hc
                exact htl ((List.getElem?_inj h1 w4.nB).mp (hc.trans (by rw [z]; exact hb.symm)))
              wtm_at "xs"
              intro q13 H13 hq13 s13 h13
              have ec : cutV r.xs none (some 2) = [r.c, r.n].map V.int := rfl
              rw [ec] at h13
              wtm_at "xs"
              intro q14 H14 hq14 s14 h14
              have s24 := s13.trans s14
              have h24 := s24 _ _ h12
              refine Xk.x_eqInts (ns := [r.c, r.n]) (ms := [(j : Int), x.n]) (Xk.sq_of (s14 _ _ h13)) (Xk.sq_of h14) ?_
              wtm_at "xs"
              refine Xk.x_itd (fun hc => ?_) (fun hc => ?_)
              · have hc' : r.c = j ∧ r.n = x.n := by
                  injection hc with z1 z2
                  injection z2 with z2 _
                  exact ⟨z1, z2⟩
                have ecl : clR j x.n m an r = { r with v := .int m, w := .ref an } := if_pos hc'
                wtm_at "xs"
                refine Xk.x_setL (j := 4) h24 rfl ?_
                wtm_at "xs"
                refine Xk.x_setL (j := 5) upd_same rfl ?_
                wtm_at "xs"
                refine ⟨_, rfl, ((k12.same s24).mut (List.mem_of_getElem? hb)).mut (List.mem_of_getElem? hb), fun t c r' hc2 hr' => ?_⟩
                by_cases htl : t = l
                · subst htl
                  rw [hb] at hc2
                  cases hc2
                  rw [hr] at hr'
                  cases hr'
                  rw [if_pos (Nat.lt_succ_self _), ecl]
                  exact upd_same
                · have nc := nother t c hc2 htl
                  have z := s24 _ _ (hB12 t c r' hc2 hr')
                  refine (upd_ne nc).trans ((upd_ne nc).trans ?_)
                  by_cases hlt : t < l
                  · rw [if_pos (by omega)]
                    rw [if_pos hlt] at z
                    exact z
                  · rw [if_neg (by omega)]
                    rw [if_neg hlt] at z
                    exact z
              · have hc' : ¬ (r.c = j ∧ r.n = x.n) := fun z => hc (by rw [z.1, z.2])
                have ecl : clR j x.n m an r = r := if_neg hc'
                wtm_at "xs"
                refine ⟨_, rfl, k12.same s24, fun t c r' hc2 hr' => ?_⟩
                have z := s24 _ _ (hB12 t c r' hc2 hr')
                by_cases htl : t = l
                · subst htl
                  rw [hr] at hr'
                  cases hr'
                  rw [if_pos (Nat.lt_succ_self _), ecl]
                  rw [if_neg (Nat.lt_irrefl _)] at z
                  exact z
                · by_cases hlt : t < l
                  · rw [if_pos (by omega)]
                    rw [if_pos hlt] at z
                    exact z
                  · rw [if_neg (by omega)]
                    rw [if_neg hlt] at z
                    exact z
            · rintro σ' H' ⟨y20, rfl, k12, hB12⟩
              wtm_at "xs"
              refine ⟨_, _, _, _, _, _, _, _, _, _, _, _, _, _, _, _, rfl, w4.close hx hr0 hc0 hn0' (k11.trans (k12.mono hBm)) hsok (k12 _ _ n8 c11) (k12 _ _ n7 m11) ⟨k12 _ _ nbl hL11.lst, fun e he => ?_⟩ ⟨k12 _ _ nmb hM11.lst, fun e he => ?_⟩ ?_ ?_ (k12 _ _ n9 hh11) (k12 _ _ n10 cr11) (fun t b r hb hr => ?_) (hPk.st ((k11.trans (k12.mono hBm)).st t))⟩
              · exact k12 _ _ (fun z => (by
                  obtain ⟨l, hl⟩ := List.getElem?_of_mem z
                  obtain ⟨r, hr⟩ := Xk.lt_at (xs := R) (j := l) (by have z := Xk.at_lt hl; have y := w4.hBl; omega)
                  exact nk (hB11 l _ r hl hr) (hL11.tup e he) (by show ¬ (3 = 0); omega) rfl)) (hL11.tup e he)
              · exact k12 _ _ (fun z => (by
                  obtain ⟨l, hl⟩ := List.getElem?_of_mem z
                  obtain ⟨r, hr⟩ := Xk.lt_at (xs := R) (j := l) (by have z := Xk.at_lt hl; have y := w4.hBl; omega)
                  exact nk (hB11 l _ r hl hr) (hM11.tup e he) (by show ¬ (3 = 0); omega) rfl)) (hM11.tup e he)
              · rw [eL8, eM, px.eq]
              · rw [eL8]
                exact Two.fold hn0 _ x2 hGt
              · have z := hB12 t b r hb hr
                rw [if_pos (by rw [List.length_map]; exact Xk.at_lt hb)] at z
                exact z
      rcases px.op with ⟨o1, o2⟩ | ⟨oc', odx', d', pl', rq', mpl', e', r', T', dd', o1, o2, _⟩
      · rw [o2] at hmd
        wtm_at "xs"
        refine draw hbx3 ⟨by decide, by decide⟩ fun j4 n4 H4 hj4 b4 hbx4 => ?_
        replace w1 := w1.box hbx3 b4 fb
        wtm_at "xs"
        refine Xk.x_itd (fun c => ?_) (fun c => ?_)
        · clear els px hms hmd
          wtm_at "xs"
          intro rp H5 hrp s5 hr5
          replace w1 := w1.same s5
          have hbx5 := s5 _ _ hbx4
          refine ⟨b2, p.ka, rp, n4, ks, rfl, hbx5, w1.hka, ?_, hok, hl1, hl5, hr5, fun H6 m6 dp Cs D b6 hbx6 hD hDl => ?_⟩
          · exact (int_ne hbx5 w1.hka fun v hv c z => by obtain ⟨y, _, rfl⟩ := List.mem_map.mp hv; cases z).symm
          replace w1 := w1.box hbx5 b6 fb
          clear b6 hbx5 hbx4 s5 hr5 hrp b4 hbx3
          have px := w1.hP x hxm
          have hmd := px.md
          rw [o2] at hmd
          have t := (w1.six hx).1
          have rq := fun {q : Addr} {L : List (Addr × Br)} => ((w1.six hx).2 (q := q) (L := L)).1
          have nicS := ((w1.six hx).2 (q := p.cs) (L := [])).2
          obtain ⟨ne1, ne2, ne3, ne4, ne5, ne6, ne7, ne8, ne9, ne10, ne11, ne12⟩ := w1.ne hx
          have x2 := w1.h2 x hxm
          have x2' : Two s (x.M.map (·.2)) := by rw [← px.eq]; exact x2
          have hl50 : x.M.length ≤ 50 := by have z := x2'.len; rw [List.length_map] at z; omega
          wtm_at "xs"
          obtain ⟨H7, e7⟩ : ∃ H7, H7 = upd H6 x.md (.dK [(Sum.inr "number", .int (x.n + 1)), (Sum.inr "open", .non), (Sum.inr "beliefs", .ref x.mb)]) := ⟨_, rfl⟩
          have k7 : Kp [x.md, x.c, p.hi, p.hc, p.by_, p.rs] H6 H7 := by rw [e7]; exact (Kp.refl _ _).mut (List.mem_cons_self ..)
          have g1 : ClI H7 T.C_Client x.c x.dx x.bl x.n x.cv := by rw [e7]; exact (upd_ne ne1).trans px.cl
          have g2 : HiI H7 T.C_History p.hi p.hx m p.hc p.by_ := by rw [e7]; exact (upd_ne ne2).trans w1.hh
          have g3 : H7 p.hc = some (.lst (R.map fun r : Cr => V.ref r.a)) := by rw [e7]; exact (upd_ne ne3).trans w1.hhc
          have g4 : H7 p.by_ = some (.dT kvs) := by rw [e7]; exact (upd_ne ne4).trans w1.hby
          have g5 : H7 p.rs = some (.lst (B.map V.ref)) := by rw [e7]; exact (upd_ne ne5).trans w1.hrs
          have g6 : H7 x.md = some (.dK [(Sum.inr "number", .int (x.n + 1)), (Sum.inr "open", .non), (Sum.inr "beliefs", .ref x.mb)]) := by rw [e7]; exact upd_same
          change sp__law_names K _ (upd H6 x.md (.dK [(Sum.inr "number", .int (x.n + 1)), (Sum.inr "open", .non), (Sum.inr "beliefs", .ref x.mb)])) _ _
          rw [← e7]
          clear e7 hmd
          have hD7 := hD.kp k7 t
          refine ⟨dp, Cs, D, rfl, hD7, fun H8 fl ts s8 hfl h8 srt nd mem tl => ?_⟩
          have hM8 := (px.mt.kp k7 t (rq px.mt x2')).same s8
          have g68 := s8 _ _ g6
          have c2M := x2'.ch hn0
          refine Xk.x_lcL (xs := ts.map V.str) (fun Dl i H' => Same H8 H' ∧ ∃ U : List (Addr × Str × Int), H' Dl = some (.lst (U.map fun e => V.ref e.1)) ∧ (∀ e ∈ U, H' e.1 = some (.tup [.str e.2.1, .int e.2.2])) ∧ U.map (·.2) = (ts.take i).map (fun k => (k, cellK k (x.M.map (·.2))))) (Xk.sq_of h8) ?_ ?_ ?_ ?_
          · intro Dl hD
            exact ⟨Xk.same_fr hD, [], upd_same, fun e z => (by cases z), rfl⟩
          · rintro Dl i H' hD ⟨s2, _⟩
            exact Xk.sq_of (s2 _ _ h8)
          · rintro Dl hD' i y H' hi' ⟨s2, U, u1, u2, u3⟩
            obtain ⟨k, he, rfl⟩ := Xk.of_map_at hi'
            obtain ⟨r, hr⟩ := cell_ex c2M k
            have g6' := s2 _ _ g68
            wtm_at "xs"
            refine ⟨rfl, ?_⟩
            wtm_at "xs"
            refine ⟨x.mb, x.M, k, rfl, hM8.same s2, hl50, r, hr, fun H3 s3 => ?_⟩
            wtm_at "xs"
            intro tp H4 htp s4 h4
            have s34 := s3.trans s4
            have hU : U.length ≤ ts.length := by
              have z := congrArg List.length u3
              simp only [List.length_map, List.length_take] at z
              omega
            have t14 := s34 _ _ u1
            refine ⟨_, t14, Xk.size_lt (by rw [List.length_map]; omega), Xk.same_mut (s2.trans s34) hD', U ++ [(tp, k, r.2.2.1)], by rw [upd_same, List.map_append]; rfl, fun z hz => ?_, ?_⟩
            · rcases List.mem_append.mp hz with hz | hz
              · exact keep_tup (s34 _ _ (u2 z hz)) t14
              · rw [List.mem_singleton.mp hz]
                exact keep_tup h4 t14
            · rw [List.map_append, u3, List.take_add_one, he, List.map_append]
              show _ ++ [(k, r.2.2.1)] = _ ++ [(k, cellK k (x.M.map (·.2)))]
              rw [cellK_of hr]
          rintro pp H9 hpp ⟨s9, U, u1, u2, u3⟩
          rw [List.length_map, List.take_length] at u3
          have g69 := s9 _ _ g68
          wtm_at "xs"
          intro mpl H10 hmpl s10 h10
          have g610 := s10 _ _ g69
          wtm_at "xs"
          intro rqa H11 hrqa s11 h11
          have g611 := s11 _ _ g610
          wtm_at "xs"
          obtain ⟨H12, e12⟩ : ∃ H12, H12 = upd H11 x.md (.dK [(Sum.inr "number", .int (x.n + 1)), (Sum.inr "open", .ref rqa), (Sum.inr "beliefs", .ref x.mb)]) := ⟨_, rfl⟩
          have sM := s8.trans (s9.trans (s10.trans s11))
          have b12 : Xk.But x.md H11 H12 := by rw [e12]; exact Xk.but_mut (Xk.But.refl _ _)
          have k12 : Kp [x.md, x.c, p.hi, p.hc, p.by_, p.rs] H6 H12 := (k7.same sM).but b12 (List.mem_cons_self ..)
          have g1' : ClI H12 T.C_Client x.c x.dx x.bl x.n x.cv := b12 _ _ ne1 (sM _ _ g1)
          have g2' : HiI H12 T.C_History p.hi p.hx m p.hc p.by_ := b12 _ _ ne2 (sM _ _ g2)
          have g3' := b12 _ _ ne3 (sM _ _ g3)
          have g4' := b12 _ _ ne4 (sM _ _ g4)
          have g5' := b12 _ _ ne5 (sM _ _ g5)
          have g6' : H12 x.md = some (.dK [(Sum.inr "number", .int (x.n + 1)), (Sum.inr "open", .ref rqa), (Sum.inr "beliefs", .ref x.mb)]) := by rw [e12]; exact upd_same
          have kt : ∀ {c : Addr} {ys : List V}, H11 c = some (.tup ys) → H12 c = some (.tup ys) := fun hc => b12 _ _ (ne_of_obj hc g611 (fun z => by cases z)) hc
          have r1 := kt h11
          have r2 : RgAt H12 mpl U := ⟨kt (s11 _ _ h10), fun e he => kt ((s10.trans s11) _ _ (u2 e he))⟩
          have hcs12 := k12 _ _ nicS w1.hcs
          have hD12 := hD.kp k12 t
          have hL12 := px.lt.kp k12 t (rq px.lt x2)
          change rIxL K _ _ (upd H11 x.md (.dK [(Sum.inr "number", .int (x.n + 1)), (Sum.inr "open", .ref rqa), (Sum.inr "beliefs", .ref x.mb)])) _
          rw [← e12]
          clear e12 b12 g1 g2 g3 g4 g5 g6 g68 g69 g610 g611 k7 s8 s9 s10 s11 sM h8 h10 h11 u1 u2 hM8 hD7 hpp hfl kt
          wtm_at "xs"
          refine ⟨x.c, x.dx, x.bl, x.n, x.cv, x.L, dp, Cs, D, rfl, g1', hL12, by have z := x2.len; rw [List.length_map] at z; omega, hD12, fun k => cell_ex (x2.ch hn0) k, fun H13 oc1 odx1 pl ts2 T2 hoc1 b13 v1 v2 srt2 nd2 mem2 hT2 eT2 => ?_⟩
          have ets : ts2 = ts := srt_same (srtS_pair srt2) srt nd2 nd fun t => (mem2 t).trans (mem t).symm
          subst ets
          have k13 := k12.but b13 (List.mem_cons_of_mem _ (List.mem_cons_self ..))
          have g2 : HiI H13 T.C_History p.hi p.hx m p.hc p.by_ := b13 _ _ ne6 g2'
          have g3 := b13 _ _ ne7 g3'
          have g4 := b13 _ _ ne8 g4'
          have g5 := b13 _ _ ne9 g5'
          have g6 := b13 _ _ ne1.symm g6'
          have r1' := b13 _ _ (ne_of_obj r1 g1' (fun z => by cases z)) r1
          have r2' := r2.ins b13 g1'
          clear g1' g2' g3' g4' g5' g6' r1 r2 k12 hcs12 hD12 hL12
          wtm_at "xs"
          refine ⟨p.hi, p.hx, m, p.hc, p.by_, R.map fun r : Cr => V.ref r.a, kvs, (j : Int), x.n + 1, dp, rfl, g2, g3, by rw [List.length_map]; have z := w1.hRl; omega, g4, by have z := w1.kl; omega, fun H14 rr rdx hrr b14 e1 e2 e3 e4 => ?_⟩
          have nn13 := nn6 g6 v1 g2 g3 g4 g5
          have f1 := k13.fr hrr nn13
          have k14 := k13.b3 b14 (by simp) (by simp) (by simp)
          have kt' : ∀ {c : Addr} {ys : List V}, H13 c = some (.tup ys) → H14 c = some (.tup ys) := fun hc => b14 _ _ (ne_of_obj hc g2 (fun z => by cases z)) (ne_of_obj hc g3 (fun z => by cases z)) (ne_of_obj hc g4 (fun z => by cases z)) hc
          have q1 := b14 _ _ ne6.symm ne7.symm ne8.symm v1
          have q2 := b14 _ _ (nk v2 g2 (by show ¬ (100 + (Str.ofString "number").cps.toList.headD 0 = 100 + (Str.ofString "events").cps.toList.headD 0); decide +kernel)) (nk v2 g3 (by show ¬ (100 + (Str.ofString "number").cps.toList.headD 0 = 3); decide +kernel)) (nk v2 g4 (by show ¬ (100 + (Str.ofString "number").cps.toList.headD 0 = 5); decide +kernel)) v2
          have q3 : RgAt H14 pl T2 := ⟨kt' hT2.tup, fun e he => kt' (hT2.it e he)⟩
          have q4 : RgAt H14 mpl U := ⟨kt' r2'.tup, fun e he => kt' (r2'.it e he)⟩
          have q5 := kt' r1'
          have q6 := b14 _ _ ne2.symm ne3.symm ne4.symm g6
          have q7 := b14 _ _ ne10 ne11 ne12 g5
          clear v1 v2 hT2 r2' r1' g6 g5 g2 g3 g4 b13 k13 b14 kt' nn13 hrr hoc1
          wtm_at "xs"
          intro nb H15 hnb s15 h15
          have nn14 := nn6 q6 q1 e1 e2 e3 q7
          have f2 := k14.fr hnb nn14
          have l7 := s15 _ _ q7
          have hz : (B.map V.ref).length < 100000 := by rw [List.length_map, w1.hBl]; have z := w1.hRl; omega
          wtm_at "xs"
          have b16 : Xk.But p.rs H15 (upd H15 p.rs (.lst (B.map V.ref ++ [.ref nb]))) := Xk.but_mut (Xk.But.refl _ _)
          have l8 : (upd H15 p.rs (.lst (B.map V.ref ++ [.ref nb]))) p.rs = some (.lst (B.map V.ref ++ [.ref nb])) := upd_same
          generalize upd H15 p.rs (.lst (B.map V.ref ++ [.ref nb])) = H16 at b16 l8 ⊢
          have k16 := (k14.same s15).but b16 (by simp)
          have kt' : ∀ {c : Addr} {ys : List V}, H14 c = some (.tup ys) → H16 c = some (.tup ys) := fun hc => b16 _ _ (ne_of_obj (s15 _ _ hc) l7 (fun z => by cases z)) (s15 _ _ hc)
          obtain ⟨dd, hdd⟩ := hD.pk (K := K)
          have eT : T2.map (·.2) = U.map (·.2) := by rw [eT2, u3, px.eq]
          have okT : ∀ z ∈ T2.map (·.2), Ok z.1 := fun z hz => by
            rw [eT2] at hz
            obtain ⟨k, hk, rfl⟩ := List.mem_map.mp hz
            rcases (mem k).mp hk with ⟨e, he, rfl⟩ | ⟨e, he, rfl⟩
            · exact (hD.fv e he).1
            · exact Dd.okk (hD.ok e he)
          obtain ⟨e0, r0, rfl⟩ : ∃ e0 r0, T2 = e0 :: r0 := by
            cases T2 with
            | cons e0 r0 => exact ⟨e0, r0, rfl⟩
            | nil =>
              obtain ⟨d0, hd0⟩ := Xk.lt_at (xs := D) (j := 0) (by omega)
              have z := (mem d0.2.key).mpr (.inr ⟨d0, List.mem_of_getElem? hd0, rfl⟩)
              cases ts2 with
              | nil => cases z
              | cons u v => cases eT2
          refine ⟨_, _, _, _, _, _, _, _, _, _, _, _, _, _, _, _, rfl, w1.ask hx k16 (b16 _ _ ne9.symm (s15 _ _ q1)) (b16 _ _ ne5.symm (s15 _ _ q6)) (b16 _ _ (nk (s15 _ _ q2) l7 (by show ¬ (100 + (Str.ofString "number").cps.toList.headD 0 = 3); decide +kernel)) (s15 _ _ q2)) (kt' q5) ⟨kt' q3.tup, fun e he => kt' (q3.it e he)⟩ ⟨kt' q4.tup, fun e he => kt' (q4.it e he)⟩ eT okT ((hdd.mono (by decide)).st (k16.st t))
            (b16 _ _ ne10.symm (s15 _ _ e1)) (b16 _ _ ne11.symm (s15 _ _ e2)) (b16 _ _ ne12.symm (s15 _ _ e3)) (b16 _ _ (ne_of_obj (s15 _ _ e4) l7 (fun z => by cases z)) (s15 _ _ e4)) l8 (b16 _ _ (Xk.ne_new hnb q7).symm h15) f1 f2⟩
        · exact els _ ⟨n4, hbx4, w1⟩
      · rw [o2] at hmd
        wtm_at "xs"
        exact els _ ⟨_, hbx3, w1⟩
    · rintro σ' H' ⟨y11, y12, y13, y14, y15, y16, y17, y18, y19, y20, y21, m, Z, R, B, kvs, rfl, w1⟩
      wtm_at "xs"
      refine ⟨p.cs, p.ms, p.hi, p.rs, p.hx, p.hc, p.by_, m, Z, R, B, rfl, w1.hcs, w1.hms, w1.hZ, w1.hP, w1.hh, w1.hhc, w1.hR, by have z := w1.hRl; omega, w1.hrs, w1.hBl, w1.hB, w1.hds, fun H2 s2 => ?_⟩
      wtm_at "xs"
      exact ⟨_, _, _, _, _, _, _, _, _, _, _, _, _, _, _, _, _, rfl, w1.same s2⟩
  · rintro σ' H1 ⟨y1, y11, y12, y13, y14, y15, y16, y17, y18, y19, y20, y21, m, Z, R, B, kvs, rfl, w1⟩
    wtm_at "xs"
    exact q H1
end
theorem all_mk {l : PySem.W.OpenLaw} {w : World} {K : PySem.W.Frag} {h : Heap} {mg : Str → Option Value} {fa C_CallRow C_Client C_History C_OpenCall f_key_in f_is_within f_with_ends f_first_beliefs f_cell_of f_learned f_places_of f__cut f__row_behind f_key_of_deed f_keys_of f_OpenCall___init__ f_OpenCall_home p_OpenCall_home f_OpenCall_request f_Client___init__ f_Client_begin f_Client_hear f_CallRow___init__ f_CallRow_as_row f_History___init__ f_History_ask f_History_close f_History_rows f__law_number f__law_take f__law_key f__law_keys f__law_value f__law_maybe f__law_deed f__law_deal f__law_names f__law_cell f__law_answer f__law_agrees f_law : Addr} (X : K.In h) (G : h.Ns mainGlobals mg) (hfa : mg "law" = some (.ref fa))
    {od_key_in an_key_in od_is_within an_is_within od_with_ends an_with_ends od_first_beliefs an_first_beliefs od_cell_of an_cell_of od_learned an_learned od_places_of an_places_of od__cut an__cut od__row_behind an__row_behind od_key_of_deed an_key_of_deed od_keys_of an_keys_of od_OpenCall___init__ an_OpenCall___init__ od_OpenCall_home an_OpenCall_home od_OpenCall_request an_OpenCall_request od_Client___init__ an_Client___init__ od_Client_begin an_Client_begin od_Client_hear an_Client_hear od_CallRow___init__ an_CallRow___init__ od_CallRow_as_row an_CallRow_as_row od_History___init__ an_History___init__ od_History_ask an_History_ask od_History_close an_History_close od_History_rows an_History_rows od__law_number an__law_number od__law_take an__law_take od__law_key an__law_key od__law_keys an__law_keys od__law_value an__law_value od__law_maybe an__law_maybe od__law_deed an__law_deed od__law_deal an__law_deal od__law_names an__law_names od__law_cell an__law_cell od__law_answer an__law_answer od__law_agrees an__law_agrees od_law an_law : Option Addr} {sl_key_in sl_is_within sl_with_ends sl_first_beliefs sl_cell_of sl_learned sl_places_of sl__cut sl__row_behind sl_key_of_deed sl_keys_of sl_OpenCall___init__ sl_OpenCall_home sl_OpenCall_request sl_Client___init__ sl_Client_begin sl_Client_hear sl_CallRow___init__ sl_CallRow_as_row sl_History___init__ sl_History_ask sl_History_close sl_History_rows sl__law_number sl__law_take sl__law_key sl__law_keys sl__law_value sl__law_maybe sl__law_deed sl__law_deal sl__law_names sl__law_cell sl__law_answer sl__law_agrees sl_law : Array (Option Value)} {oc_key_in kV_key_in dc_key_in pm_key_in cd_key_in ct_key_in oc_is_within kV_is_within dc_is_within pm_is_within cd_is_within ct_is_within oc_with_ends kV_with_ends dc_with_ends pm_with_ends cd_with_ends ct_with_ends oc_first_beliefs kV_first_beliefs dc_first_beliefs pm_first_beliefs cd_first_beliefs ct_first_beliefs oc_cell_of kV_cell_of dc_cell_of pm_cell_of cd_cell_of ct_cell_of oc_learned kV_learned dc_learned pm_learned cd_learned ct_learned oc_places_of kV_places_of dc_places_of pm_places_of cd_places_of ct_places_of oc__cut kV__cut dc__cut pm__cut cd__cut ct__cut oc__row_behind kV__row_behind dc__row_behind pm__row_behind cd__row_behind ct__row_behind oc_key_of_deed kV_key_of_deed dc_key_of_deed pm_key_of_deed cd_key_of_deed ct_key_of_deed oc_keys_of kV_keys_of dc_keys_of pm_keys_of cd_keys_of ct_keys_of oc_OpenCall___init__ kV_OpenCall___init__ dc_OpenCall___init__ pm_OpenCall___init__ cd_OpenCall___init__ ct_OpenCall___init__ oc_OpenCall_home kV_OpenCall_home dc_OpenCall_home pm_OpenCall_home cd_OpenCall_home ct_OpenCall_home oc_OpenCall_request kV_OpenCall_request dc_OpenCall_request pm_OpenCall_request cd_OpenCall_request ct_OpenCall_request oc_Client___init__ kV_Client___init__ dc_Client___init__ pm_Client___init__ cd_Client___init__ ct_Client___init__ oc_Client_begin kV_Client_begin dc_Client_begin pm_Client_begin cd_Client_begin ct_Client_begin oc_Client_hear kV_Client_hear dc_Client_hear pm_Client_hear cd_Client_hear ct_Client_hear oc_CallRow___init__ kV_CallRow___init__ dc_CallRow___init__ pm_CallRow___init__ cd_CallRow___init__ ct_CallRow___init__ oc_CallRow_as_row kV_CallRow_as_row dc_CallRow_as_row pm_CallRow_as_row cd_CallRow_as_row ct_CallRow_as_row oc_History___init__ kV_History___init__ dc_History___init__ pm_History___init__ cd_History___init__ ct_History___init__ oc_History_ask kV_History_ask dc_History_ask pm_History_ask cd_History_ask ct_History_ask oc_History_close kV_History_close dc_History_close pm_History_close cd_History_close ct_History_close oc_History_rows kV_History_rows dc_History_rows pm_History_rows cd_History_rows ct_History_rows oc__law_number kV__law_number dc__law_number pm__law_number cd__law_number ct__law_number oc__law_take kV__law_take dc__law_take pm__law_take cd__law_take ct__law_take oc__law_key kV__law_key dc__law_key pm__law_key cd__law_key ct__law_key oc__law_keys kV__law_keys dc__law_keys pm__law_keys cd__law_keys ct__law_keys oc__law_value kV__law_value dc__law_value pm__law_value cd__law_value ct__law_value oc__law_maybe kV__law_maybe dc__law_maybe pm__law_maybe cd__law_maybe ct__law_maybe oc__law_deed kV__law_deed dc__law_deed pm__law_deed cd__law_deed ct__law_deed oc__law_deal kV__law_deal dc__law_deal pm__law_deal cd__law_deal ct__law_deal oc__law_names kV__law_names dc__law_names pm__law_names cd__law_names ct__law_names oc__law_cell kV__law_cell dc__law_cell pm__law_cell cd__law_cell ct__law_cell oc__law_answer kV__law_answer dc__law_answer pm__law_answer cd__law_answer ct__law_answer oc__law_agrees kV__law_agrees dc__law_agrees pm__law_agrees cd__law_agrees ct__law_agrees oc_law kV_law dc_law pm_law cd_law ct_law : Value} {pz_OpenCall_home : List Value}
    (aC_CallRow : PySem.W.nsIn K mainGlobals "CallRow" = some (some (.ref C_CallRow)))
    (pg_CallRow : PySem.W.plainGet K C_CallRow Str.empty = true)
    (hd_CallRow : PySem.W.hasDictIn K C_CallRow = true)
    (po_CallRow : PySem.W.plainOver K C_CallRow = true)
    (sa_CallRow : PySem.W.findIn K (.ref C_CallRow) "__setattr__" = some (some (.builtin "object.__setattr__")))
    (mk_CallRow : PySem.W.makesIn K C_CallRow = true)
    (kc_CallRow : PySem.W.keepIn K (.ref C_CallRow) = true)
    (na_CallRow_client : PySem.W.findIn K (.ref C_CallRow) "client" = some none)
    (na_CallRow_number : PySem.W.findIn K (.ref C_CallRow) "number" = some none)
    (na_CallRow_deal : PySem.W.findIn K (.ref C_CallRow) "deal" = some none)
    (na_CallRow_asked : PySem.W.findIn K (.ref C_CallRow) "asked" = some none)
    (na_CallRow_answered : PySem.W.findIn K (.ref C_CallRow) "answered" = some none)
    (na_CallRow_answer : PySem.W.findIn K (.ref C_CallRow) "answer" = some none)
    (aC_Client : PySem.W.nsIn K mainGlobals "Client" = some (some (.ref C_Client)))
    (pg_Client : PySem.W.plainGet K C_Client Str.empty = true)
    (hd_Client : PySem.W.hasDictIn K C_Client = true)
    (po_Client : PySem.W.plainOver K C_Client = true)
    (sa_Client : PySem.W.findIn K (.ref C_Client) "__setattr__" = some (some (.builtin "object.__setattr__")))
    (mk_Client : PySem.W.makesIn K C_Client = true)
    (kc_Client : PySem.W.keepIn K (.ref C_Client) = true)
    (na_Client_beliefs : PySem.W.findIn K (.ref C_Client) "beliefs" = some none)
    (na_Client_number : PySem.W.findIn K (.ref C_Client) "number" = some none)
    (na_Client_call : PySem.W.findIn K (.ref C_Client) "call" = some none)
    (aC_History : PySem.W.nsIn K mainGlobals "History" = some (some (.ref C_History)))
    (pg_History : PySem.W.plainGet K C_History Str.empty = true)
    (hd_History : PySem.W.hasDictIn K C_History = true)
    (po_History : PySem.W.plainOver K C_History = true)
    (sa_History : PySem.W.findIn K (.ref C_History) "__setattr__" = some (some (.builtin "object.__setattr__")))
    (mk_History : PySem.W.makesIn K C_History = true)
    (kc_History : PySem.W.keepIn K (.ref C_History) = true)
    (na_History_events : PySem.W.findIn K (.ref C_History) "events" = some none)
    (na_History__calls : PySem.W.findIn K (.ref C_History) "_calls" = some none)
    (na_History__by_name : PySem.W.findIn K (.ref C_History) "_by_name" = some none)
    (aC_OpenCall : PySem.W.nsIn K mainGlobals "OpenCall" = some (some (.ref C_OpenCall)))
    (pg_OpenCall : PySem.W.plainGet K C_OpenCall Str.empty = true)
    (hd_OpenCall : PySem.W.hasDictIn K C_OpenCall = true)
    (po_OpenCall : PySem.W.plainOver K C_OpenCall = true)
    (sa_OpenCall : PySem.W.findIn K (.ref C_OpenCall) "__setattr__" = some (some (.builtin "object.__setattr__")))
    (mk_OpenCall : PySem.W.makesIn K C_OpenCall = true)
    (kc_OpenCall : PySem.W.keepIn K (.ref C_OpenCall) = true)
    (na_OpenCall_number : PySem.W.findIn K (.ref C_OpenCall) "number" = some none)
    (na_OpenCall_deal : PySem.W.findIn K (.ref C_OpenCall) "deal" = some none)
    (na_OpenCall_places : PySem.W.findIn K (.ref C_OpenCall) "places" = some none)
    (a_key_in : PySem.W.nsIn K mainGlobals "key_in" = some (some (.ref f_key_in)))
    (l_key_in : K.lookup f_key_in = some ⟨oc_key_in, od_key_in, .func (PySem.W.fnOf "key_in" "key_in" (defArgs s_key_in) (defBody s_key_in) (defScope s_key_in) .none kV_key_in dc_key_in pm_key_in an_key_in cd_key_in ct_key_in), sl_key_in⟩)
    (c_key_in : PySem.W.codeIn K cd_key_in "key_in" = true)
    (k_key_in : PySem.W.keepIn K (.ref f_key_in) = true)
    (a_is_within : PySem.W.nsIn K mainGlobals "is_within" = some (some (.ref f_is_within)))
    (l_is_within : K.lookup f_is_within = some ⟨oc_is_within, od_is_within, .func (PySem.W.fnOf "is_within" "is_within" (defArgs s_is_within) (defBody s_is_within) (defScope s_is_within) .none kV_is_within dc_is_within pm_is_within an_is_within cd_is_within ct_is_within), sl_is_within⟩)
    (c_is_within : PySem.W.codeIn K cd_is_within "is_within" = true)
    (k_is_within : PySem.W.keepIn K (.ref f_is_within) = true)
    (a_with_ends : PySem.W.nsIn K mainGlobals "with_ends" = some (some (.ref f_with_ends)))
    (l_with_ends : K.lookup f_with_ends = some ⟨oc_with_ends, od_with_ends, .func (PySem.W.fnOf "with_ends" "with_ends" (defArgs s_with_ends) (defBody s_with_ends) (defScope s_with_ends) .none kV_with_ends dc_with_ends pm_with_ends an_with_ends cd_with_ends ct_with_ends), sl_with_ends⟩)
    (c_with_ends : PySem.W.codeIn K cd_with_ends "with_ends" = true)
    (k_with_ends : PySem.W.keepIn K (.ref f_with_ends) = true)
    (a_first_beliefs : PySem.W.nsIn K mainGlobals "first_beliefs" = some (some (.ref f_first_beliefs)))
    (l_first_beliefs : K.lookup f_first_beliefs = some ⟨oc_first_beliefs, od_first_beliefs, .func (PySem.W.fnOf "first_beliefs" "first_beliefs" (defArgs s_first_beliefs) (defBody s_first_beliefs) (defScope s_first_beliefs) .none kV_first_beliefs dc_first_beliefs pm_first_beliefs an_first_beliefs cd_first_beliefs ct_first_beliefs), sl_first_beliefs⟩)
    (c_first_beliefs : PySem.W.codeIn K cd_first_beliefs "first_beliefs" = true)
    (k_first_beliefs : PySem.W.keepIn K (.ref f_first_beliefs) = true)
    (a_cell_of : PySem.W.nsIn K mainGlobals "cell_of" = some (some (.ref f_cell_of)))
    (l_cell_of : K.lookup f_cell_of = some ⟨oc_cell_of, od_cell_of, .func (PySem.W.fnOf "cell_of" "cell_of" (defArgs s_cell_of) (defBody s_cell_of) (defScope s_cell_of) .none kV_cell_of dc_cell_of pm_cell_of an_cell_of cd_cell_of ct_cell_of), sl_cell_of⟩)
    (c_cell_of : PySem.W.codeIn K cd_cell_of "cell_of" = true)
    (k_cell_of : PySem.W.keepIn K (.ref f_cell_of) = true)
    (a_learned : PySem.W.nsIn K mainGlobals "learned" = some (some (.ref f_learned)))
    (l_learned : K.lookup f_learned = some ⟨oc_learned, od_learned, .func (PySem.W.fnOf "learned" "learned" (defArgs s_learned) (defBody s_learned) (defScope s_learned) .none kV_learned dc_learned pm_learned an_learned cd_learned ct_learned), sl_learned⟩)
    (c_learned : PySem.W.codeIn K cd_learned "learned" = true)
    (k_learned : PySem.W.keepIn K (.ref f_learned) = true)
    (a_places_of : PySem.W.nsIn K mainGlobals "places_of" = some (some (.ref f_places_of)))
    (l_places_of : K.lookup f_places_of = some ⟨oc_places_of, od_places_of, .func (PySem.W.fnOf "places_of" "places_of" (defArgs s_places_of) (defBody s_places_of) (defScope s_places_of) .none kV_places_of dc_places_of pm_places_of an_places_of cd_places_of ct_places_of), sl_places_of⟩)
    (c_places_of : PySem.W.codeIn K cd_places_of "places_of" = true)
    (k_places_of : PySem.W.keepIn K (.ref f_places_of) = true)
    (a__cut : PySem.W.nsIn K mainGlobals "_cut" = some (some (.ref f__cut)))
    (l__cut : K.lookup f__cut = some ⟨oc__cut, od__cut, .func (PySem.W.fnOf "_cut" "_cut" (defArgs s__cut) (defBody s__cut) (defScope s__cut) .none kV__cut dc__cut pm__cut an__cut cd__cut ct__cut), sl__cut⟩)
    (c__cut : PySem.W.codeIn K cd__cut "_cut" = true)
    (k__cut : PySem.W.keepIn K (.ref f__cut) = true)
    (a__row_behind : PySem.W.nsIn K mainGlobals "_row_behind" = some (some (.ref f__row_behind)))
    (l__row_behind : K.lookup f__row_behind = some ⟨oc__row_behind, od__row_behind, .func (PySem.W.fnOf "_row_behind" "_row_behind" (defArgs s__row_behind) (defBody s__row_behind) (defScope s__row_behind) .none kV__row_behind dc__row_behind pm__row_behind an__row_behind cd__row_behind ct__row_behind), sl__row_behind⟩)
    (c__row_behind : PySem.W.codeIn K cd__row_behind "_row_behind" = true)
    (k__row_behind : PySem.W.keepIn K (.ref f__row_behind) = true)
    (a_key_of_deed : PySem.W.nsIn K mainGlobals "key_of_deed" = some (some (.ref f_key_of_deed)))
    (l_key_of_deed : K.lookup f_key_of_deed = some ⟨oc_key_of_deed, od_key_of_deed, .func (PySem.W.fnOf "key_of_deed" "key_of_deed" (defArgs s_key_of_deed) (defBody s_key_of_deed) (defScope s_key_of_deed) .none kV_key_of_deed dc_key_of_deed pm_key_of_deed an_key_of_deed cd_key_of_deed ct_key_of_deed), sl_key_of_deed⟩)
    (c_key_of_deed : PySem.W.codeIn K cd_key_of_deed "key_of_deed" = true)
    (k_key_of_deed : PySem.W.keepIn K (.ref f_key_of_deed) = true)
    (a_keys_of : PySem.W.nsIn K mainGlobals "keys_of" = some (some (.ref f_keys_of)))
    (l_keys_of : K.lookup f_keys_of = some ⟨oc_keys_of, od_keys_of, .func (PySem.W.fnOf "keys_of" "keys_of" (defArgs s_keys_of) (defBody s_keys_of) (defScope s_keys_of) .none kV_keys_of dc_keys_of pm_keys_of an_keys_of cd_keys_of ct_keys_of), sl_keys_of⟩)
    (c_keys_of : PySem.W.codeIn K cd_keys_of "keys_of" = true)
    (k_keys_of : PySem.W.keepIn K (.ref f_keys_of) = true)
    (a_OpenCall___init__ : PySem.W.findIn K (.ref C_OpenCall) "__init__" = some (some (.ref f_OpenCall___init__)))
    (i_OpenCall___init__ : PySem.W.isFn K (.ref f_OpenCall___init__) = true)
    (l_OpenCall___init__ : K.lookup f_OpenCall___init__ = some ⟨oc_OpenCall___init__, od_OpenCall___init__, .func (PySem.W.fnOf "__init__" "OpenCall.__init__" (defArgs s_OpenCall___init__) (defBody s_OpenCall___init__) (defScope s_OpenCall___init__) .none kV_OpenCall___init__ dc_OpenCall___init__ pm_OpenCall___init__ an_OpenCall___init__ cd_OpenCall___init__ ct_OpenCall___init__), sl_OpenCall___init__⟩)
    (c_OpenCall___init__ : PySem.W.codeIn K cd_OpenCall___init__ "OpenCall.__init__" = true)
    (k_OpenCall___init__ : PySem.W.keepIn K (.ref f_OpenCall___init__) = true)
    (a_OpenCall_home : PySem.W.findIn K (.ref C_OpenCall) "home" = some (some (.ref p_OpenCall_home)))
    (pg_OpenCall_home : PySem.W.specialIn K (.ref p_OpenCall_home) "__get__" = some (some (.builtin "property.__get__")))
    (pt_OpenCall_home : PySem.W.takesIn K (.ref p_OpenCall_home) = some true)
    (pr_OpenCall_home : PySem.W.recIn K p_OpenCall_home "property" = some (.ref f_OpenCall_home :: pz_OpenCall_home))
    (l_OpenCall_home : K.lookup f_OpenCall_home = some ⟨oc_OpenCall_home, od_OpenCall_home, .func (PySem.W.fnOf "home" "OpenCall.home" (defArgs s_OpenCall_home) (defBody s_OpenCall_home) (defScope s_OpenCall_home) .none kV_OpenCall_home dc_OpenCall_home pm_OpenCall_home an_OpenCall_home cd_OpenCall_home ct_OpenCall_home), sl_OpenCall_home⟩)
    (c_OpenCall_home : PySem.W.codeIn K cd_OpenCall_home "OpenCall.home" = true)
    (k_OpenCall_home : PySem.W.keepIn K (.ref f_OpenCall_home) = true)
    (a_OpenCall_request : PySem.W.findIn K (.ref C_OpenCall) "request" = some (some (.ref f_OpenCall_request)))
    (i_OpenCall_request : PySem.W.isFn K (.ref f_OpenCall_request) = true)
    (l_OpenCall_request : K.lookup f_OpenCall_request = some ⟨oc_OpenCall_request, od_OpenCall_request, .func (PySem.W.fnOf "request" "OpenCall.request" (defArgs s_OpenCall_request) (defBody s_OpenCall_request) (defScope s_OpenCall_request) .none kV_OpenCall_request dc_OpenCall_request pm_OpenCall_request an_OpenCall_request cd_OpenCall_request ct_OpenCall_request), sl_OpenCall_request⟩)
    (c_OpenCall_request : PySem.W.codeIn K cd_OpenCall_request "OpenCall.request" = true)
    (k_OpenCall_request : PySem.W.keepIn K (.ref f_OpenCall_request) = true)
    (a_Client___init__ : PySem.W.findIn K (.ref C_Client) "__init__" = some (some (.ref f_Client___init__)))
    (i_Client___init__ : PySem.W.isFn K (.ref f_Client___init__) = true)
    (l_Client___init__ : K.lookup f_Client___init__ = some ⟨oc_Client___init__, od_Client___init__, .func (PySem.W.fnOf "__init__" "Client.__init__" (defArgs s_Client___init__) (defBody s_Client___init__) (defScope s_Client___init__) .none kV_Client___init__ dc_Client___init__ pm_Client___init__ an_Client___init__ cd_Client___init__ ct_Client___init__), sl_Client___init__⟩)
    (c_Client___init__ : PySem.W.codeIn K cd_Client___init__ "Client.__init__" = true)
    (k_Client___init__ : PySem.W.keepIn K (.ref f_Client___init__) = true)
    (a_Client_begin : PySem.W.findIn K (.ref C_Client) "begin" = some (some (.ref f_Client_begin)))
    (i_Client_begin : PySem.W.isFn K (.ref f_Client_begin) = true)
    (l_Client_begin : K.lookup f_Client_begin = some ⟨oc_Client_begin, od_Client_begin, .func (PySem.W.fnOf "begin" "Client.begin" (defArgs s_Client_begin) (defBody s_Client_begin) (defScope s_Client_begin) .none kV_Client_begin dc_Client_begin pm_Client_begin an_Client_begin cd_Client_begin ct_Client_begin), sl_Client_begin⟩)
    (c_Client_begin : PySem.W.codeIn K cd_Client_begin "Client.begin" = true)
    (k_Client_begin : PySem.W.keepIn K (.ref f_Client_begin) = true)
    (a_Client_hear : PySem.W.findIn K (.ref C_Client) "hear" = some (some (.ref f_Client_hear)))
    (i_Client_hear : PySem.W.isFn K (.ref f_Client_hear) = true)
    (l_Client_hear : K.lookup f_Client_hear = some ⟨oc_Client_hear, od_Client_hear, .func (PySem.W.fnOf "hear" "Client.hear" (defArgs s_Client_hear) (defBody s_Client_hear) (defScope s_Client_hear) .none kV_Client_hear dc_Client_hear pm_Client_hear an_Client_hear cd_Client_hear ct_Client_hear), sl_Client_hear⟩)
    (c_Client_hear : PySem.W.codeIn K cd_Client_hear "Client.hear" = true)
    (k_Client_hear : PySem.W.keepIn K (.ref f_Client_hear) = true)
    (a_CallRow___init__ : PySem.W.findIn K (.ref C_CallRow) "__init__" = some (some (.ref f_CallRow___init__)))
    (i_CallRow___init__ : PySem.W.isFn K (.ref f_CallRow___init__) = true)
    (l_CallRow___init__ : K.lookup f_CallRow___init__ = some ⟨oc_CallRow___init__, od_CallRow___init__, .func (PySem.W.fnOf "__init__" "CallRow.__init__" (defArgs s_CallRow___init__) (defBody s_CallRow___init__) (defScope s_CallRow___init__) .none kV_CallRow___init__ dc_CallRow___init__ pm_CallRow___init__ an_CallRow___init__ cd_CallRow___init__ ct_CallRow___init__), sl_CallRow___init__⟩)
    (c_CallRow___init__ : PySem.W.codeIn K cd_CallRow___init__ "CallRow.__init__" = true)
    (k_CallRow___init__ : PySem.W.keepIn K (.ref f_CallRow___init__) = true)
    (a_CallRow_as_row : PySem.W.findIn K (.ref C_CallRow) "as_row" = some (some (.ref f_CallRow_as_row)))
    (i_CallRow_as_row : PySem.W.isFn K (.ref f_CallRow_as_row) = true)
    (l_CallRow_as_row : K.lookup f_CallRow_as_row = some ⟨oc_CallRow_as_row, od_CallRow_as_row, .func (PySem.W.fnOf "as_row" "CallRow.as_row" (defArgs s_CallRow_as_row) (defBody s_CallRow_as_row) (defScope s_CallRow_as_row) .none kV_CallRow_as_row dc_CallRow_as_row pm_CallRow_as_row an_CallRow_as_row cd_CallRow_as_row ct_CallRow_as_row), sl_CallRow_as_row⟩)
    (c_CallRow_as_row : PySem.W.codeIn K cd_CallRow_as_row "CallRow.as_row" = true)
    (k_CallRow_as_row : PySem.W.keepIn K (.ref f_CallRow_as_row) = true)
    (a_History___init__ : PySem.W.findIn K (.ref C_History) "__init__" = some (some (.ref f_History___init__)))
    (i_History___init__ : PySem.W.isFn K (.ref f_History___init__) = true)
    (l_History___init__ : K.lookup f_History___init__ = some ⟨oc_History___init__, od_History___init__, .func (PySem.W.fnOf "__init__" "History.__init__" (defArgs s_History___init__) (defBody s_History___init__) (defScope s_History___init__) .none kV_History___init__ dc_History___init__ pm_History___init__ an_History___init__ cd_History___init__ ct_History___init__), sl_History___init__⟩)
    (c_History___init__ : PySem.W.codeIn K cd_History___init__ "History.__init__" = true)
    (k_History___init__ : PySem.W.keepIn K (.ref f_History___init__) = true)
    (a_History_ask : PySem.W.findIn K (.ref C_History) "ask" = some (some (.ref f_History_ask)))
    (i_History_ask : PySem.W.isFn K (.ref f_History_ask) = true)
    (l_History_ask : K.lookup f_History_ask = some ⟨oc_History_ask, od_History_ask, .func (PySem.W.fnOf "ask" "History.ask" (defArgs s_History_ask) (defBody s_History_ask) (defScope s_History_ask) .none kV_History_ask dc_History_ask pm_History_ask an_History_ask cd_History_ask ct_History_ask), sl_History_ask⟩)
    (c_History_ask : PySem.W.codeIn K cd_History_ask "History.ask" = true)
    (k_History_ask : PySem.W.keepIn K (.ref f_History_ask) = true)
    (a_History_close : PySem.W.findIn K (.ref C_History) "close" = some (some (.ref f_History_close)))
    (i_History_close : PySem.W.isFn K (.ref f_History_close) = true)
    (l_History_close : K.lookup f_History_close = some ⟨oc_History_close, od_History_close, .func (PySem.W.fnOf "close" "History.close" (defArgs s_History_close) (defBody s_History_close) (defScope s_History_close) .none kV_History_close dc_History_close pm_History_close an_History_close cd_History_close ct_History_close), sl_History_close⟩)
    (c_History_close : PySem.W.codeIn K cd_History_close "History.close" = true)
    (k_History_close : PySem.W.keepIn K (.ref f_History_close) = true)
    (a_History_rows : PySem.W.findIn K (.ref C_History) "rows" = some (some (.ref f_History_rows)))
    (i_History_rows : PySem.W.isFn K (.ref f_History_rows) = true)
    (l_History_rows : K.lookup f_History_rows = some ⟨oc_History_rows, od_History_rows, .func (PySem.W.fnOf "rows" "History.rows" (defArgs s_History_rows) (defBody s_History_rows) (defScope s_History_rows) .none kV_History_rows dc_History_rows pm_History_rows an_History_rows cd_History_rows ct_History_rows), sl_History_rows⟩)
    (c_History_rows : PySem.W.codeIn K cd_History_rows "History.rows" = true)
    (k_History_rows : PySem.W.keepIn K (.ref f_History_rows) = true)
    (a__law_number : PySem.W.nsIn K mainGlobals "_law_number" = some (some (.ref f__law_number)))
    (l__law_number : K.lookup f__law_number = some ⟨oc__law_number, od__law_number, .func (PySem.W.fnOf "_law_number" "_law_number" (defArgs s__law_number) (defBody s__law_number) (defScope s__law_number) .none kV__law_number dc__law_number pm__law_number an__law_number cd__law_number ct__law_number), sl__law_number⟩)
    (c__law_number : PySem.W.codeIn K cd__law_number "_law_number" = true)
    (k__law_number : PySem.W.keepIn K (.ref f__law_number) = true)
    (a__law_take : PySem.W.nsIn K mainGlobals "_law_take" = some (some (.ref f__law_take)))
    (l__law_take : K.lookup f__law_take = some ⟨oc__law_take, od__law_take, .func (PySem.W.fnOf "_law_take" "_law_take" (defArgs s__law_take) (defBody s__law_take) (defScope s__law_take) .none kV__law_take dc__law_take pm__law_take an__law_take cd__law_take ct__law_take), sl__law_take⟩)
    (c__law_take : PySem.W.codeIn K cd__law_take "_law_take" = true)
    (k__law_take : PySem.W.keepIn K (.ref f__law_take) = true)
    (a__law_key : PySem.W.nsIn K mainGlobals "_law_key" = some (some (.ref f__law_key)))
    (l__law_key : K.lookup f__law_key = some ⟨oc__law_key, od__law_key, .func (PySem.W.fnOf "_law_key" "_law_key" (defArgs s__law_key) (defBody s__law_key) (defScope s__law_key) .none kV__law_key dc__law_key pm__law_key an__law_key cd__law_key ct__law_key), sl__law_key⟩)
    (c__law_key : PySem.W.codeIn K cd__law_key "_law_key" = true)
    (k__law_key : PySem.W.keepIn K (.ref f__law_key) = true)
    (a__law_keys : PySem.W.nsIn K mainGlobals "_law_keys" = some (some (.ref f__law_keys)))
    (l__law_keys : K.lookup f__law_keys = some ⟨oc__law_keys, od__law_keys, .func (PySem.W.fnOf "_law_keys" "_law_keys" (defArgs s__law_keys) (defBody s__law_keys) (defScope s__law_keys) .none kV__law_keys dc__law_keys pm__law_keys an__law_keys cd__law_keys ct__law_keys), sl__law_keys⟩)
    (c__law_keys : PySem.W.codeIn K cd__law_keys "_law_keys" = true)
    (k__law_keys : PySem.W.keepIn K (.ref f__law_keys) = true)
    (a__law_value : PySem.W.nsIn K mainGlobals "_law_value" = some (some (.ref f__law_value)))
    (l__law_value : K.lookup f__law_value = some ⟨oc__law_value, od__law_value, .func (PySem.W.fnOf "_law_value" "_law_value" (defArgs s__law_value) (defBody s__law_value) (defScope s__law_value) .none kV__law_value dc__law_value pm__law_value an__law_value cd__law_value ct__law_value), sl__law_value⟩)
    (c__law_value : PySem.W.codeIn K cd__law_value "_law_value" = true)
    (k__law_value : PySem.W.keepIn K (.ref f__law_value) = true)
    (a__law_maybe : PySem.W.nsIn K mainGlobals "_law_maybe" = some (some (.ref f__law_maybe)))
    (l__law_maybe : K.lookup f__law_maybe = some ⟨oc__law_maybe, od__law_maybe, .func (PySem.W.fnOf "_law_maybe" "_law_maybe" (defArgs s__law_maybe) (defBody s__law_maybe) (defScope s__law_maybe) .none kV__law_maybe dc__law_maybe pm__law_maybe an__law_maybe cd__law_maybe ct__law_maybe), sl__law_maybe⟩)
    (c__law_maybe : PySem.W.codeIn K cd__law_maybe "_law_maybe" = true)
    (k__law_maybe : PySem.W.keepIn K (.ref f__law_maybe) = true)
    (a__law_deed : PySem.W.nsIn K mainGlobals "_law_deed" = some (some (.ref f__law_deed)))
    (l__law_deed : K.lookup f__law_deed = some ⟨oc__law_deed, od__law_deed, .func (PySem.W.fnOf "_law_deed" "_law_deed" (defArgs s__law_deed) (defBody s__law_deed) (defScope s__law_deed) .none kV__law_deed dc__law_deed pm__law_deed an__law_deed cd__law_deed ct__law_deed), sl__law_deed⟩)
    (c__law_deed : PySem.W.codeIn K cd__law_deed "_law_deed" = true)
    (k__law_deed : PySem.W.keepIn K (.ref f__law_deed) = true)
    (a__law_deal : PySem.W.nsIn K mainGlobals "_law_deal" = some (some (.ref f__law_deal)))
    (l__law_deal : K.lookup f__law_deal = some ⟨oc__law_deal, od__law_deal, .func (PySem.W.fnOf "_law_deal" "_law_deal" (defArgs s__law_deal) (defBody s__law_deal) (defScope s__law_deal) .none kV__law_deal dc__law_deal pm__law_deal an__law_deal cd__law_deal ct__law_deal), sl__law_deal⟩)
    (c__law_deal : PySem.W.codeIn K cd__law_deal "_law_deal" = true)
    (k__law_deal : PySem.W.keepIn K (.ref f__law_deal) = true)
    (a__law_names : PySem.W.nsIn K mainGlobals "_law_names" = some (some (.ref f__law_names)))
    (l__law_names : K.lookup f__law_names = some ⟨oc__law_names, od__law_names, .func (PySem.W.fnOf "_law_names" "_law_names" (defArgs s__law_names) (defBody s__law_names) (defScope s__law_names) .none kV__law_names dc__law_names pm__law_names an__law_names cd__law_names ct__law_names), sl__law_names⟩)
    (c__law_names : PySem.W.codeIn K cd__law_names "_law_names" = true)
    (k__law_names : PySem.W.keepIn K (.ref f__law_names) = true)
    (a__law_cell : PySem.W.nsIn K mainGlobals "_law_cell" = some (some (.ref f__law_cell)))
    (l__law_cell : K.lookup f__law_cell = some ⟨oc__law_cell, od__law_cell, .func (PySem.W.fnOf "_law_cell" "_law_cell" (defArgs s__law_cell) (defBody s__law_cell) (defScope s__law_cell) .none kV__law_cell dc__law_cell pm__law_cell an__law_cell cd__law_cell ct__law_cell), sl__law_cell⟩)
    (c__law_cell : PySem.W.codeIn K cd__law_cell "_law_cell" = true)
    (k__law_cell : PySem.W.keepIn K (.ref f__law_cell) = true)
    (a__law_answer : PySem.W.nsIn K mainGlobals "_law_answer" = some (some (.ref f__law_answer)))
    (l__law_answer : K.lookup f__law_answer = some ⟨oc__law_answer, od__law_answer, .func (PySem.W.fnOf "_law_answer" "_law_answer" (defArgs s__law_answer) (defBody s__law_answer) (defScope s__law_answer) .none kV__law_answer dc__law_answer pm__law_answer an__law_answer cd__law_answer ct__law_answer), sl__law_answer⟩)
    (c__law_answer : PySem.W.codeIn K cd__law_answer "_law_answer" = true)
    (k__law_answer : PySem.W.keepIn K (.ref f__law_answer) = true)
    (a__law_agrees : PySem.W.nsIn K mainGlobals "_law_agrees" = some (some (.ref f__law_agrees)))
    (l__law_agrees : K.lookup f__law_agrees = some ⟨oc__law_agrees, od__law_agrees, .func (PySem.W.fnOf "_law_agrees" "_law_agrees" (defArgs s__law_agrees) (defBody s__law_agrees) (defScope s__law_agrees) .none kV__law_agrees dc__law_agrees pm__law_agrees an__law_agrees cd__law_agrees ct__law_agrees), sl__law_agrees⟩)
    (c__law_agrees : PySem.W.codeIn K cd__law_agrees "_law_agrees" = true)
    (k__law_agrees : PySem.W.keepIn K (.ref f__law_agrees) = true)
    (a_law : PySem.W.nsIn K mainGlobals "law" = some (some (.ref f_law)))
    (l_law : K.lookup f_law = some ⟨oc_law, od_law, .func (PySem.W.fnOf "law" "law" (defArgs s_law) (defBody s_law) (defScope s_law) .none kV_law dc_law pm_law an_law cd_law ct_law), sl_law⟩)
    (c_law : PySem.W.codeIn K cd_law "law" = true)
    (k_law : PySem.W.keepIn K (.ref f_law) = true)
    (z_int : PySem.W.nsIn K mainGlobals "int" = some none)
    (z_len : PySem.W.nsIn K mainGlobals "len" = some none)
    (z_list : PySem.W.nsIn K mainGlobals "list" = some none)
    (z_max : PySem.W.nsIn K mainGlobals "max" = some none)
    (z_range : PySem.W.nsIn K mainGlobals "range" = some none)
    (z_set : PySem.W.nsIn K mainGlobals "set" = some none)
    (z_sorted : PySem.W.nsIn K mainGlobals "sorted" = some none)
    (z_tuple : PySem.W.nsIn K mainGlobals "tuple" = some none)
    (z_zip : PySem.W.nsIn K mainGlobals "zip" = some none)
    : ∃ fd : FuncData, (∀ (s : Shared) (v : Value), BindsTo s fd ⟨[v], []⟩ [("script", v)]) ∧ ∀ base : Heap, K.In base → base.Ns mainGlobals mg → FnOk l.prog w K mg base CX0 5 fa fd ["script"] (sp_law K) := by
  have e := hfa.symm.trans (PySem.W.mg_of X G a_law)
  cases e
  have F_key_in := fun_mk (st := s_key_in) l_key_in c_key_in k_key_in
  have b_key_in := F_key_in.binds (ps := ["key", "start", "end"]) fun _ _ _ _ _ _ us hl => match us, hl with | [_, _, _], _ => rfl
  have F_is_within := fun_mk (st := s_is_within) l_is_within c_is_within k_is_within
  have b_is_within := F_is_within.binds (ps := ["start", "end", "low", "high"]) fun _ _ _ _ _ _ us hl => match us, hl with | [_, _, _, _], _ => rfl
  have F_with_ends := fun_mk (st := s_with_ends) l_with_ends c_with_ends k_with_ends
  have b_with_ends := F_with_ends.binds (ps := ["ranges"]) fun _ _ _ _ _ _ us hl => match us, hl with | [_], _ => rfl
  have F_first_beliefs := fun_mk (st := s_first_beliefs) l_first_beliefs c_first_beliefs k_first_beliefs
  have b_first_beliefs := F_first_beliefs.binds (ps := ["ranges"]) fun _ _ _ _ _ _ us hl => match us, hl with | [_], _ => rfl
  have F_cell_of := fun_mk (st := s_cell_of) l_cell_of c_cell_of k_cell_of
  have b_cell_of := F_cell_of.binds (ps := ["beliefs", "key"]) fun _ _ _ _ _ _ us hl => match us, hl with | [_, _], _ => rfl
  have F_learned := fun_mk (st := s_learned) l_learned c_learned k_learned
  have b_learned := F_learned.binds (ps := ["beliefs", "hint"]) fun _ _ _ _ _ _ us hl => match us, hl with | [_, _], _ => rfl
  have F_places_of := fun_mk (st := s_places_of) l_places_of c_places_of k_places_of
  have b_places_of := F_places_of.binds (ps := ["beliefs", "names"]) fun _ _ _ _ _ _ us hl => match us, hl with | [_, _], _ => rfl
  have F__cut := fun_mk (st := s__cut) l__cut c__cut k__cut
  have b__cut := F__cut.binds (ps := ["beliefs", "bound"]) fun _ _ _ _ _ _ us hl => match us, hl with | [_, _], _ => rfl
  have F__row_behind := fun_mk (st := s__row_behind) l__row_behind c__row_behind k__row_behind
  have b__row_behind := F__row_behind.binds (ps := ["row", "hint"]) fun _ _ _ _ _ _ us hl => match us, hl with | [_, _], _ => rfl
  have F_key_of_deed := fun_mk (st := s_key_of_deed) l_key_of_deed c_key_of_deed k_key_of_deed
  have b_key_of_deed := F_key_of_deed.binds (ps := ["deed"]) fun _ _ _ _ _ _ us hl => match us, hl with | [_], _ => rfl
  have F_keys_of := fun_mk (st := s_keys_of) l_keys_of c_keys_of k_keys_of
  have b_keys_of := F_keys_of.binds (ps := ["deal"]) fun _ _ _ _ _ _ us hl => match us, hl with | [_], _ => rfl
  have F_OpenCall___init__ := fun_mk (st := s_OpenCall___init__) l_OpenCall___init__ c_OpenCall___init__ k_OpenCall___init__
  have b_OpenCall___init__ := F_OpenCall___init__.binds (ps := ["self", "number", "deal", "places"]) fun _ _ _ _ _ _ us hl => match us, hl with | [_, _, _, _], _ => rfl
  have F_OpenCall_home := fun_mk (st := s_OpenCall_home) l_OpenCall_home c_OpenCall_home k_OpenCall_home
  have b_OpenCall_home := F_OpenCall_home.binds (ps := ["self"]) fun _ _ _ _ _ _ us hl => match us, hl with | [_], _ => rfl
  have F_OpenCall_request := fun_mk (st := s_OpenCall_request) l_OpenCall_request c_OpenCall_request k_OpenCall_request
  have b_OpenCall_request := F_OpenCall_request.binds (ps := ["self"]) fun _ _ _ _ _ _ us hl => match us, hl with | [_], _ => rfl
  have F_Client___init__ := fun_mk (st := s_Client___init__) l_Client___init__ c_Client___init__ k_Client___init__
  have b_Client___init__ := F_Client___init__.binds (ps := ["self", "ranges"]) fun _ _ _ _ _ _ us hl => match us, hl with | [_, _], _ => rfl
  have F_Client_begin := fun_mk (st := s_Client_begin) l_Client_begin c_Client_begin k_Client_begin
  have b_Client_begin := F_Client_begin.binds (ps := ["self", "deal"]) fun _ _ _ _ _ _ us hl => match us, hl with | [_, _], _ => rfl
  have F_Client_hear := fun_mk (st := s_Client_hear) l_Client_hear c_Client_hear k_Client_hear
  have b_Client_hear := F_Client_hear.binds (ps := ["self", "number", "answer"]) fun _ _ _ _ _ _ us hl => match us, hl with | [_, _, _], _ => rfl
  have F_CallRow___init__ := fun_mk (st := s_CallRow___init__) l_CallRow___init__ c_CallRow___init__ k_CallRow___init__
  have b_CallRow___init__ := F_CallRow___init__.binds (ps := ["self", "client", "number", "deal", "asked"]) fun _ _ _ _ _ _ us hl => match us, hl with | [_, _, _, _, _], _ => rfl
  have F_CallRow_as_row := fun_mk (st := s_CallRow_as_row) l_CallRow_as_row c_CallRow_as_row k_CallRow_as_row
  have b_CallRow_as_row := F_CallRow_as_row.binds (ps := ["self"]) fun _ _ _ _ _ _ us hl => match us, hl with | [_], _ => rfl
  have F_History___init__ := fun_mk (st := s_History___init__) l_History___init__ c_History___init__ k_History___init__
  have b_History___init__ := F_History___init__.binds (ps := ["self"]) fun _ _ _ _ _ _ us hl => match us, hl with | [_], _ => rfl
  have F_History_ask := fun_mk (st := s_History_ask) l_History_ask c_History_ask k_History_ask
  have b_History_ask := F_History_ask.binds (ps := ["self", "client", "number", "deal"]) fun _ _ _ _ _ _ us hl => match us, hl with | [_, _, _, _], _ => rfl
  have F_History_close := fun_mk (st := s_History_close) l_History_close c_History_close k_History_close
  have b_History_close := F_History_close.binds (ps := ["self", "client", "number", "answer"]) fun _ _ _ _ _ _ us hl => match us, hl with | [_, _, _, _], _ => rfl
  have F_History_rows := fun_mk (st := s_History_rows) l_History_rows c_History_rows k_History_rows
  have b_History_rows := F_History_rows.binds (ps := ["self"]) fun _ _ _ _ _ _ us hl => match us, hl with | [_], _ => rfl
  have F__law_number := fun_mk (st := s__law_number) l__law_number c__law_number k__law_number
  have b__law_number := F__law_number.binds (ps := ["script", "k"]) fun _ _ _ _ _ _ us hl => match us, hl with | [_, _], _ => rfl
  have F__law_take := fun_mk (st := s__law_take) l__law_take c__law_take k__law_take
  have b__law_take := F__law_take.binds (ps := ["box", "size"]) fun _ _ _ _ _ _ us hl => match us, hl with | [_, _], _ => rfl
  have F__law_key := fun_mk (st := s__law_key) l__law_key c__law_key k__law_key
  have b__law_key := F__law_key.binds (ps := ["box", "sign"]) fun _ _ _ _ _ _ us hl => match us, hl with | [_, _], _ => rfl
  have F__law_keys := fun_mk (st := s__law_keys) l__law_keys c__law_keys k__law_keys
  have b__law_keys := F__law_keys.binds (ps := ["box"]) fun _ _ _ _ _ _ us hl => match us, hl with | [_], _ => rfl
  have F__law_value := fun_mk (st := s__law_value) l__law_value c__law_value k__law_value
  have b__law_value := F__law_value.binds (ps := ["box"]) fun _ _ _ _ _ _ us hl => match us, hl with | [_], _ => rfl
  have F__law_maybe := fun_mk (st := s__law_maybe) l__law_maybe c__law_maybe k__law_maybe
  have b__law_maybe := F__law_maybe.binds (ps := ["box"]) fun _ _ _ _ _ _ us hl => match us, hl with | [_], _ => rfl
  have F__law_deed := fun_mk (st := s__law_deed) l__law_deed c__law_deed k__law_deed
  have b__law_deed := F__law_deed.binds (ps := ["box", "keys"]) fun _ _ _ _ _ _ us hl => match us, hl with | [_, _], _ => rfl
  have F__law_deal := fun_mk (st := s__law_deal) l__law_deal c__law_deal k__law_deal
  have b__law_deal := F__law_deal.binds (ps := ["box", "keys", "rows"]) fun _ _ _ _ _ _ us hl => match us, hl with | [_, _, _], _ => rfl
  have F__law_names := fun_mk (st := s__law_names) l__law_names c__law_names k__law_names
  have b__law_names := F__law_names.binds (ps := ["deal"]) fun _ _ _ _ _ _ us hl => match us, hl with | [_], _ => rfl
  have F__law_cell := fun_mk (st := s__law_cell) l__law_cell c__law_cell k__law_cell
  have b__law_cell := F__law_cell.binds (ps := ["rows", "key"]) fun _ _ _ _ _ _ us hl => match us, hl with | [_, _], _ => rfl
  have F__law_answer := fun_mk (st := s__law_answer) l__law_answer c__law_answer k__law_answer
  have b__law_answer := F__law_answer.binds (ps := ["box", "rows"]) fun _ _ _ _ _ _ us hl => match us, hl with | [_, _], _ => rfl
  have F__law_agrees := fun_mk (st := s__law_agrees) l__law_agrees c__law_agrees k__law_agrees
  have b__law_agrees := F__law_agrees.binds (ps := ["clients", "models", "history", "records", "events"]) fun _ _ _ _ _ _ us hl => match us, hl with | [_, _, _, _, _], _ => rfl
  have F_law := fun_mk (st := s_law) l_law c_law k_law
  have b_law := F_law.binds (ps := ["script"]) fun _ _ _ _ _ _ us hl => match us, hl with | [_], _ => rfl
  let T : Txt K mg := ⟨C_CallRow, ⟨pg_CallRow, hd_CallRow, po_CallRow, sa_CallRow⟩, PySem.W.mg_of X G aC_CallRow, na_CallRow_client, na_CallRow_number, na_CallRow_deal, na_CallRow_asked, na_CallRow_answered, na_CallRow_answer, C_Client, ⟨pg_Client, hd_Client, po_Client, sa_Client⟩, PySem.W.mg_of X G aC_Client, na_Client_beliefs, na_Client_number, na_Client_call, C_History, ⟨pg_History, hd_History, po_History, sa_History⟩, PySem.W.mg_of X G aC_History, na_History_events, na_History__calls, na_History__by_name, C_OpenCall, ⟨pg_OpenCall, hd_OpenCall, po_OpenCall, sa_OpenCall⟩, PySem.W.mg_of X G aC_OpenCall, na_OpenCall_number, na_OpenCall_deal, na_OpenCall_places, f_key_in, _, F_key_in, b_key_in, PySem.W.mg_of X G a_key_in, f_is_within, _, F_is_within, b_is_within, PySem.W.mg_of X G a_is_within, f_with_ends, _, F_with_ends, b_with_ends, PySem.W.mg_of X G a_with_ends, f_first_beliefs, _, F_first_beliefs, b_first_beliefs, PySem.W.mg_of X G a_first_beliefs, f_cell_of, _, F_cell_of, b_cell_of, PySem.W.mg_of X G a_cell_of, f_learned, _, F_learned, b_learned, PySem.W.mg_of X G a_learned, f_places_of, _, F_places_of, b_places_of, PySem.W.mg_of X G a_places_of, f__cut, _, F__cut, b__cut, PySem.W.mg_of X G a__cut, f__row_behind, _, F__row_behind, b__row_behind, PySem.W.mg_of X G a__row_behind, f_key_of_deed, _, F_key_of_deed, b_key_of_deed, PySem.W.mg_of X G a_key_of_deed, f_keys_of, _, F_keys_of, b_keys_of, PySem.W.mg_of X G a_keys_of, f_OpenCall___init__, _, F_OpenCall___init__, b_OpenCall___init__, ⟨mk_OpenCall, a_OpenCall___init__, i_OpenCall___init__, kc_OpenCall⟩, f_OpenCall_home, _, F_OpenCall_home, b_OpenCall_home, p_OpenCall_home, ⟨a_OpenCall_home, pg_OpenCall_home, pt_OpenCall_home, pz_OpenCall_home, pr_OpenCall_home⟩, f_OpenCall_request, _, F_OpenCall_request, b_OpenCall_request, ⟨a_OpenCall_request, i_OpenCall_request, k_OpenCall_request⟩, f_Client___init__, _, F_Client___init__, b_Client___init__, ⟨mk_Client, a_Client___init__, i_Client___init__, kc_Client⟩, f_Client_begin, _, F_Client_begin, b_Client_begin, ⟨a_Client_begin, i_Client_begin, k_Client_begin⟩, f_Client_hear, _, F_Client_hear, b_Client_hear, ⟨a_Client_hear, i_Client_hear, k_Client_hear⟩, f_CallRow___init__, _, F_CallRow___init__, b_CallRow___init__, ⟨mk_CallRow, a_CallRow___init__, i_CallRow___init__, kc_CallRow⟩, f_CallRow_as_row, _, F_CallRow_as_row, b_CallRow_as_row, ⟨a_CallRow_as_row, i_CallRow_as_row, k_CallRow_as_row⟩, f_History___init__, _, F_History___init__, b_History___init__, ⟨mk_History, a_History___init__, i_History___init__, kc_History⟩, f_History_ask, _, F_History_ask, b_History_ask, ⟨a_History_ask, i_History_ask, k_History_ask⟩, f_History_close, _, F_History_close, b_History_close, ⟨a_History_close, i_History_close, k_History_close⟩, f_History_rows, _, F_History_rows, b_History_rows, ⟨a_History_rows, i_History_rows, k_History_rows⟩, f__law_number, _, F__law_number, b__law_number, PySem.W.mg_of X G a__law_number, f__law_take, _, F__law_take, b__law_take, PySem.W.mg_of X G a__law_take, f__law_key, _, F__law_key, b__law_key, PySem.W.mg_of X G a__law_key, f__law_keys, _, F__law_keys, b__law_keys, PySem.W.mg_of X G a__law_keys, f__law_value, _, F__law_value, b__law_value, PySem.W.mg_of X G a__law_value, f__law_maybe, _, F__law_maybe, b__law_maybe, PySem.W.mg_of X G a__law_maybe, f__law_deed, _, F__law_deed, b__law_deed, PySem.W.mg_of X G a__law_deed, f__law_deal, _, F__law_deal, b__law_deal, PySem.W.mg_of X G a__law_deal, f__law_names, _, F__law_names, b__law_names, PySem.W.mg_of X G a__law_names, f__law_cell, _, F__law_cell, b__law_cell, PySem.W.mg_of X G a__law_cell, f__law_answer, _, F__law_answer, b__law_answer, PySem.W.mg_of X G a__law_answer, f__law_agrees, _, F__law_agrees, b__law_agrees, PySem.W.mg_of X G a__law_agrees, fa, _, F_law, b_law, PySem.W.mg_of X G a_law, PySem.W.mg_none_of X G z_int, PySem.W.mg_none_of X G z_len, PySem.W.mg_none_of X G z_list, PySem.W.mg_none_of X G z_max, PySem.W.mg_none_of X G z_range, PySem.W.mg_none_of X G z_set, PySem.W.mg_none_of X G z_sorted, PySem.W.mg_none_of X G z_tuple, PySem.W.mg_none_of X G z_zip⟩
  exact ⟨PySem.W.fnOf "law" "law" (defArgs s_law) (defBody s_law) (defScope s_law) .none kV_law dc_law pm_law an_law cd_law ct_law, fun s v => .of_eq rfl, fun base _ _ => ok_law T⟩
end K71
open PySem PySem.W PyProof.Rows
set_option maxRecDepth 100000 in
set_option maxHeartbeats 0 in
theorem PySem.Challenge.cw_crosskeep_k71_clients_and_their_history_holds : PySem.Challenge.rw_crosskeep_k71_clients_and_their_history.Holds := by
  w_on; o_law; k_head; (case hw => w_witness2)
  k_fill
  refine L2.walk_of (l := PySem.Challenge.rw_crosskeep_k71_clients_and_their_history) (n := 63) (k := 5) (x := "script") (CX := fun _ => L2.CX0) (sp := fun w => K71.sp_law _) rfl (by decide) rfl ⟨rfl, by decide, by decide⟩ (fun w h Y => PySem.W.kIn_of Y) ?F (fun _ _ a ns hl _ hS => ⟨a, ns, rfl, hS, hl, fun _ => rfl⟩) (fun _ _ _ _ _ h => h)
  case F =>
    intro w mg fa h KX G hmg
    refine' K71.all_mk KX G hmg ?aC_CallRow ?pg_CallRow ?hd_CallRow ?po_CallRow ?sa_CallRow ?mk_CallRow ?kc_CallRow ?na_CallRow_client ?na_CallRow_number ?na_CallRow_deal ?na_CallRow_asked ?na_CallRow_answered ?na_CallRow_answer ?aC_Client ?pg_Client ?hd_Client ?po_Client ?sa_Client ?mk_Client ?kc_Client ?na_Client_beliefs ?na_Client_number ?na_Client_call ?aC_History ?pg_History ?hd_History ?po_History ?sa_History ?mk_History ?kc_History ?na_History_events ?na_History__calls ?na_History__by_name ?aC_OpenCall ?pg_OpenCall ?hd_OpenCall ?po_OpenCall ?sa_OpenCall ?mk_OpenCall ?kc_OpenCall ?na_OpenCall_number ?na_OpenCall_deal ?na_OpenCall_places ?a_key_in ?l_key_in ?c_key_in ?k_key_in ?a_is_within ?l_is_within ?c_is_within ?k_is_within ?a_with_ends ?l_with_ends ?c_with_ends ?k_with_ends ?a_first_beliefs ?l_first_beliefs ?c_first_beliefs ?k_first_beliefs ?a_cell_of ?l_cell_of ?c_cell_of ?k_cell_of ?a_learned ?l_learned ?c_learned ?k_learned ?a_places_of ?l_places_of ?c_places_of ?k_places_of ?a__cut ?l__cut ?c__cut ?k__cut ?a__row_behind ?l__row_behind ?c__row_behind ?k__row_behind ?a_key_of_deed ?l_key_of_deed ?c_key_of_deed ?k_key_of_deed ?a_keys_of ?l_keys_of ?c_keys_of ?k_keys_of ?a_OpenCall___init__ ?i_OpenCall___init__ ?l_OpenCall___init__ ?c_OpenCall___init__ ?k_OpenCall___init__ ?a_OpenCall_home ?pg_OpenCall_home ?pt_OpenCall_home ?pr_OpenCall_home ?l_OpenCall_home ?c_OpenCall_home ?k_OpenCall_home ?a_OpenCall_request ?i_OpenCall_request ?l_OpenCall_request ?c_OpenCall_request ?k_OpenCall_request ?a_Client___init__ ?i_Client___init__ ?l_Client___init__ ?c_Client___init__ ?k_Client___init__ ?a_Client_begin ?i_Client_begin ?l_Client_begin ?c_Client_begin ?k_Client_begin ?a_Client_hear ?i_Client_hear ?l_Client_hear ?c_Client_hear ?k_Client_hear ?a_CallRow___init__ ?i_CallRow___init__ ?l_CallRow___init__ ?c_CallRow___init__ ?k_CallRow___init__ ?a_CallRow_as_row ?i_CallRow_as_row ?l_CallRow_as_row ?c_CallRow_as_row ?k_CallRow_as_row ?a_History___init__ ?i_History___init__ ?l_History___init__ ?c_History___init__ ?k_History___init__ ?a_History_ask ?i_History_ask ?l_History_ask ?c_History_ask ?k_History_ask ?a_History_close ?i_History_close ?l_History_close ?c_History_close ?k_History_close ?a_History_rows ?i_History_rows ?l_History_rows ?c_History_rows ?k_History_rows ?a__law_number ?l__law_number ?c__law_number ?k__law_number ?a__law_take ?l__law_take ?c__law_take ?k__law_take ?a__law_key ?l__law_key ?c__law_key ?k__law_key ?a__law_keys ?l__law_keys ?c__law_keys ?k__law_keys ?a__law_value ?l__law_value ?c__law_value ?k__law_value ?a__law_maybe ?l__law_maybe ?c__law_maybe ?k__law_maybe ?a__law_deed ?l__law_deed ?c__law_deed ?k__law_deed ?a__law_deal ?l__law_deal ?c__law_deal ?k__law_deal ?a__law_names ?l__law_names ?c__law_names ?k__law_names ?a__law_cell ?l__law_cell ?c__law_cell ?k__law_cell ?a__law_answer ?l__law_answer ?c__law_answer ?k__law_answer ?a__law_agrees ?l__law_agrees ?c__law_agrees ?k__law_agrees ?a_law ?l_law ?c_law ?k_law ?z_int ?z_len ?z_list ?z_max ?z_range ?z_set ?z_sorted ?z_tuple ?z_zip
    (case aC_CallRow => k_is)
    (case pg_CallRow => k_is)
    (case hd_CallRow => k_is)
    (case po_CallRow => k_is)
    (case sa_CallRow => k_is)
    (case mk_CallRow => k_is)
    (case kc_CallRow => k_is)
    (case na_CallRow_client => k_is)
    (case na_CallRow_number => k_is)
    (case na_CallRow_deal => k_is)
    (case na_CallRow_asked => k_is)
    (case na_CallRow_answered => k_is)
    (case na_CallRow_answer => k_is)
    (case aC_Client => k_is)
    (case pg_Client => k_is)
    (case hd_Client => k_is)
    (case po_Client => k_is)
    (case sa_Client => k_is)
    (case mk_Client => k_is)
    (case kc_Client => k_is)
    (case na_Client_beliefs => k_is)
    (case na_Client_number => k_is)
    (case na_Client_call => k_is)
    (case aC_History => k_is)
    (case pg_History => k_is)
    (case hd_History => k_is)
    (case po_History => k_is)
    (case sa_History => k_is)
    (case mk_History => k_is)
    (case kc_History => k_is)
    (case na_History_events => k_is)
    (case na_History__calls => k_is)
    (case na_History__by_name => k_is)
    (case aC_OpenCall => k_is)
    (case pg_OpenCall => k_is)
    (case hd_OpenCall => k_is)
    (case po_OpenCall => k_is)
    (case sa_OpenCall => k_is)
    (case mk_OpenCall => k_is)
    (case kc_OpenCall => k_is)
    (case na_OpenCall_number => k_is)
    (case na_OpenCall_deal => k_is)
    (case na_OpenCall_places => k_is)
    (case a_key_in => k_is)
    (case l_key_in => k_is)
    (case c_key_in => k_is)
    (case k_key_in => k_is)
    (case a_is_within => k_is)
    (case l_is_within => k_is)
    (case c_is_within => k_is)
    (case k_is_within => k_is)
    (case a_with_ends => k_is)
    (case l_with_ends => k_is)
    (case c_with_ends => k_is)
    (case k_with_ends => k_is)
    (case a_first_beliefs => k_is)
    (case l_first_beliefs => k_is)
    (case c_first_beliefs => k_is)
    (case k_first_beliefs => k_is)
    (case a_cell_of => k_is)
    (case l_cell_of => k_is)
    (case c_cell_of => k_is)
    (case k_cell_of => k_is)
    (case a_learned => k_is)
    (case l_learned => k_is)
    (case c_learned => k_is)
    (case k_learned => k_is)
    (case a_places_of => k_is)
    (case l_places_of => k_is)
    (case c_places_of => k_is)
    (case k_places_of => k_is)
    (case a__cut => k_is)
    (case l__cut => k_is)
    (case c__cut => k_is)
    (case k__cut => k_is)
    (case a__row_behind => k_is)
    (case l__row_behind => k_is)
    (case c__row_behind => k_is)
    (case k__row_behind => k_is)
    (case a_key_of_deed => k_is)
    (case l_key_of_deed => k_is)
    (case c_key_of_deed => k_is)
    (case k_key_of_deed => k_is)
    (case a_keys_of => k_is)
    (case l_keys_of => k_is)
    (case c_keys_of => k_is)
    (case k_keys_of => k_is)
    (case a_OpenCall___init__ => k_is)
    (case i_OpenCall___init__ => k_is)
    (case l_OpenCall___init__ => k_is)
    (case c_OpenCall___init__ => k_is)
    (case k_OpenCall___init__ => k_is)
    (case a_OpenCall_home => k_is)
    (case pg_OpenCall_home => k_is)
    (case pt_OpenCall_home => k_is)
    (case pr_OpenCall_home => k_is)
    (case l_OpenCall_home => k_is)
    (case c_OpenCall_home => k_is)
    (case k_OpenCall_home => k_is)
    (case a_OpenCall_request => k_is)
    (case i_OpenCall_request => k_is)
    (case l_OpenCall_request => k_is)
    (case c_OpenCall_request => k_is)
    (case k_OpenCall_request => k_is)
    (case a_Client___init__ => k_is)
    (case i_Client___init__ => k_is)
    (case l_Client___init__ => k_is)
    (case c_Client___init__ => k_is)
    (case k_Client___init__ => k_is)
    (case a_Client_begin => k_is)
    (case i_Client_begin => k_is)
    (case l_Client_begin => k_is)
    (case c_Client_begin => k_is)
    (case k_Client_begin => k_is)
    (case a_Client_hear => k_is)
    (case i_Client_hear => k_is)
    (case l_Client_hear => k_is)
    (case c_Client_hear => k_is)
    (case k_Client_hear => k_is)
    (case a_CallRow___init__ => k_is)
    (case i_CallRow___init__ => k_is)
    (case l_CallRow___init__ => k_is)
    (case c_CallRow___init__ => k_is)
    (case k_CallRow___init__ => k_is)
    (case a_CallRow_as_row => k_is)
    (case i_CallRow_as_row => k_is)
    (case l_CallRow_as_row => k_is)
    (case c_CallRow_as_row => k_is)
    (case k_CallRow_as_row => k_is)
    (case a_History___init__ => k_is)
    (case i_History___init__ => k_is)
    (case l_History___init__ => k_is)
    (case c_History___init__ => k_is)
    (case k_History___init__ => k_is)
    (case a_History_ask => k_is)
    (case i_History_ask => k_is)
    (case l_History_ask => k_is)
    (case c_History_ask => k_is)
    (case k_History_ask => k_is)
    (case a_History_close => k_is)
    (case i_History_close => k_is)
    (case l_History_close => k_is)
    (case c_History_close => k_is)
    (case k_History_close => k_is)
    (case a_History_rows => k_is)
    (case i_History_rows => k_is)
    (case l_History_rows => k_is)
    (case c_History_rows => k_is)
    (case k_History_rows => k_is)
    (case a__law_number => k_is)
    (case l__law_number => k_is)
    (case c__law_number => k_is)
    (case k__law_number => k_is)
    (case a__law_take => k_is)
    (case l__law_take => k_is)
    (case c__law_take => k_is)
    (case k__law_take => k_is)
    (case a__law_key => k_is)
    (case l__law_key => k_is)
    (case c__law_key => k_is)
    (case k__law_key => k_is)
    (case a__law_keys => k_is)
    (case l__law_keys => k_is)
    (case c__law_keys => k_is)
    (case k__law_keys => k_is)
    (case a__law_value => k_is)
    (case l__law_value => k_is)
    (case c__law_value => k_is)
    (case k__law_value => k_is)
    (case a__law_maybe => k_is)
    (case l__law_maybe => k_is)
    (case c__law_maybe => k_is)
    (case k__law_maybe => k_is)
    (case a__law_deed => k_is)
    (case l__law_deed => k_is)
    (case c__law_deed => k_is)
    (case k__law_deed => k_is)
    (case a__law_deal => k_is)
    (case l__law_deal => k_is)
    (case c__law_deal => k_is)
    (case k__law_deal => k_is)
    (case a__law_names => k_is)
    (case l__law_names => k_is)
    (case c__law_names => k_is)
    (case k__law_names => k_is)
    (case a__law_cell => k_is)
    (case l__law_cell => k_is)
    (case c__law_cell => k_is)
    (case k__law_cell => k_is)
    (case a__law_answer => k_is)
    (case l__law_answer => k_is)
    (case c__law_answer => k_is)
    (case k__law_answer => k_is)
    (case a__law_agrees => k_is)
    (case l__law_agrees => k_is)
    (case c__law_agrees => k_is)
    (case k__law_agrees => k_is)
    (case a_law => k_is)
    (case l_law => k_is)
    (case c_law => k_is)
    (case k_law => k_is)
    (case z_int => k_is)
    (case z_len => k_is)
    (case z_list => k_is)
    (case z_max => k_is)
    (case z_range => k_is)
    (case z_set => k_is)
    (case z_sorted => k_is)
    (case z_tuple => k_is)
    (case z_zip => k_is)
#print axioms PySem.Challenge.cw_crosskeep_k71_clients_and_their_history_holds

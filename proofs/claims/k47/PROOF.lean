import PyProof.Rows.All
import Wide.All
import OpenK.AllK
import Wide.FinOn
import HandS.ForMost
import HandS.TryOnly
import HandS.IsInst
import HandS.Evl
import HandS.Wide
import HandS.TupAny
import HandS.SortInts
import HandS.Style
import HandS.Strs
import HandS.SetFor
import HandS.Conv
import HandS.More
import HandS.Walk
import HandS.WideBits
import HandS.Property
import HandS.TupLe
import HandS.Defaults
import HandS.Deep
import HandS.RevRange
import PyProof.StrOps2
import HandS.TupMul
import HandS.DictComp
import KE.GoesMore
import KE.SortKeyHeap
import KE.DataCmp
import PyProof.DictMoreH
import HandS.SetKeys
import HandS.Conv
import KE.DataMinMax
import PySem.Challenge.RW_crosskeep_k47_a_tally
set_option Elab.async false
set_option linter.all false
set_option maxRecDepth 100000
set_option maxHeartbeats 4000000

/-! ## readings, one step at a time (a layer of our own over the hand layer) -/
namespace Xk
open PySem PySem.Spec PyProof.Rows L2

section
variable {K : PySem.W.Frag} {σ : L2.St} {H H0 H1 H2 : Hp} {Q : VK} {ta tb tc te : TE} {t u : TT} {D : Ends} {tz tu tw : TS} {g : TG} {x y z v : V} {i j : Int} {b : Bool}

/-! ### values -/
theorem rel_ref {a : Addr} : RelV (.ref a) (.ref a) := rfl
theorem rel_ty {T : String} : RelV (.ty T) (.type T) := rfl
theorem rel_int {tk : Tok} : RelV (.int i) (.int i tk) := ⟨tk, rfl⟩
theorem rel_str {s : Str} {tk : Tok} : RelV (.str s) (.str s tk) := ⟨tk, rfl⟩

/-! ### heaps -/
/-- nothing stands at p -/
structure Fr (p : Addr) (H : Hp) : Prop where
  is : H p = none
theorem same_fr {p : Addr} {o : HO} (h : Fr p H) : Same H (upd H p o) := fun c x e => by
  rw [upd_ne (ne_of_none e h.is)]
  exact e
theorem same_new {p : Addr} {o : HO} (h : H p = none) : Same H (upd H p o) := fun c x e => by
  rw [upd_ne (ne_of_none e h)]
  exact e
theorem same_mut {p : Addr} {o : HO} (e : Same H H1) (h : Fr p H) : Same H (upd H1 p o) := fun c x ha => by
  rw [upd_ne (ne_of_none ha h.is)]
  exact e c x ha
theorem same_at {a : Addr} {o : HO} (e : Same H H1) (h : H a = some o) : H1 a = some o := e a o h
theorem free_back {p : Addr} (h : Fr p H1) (e : Same H H1) : Fr p H := ⟨Same.free e h.is⟩
theorem ne_new {a p : Addr} {o : HO} (h' : Fr p H) (h : H a = some o) : a ≠ p := ne_of_none h h'.is
theorem sq_of {a : Addr} {xs : List V} (h : H a = some (.lst xs)) : SqL K H a xs := Or.inl (Or.inl h)
theorem st_of {a : Addr} {xs : List V} (h : H a = some (.tup xs)) : SqT K H a xs := Or.inl (Or.inl h)
theorem sq_same {a : Addr} {xs : List V} (h : SqL K H a xs) (e : Same H H1) : SqL K H1 a xs := e.seq h
theorem st_same {a : Addr} {xs : List V} (h : SqT K H a xs) (e : Same H H1) : SqT K H1 a xs := by
  rcases h with (h | ⟨o, h⟩) | h
  · exact .inl (.inl (e _ _ h))
  · exact .inl (.inr ⟨o, e _ _ h⟩)
  · exact .inr h
theorem size_ok {n : Nat} (h : n ≤ 100000) : n ≤ sizeLine := Nat.le_trans h (by decide)
theorem size_lt {n : Nat} (h : n < 100000) : n < sizeLine := Nat.lt_of_lt_of_le h (by decide)

/-- all that was tracked but at p is as it was -/
def But (p : Addr) (H H' : Hp) : Prop := ∀ b o, b ≠ p → H b = some o → H' b = some o
theorem But.refl (p : Addr) (H : Hp) : But p H H := fun _ _ _ h => h
theorem but_same {p : Addr} (e : Same H H1) : But p H H1 := fun b o _ h => e b o h
theorem but_trans {p : Addr} (e : But p H H1) (e' : But p H1 H2) : But p H H2 := fun b o n h => e' b o n (e b o n h)
theorem but_mut {p : Addr} {o : HO} (e : But p H H1) : But p H (upd H1 p o) := fun b u n h => by
  rw [upd_ne n]
  exact e b u n h
theorem but_new {p q : Addr} {o : HO} (e : But p H H1) (h : Fr q H) : But p H (upd H1 q o) := fun b u n g => by
  rw [upd_ne (ne_of_none g h.is)]
  exact e b u n g
theorem but_at {p a : Addr} {o : HO} (e : But p H H1) (n : a ≠ p) (h : H a = some o) : H1 a = some o := e a o n h
theorem none_but {p a : Addr} {o u : HO} (h : H p = some o) (e : But p H H1) (h1 : H1 p = some u) (ha : Fr a H1) : Fr a H := by
  refine ⟨?_⟩
  cases q : H a with
  | none => rfl
  | some v =>
    by_cases n : a = p
    · subst n
      rw [ha.is] at h1
      cases h1
    · have := e a v n q
      rw [ha.is] at this
      cases this
theorem fr_upd {p q : Addr} {o : HO} (h : Fr p (upd H q o)) : Fr p H := by
  refine ⟨?_⟩
  have h1 := h.is
  unfold upd at h1
  split at h1
  · cases h1
  · exact h1
theorem same_but {p : Addr} (e : But p H H1) (h : Fr p H0) (e0 : Same H0 H) : Same H0 H1 := fun b o g => e b o (ne_of_none g h.is) (e0 b o g)

/-! ### expressions -/
theorem x_var {n : Nat} (h : σ[n]? = some (some v)) (q : Q v H) : tVar n σ H Q := ⟨v, h, q⟩
theorem x_c (q : Q v H) : tC v σ H Q := q
theorem x_op {r : R2} (q : ta σ H fun x H1 => tb σ H1 fun y H2 => r x y H2 Q) : tOp r ta tb σ H Q := q
theorem x_un {r : V → Hp → VK → Prop} (q : ta σ H fun x H1 => r x H1 Q) : tUn r ta σ H Q := q
theorem x_I0 {f : Int → Int → V} (q : Q (f i j) H) : rI0 f (.int i) (.int j) H Q := ⟨i, j, rfl, rfl, q⟩
theorem x_I {C : Int → Int → Prop} {f : Int → Int → V} (hc : C i j) (q : Q (f i j) H) : rI C f (.int i) (.int j) H Q := ⟨i, j, rfl, rfl, hc, q⟩
theorem x_U {f : Int → V} (q : Q (f i) H) : rU f (.int i) H Q := ⟨i, rfl, q⟩
theorem x_eq (h : scal x y = true) (q : Q (.bl (decide (x = y))) H) : rEq x y H Q := ⟨h, q⟩
theorem x_ne (h : scal x y = true) (q : Q (.bl (!decide (x = y))) H) : rNe x y H Q := ⟨h, q⟩
theorem x_ixL {p : Addr} {xs : List V} (h : SqL K H p xs) (ha : atI xs i = some v) (q : Q v H) : rIxL K (.ref p) (.int i) H Q := ⟨p, xs, i, v, rfl, rfl, h, ha, q⟩
theorem x_ixT {p : Addr} {xs : List V} (h : SqT K H p xs) (ha : atI xs i = some v) (q : Q v H) : rIxT K (.ref p) (.int i) H Q := ⟨p, xs, i, v, rfl, rfl, h, ha, q⟩
theorem x_ixS {w : Str} {c : Nat} (h : w.length ≤ 100000) (ha : atI w.cps.toList i = some c) (q : Q (.str ⟨#[c]⟩) H) : rIxS (.str w) (.int i) H Q := ⟨w, i, c, rfl, rfl, size_ok h, ha, q⟩
theorem x_nil {R : List V → Hp → Prop} (q : R [] H) : tNil σ H R := q
theorem x_cons {tr : TA} {R : List V → Hp → Prop} (q : ta σ H fun x H1 => tr σ H1 fun xs H2 => R (x :: xs) H2) : tCons ta tr σ H R := q
def New (Q : VK) (o : HO) (n : Nat) (H : Hp) : Prop := n ≤ sizeLine ∧ ∀ p, H p = none → Q (.ref p) (upd H p o)
theorem x_lst {tr : TA} (q : tr σ H fun xs H1 => New Q (.lst xs) xs.length H1) : tLst tr σ H Q := q
theorem x_tup {tr : TA} (q : tr σ H fun xs H1 => New Q (.tup xs) xs.length H1) : tTup tr σ H Q := q
/-- what is new is told by what it holds; the heap gets a name -/
theorem x_new {n : Nat} {o : HO} (hl : n ≤ 100000) (k : ∀ p H2, Fr p H → Same H H2 → H2 p = some o → Q (.ref p) H2) : New Q o n H :=
  ⟨size_ok hl, fun p hp => k p _ ⟨hp⟩ (same_new hp) upd_same⟩
theorem x_new1 {o : HO} (k : ∀ p H2, Fr p H → Same H H2 → H2 p = some o → Q (.ref p) H2) : ∀ p, H p = none → Q (.ref p) (upd H p o) :=
  fun p hp => k p _ ⟨hp⟩ (same_new hp) upd_same
theorem x_cb {r : List V → Hp → VK → Prop} {tr : TA} (q : tr σ H fun vs H1 => r vs H1 Q) : tCB r tr σ H Q := q
theorem x_call {sp : Sp} {dvs : List V} {E : XK} {tr : TA} (q : tr σ H fun vs H1 => sp (vs ++ dvs) H1 Q E) : tCall sp dvs E tr σ H Q := q
theorem x_sl {r : V → Option Int → Option Int → Hp → VK → Prop} {tl th : TO} (q : te σ H fun x H1 => tl σ H1 fun l H2 => th σ H2 fun u H3 => r x l u H3 Q) : tSl r te tl th σ H Q := q
theorem x_nopart {R : Option Int → Hp → Prop} (q : R none H) : tNoPart σ H R := q
theorem x_part {R : Option Int → Hp → Prop} (q : te σ H fun x H1 => ∃ i, x = .int i ∧ R (some i) H1) : tPart te σ H R := q
theorem x_if (q : t σ H fun c H1 => if c = true then ta σ H1 Q else tb σ H1 Q) : tIf t ta tb σ H Q := q
theorem x_andV (q : ta σ H fun x H1 => ∃ c, x = .bl c ∧ if c = true then tb σ H1 Q else Q (.bl false) H1) : tAndV ta tb σ H Q := q
theorem x_orV (q : ta σ H fun x H1 => ∃ c, x = .bl c ∧ if c = true then Q (.bl true) H1 else tb σ H1 Q) : tOrV ta tb σ H Q := q
theorem x_notV (q : ta σ H fun x H1 => ∃ c, x = .bl c ∧ Q (.bl (!c)) H1) : tNotV ta σ H Q := q
theorem x_bl {R : Bool → Prop} (q : R b) : ∃ c, V.bl b = .bl c ∧ R c := ⟨b, rfl, q⟩
theorem x_isI {R : Int → Prop} (q : R i) : ∃ c, V.int i = .int c ∧ R c := ⟨i, rfl, q⟩

/-! ### built-ins by names -/
def nInt : List V → Hp → VK → Prop := fun xs H Q => (∃ i, xs = [.int i] ∧ Q (.int i) H) ∨ ∃ k, xs = [.bl k] ∧ Q (.int (if k then 1 else 0)) H
theorem call_nInt {X : Cx} : CallR X (.type "int") nInt := call_int1
theorem x_nInt (q : Q (.int i) H) : nInt [.int i] H Q := .inl ⟨i, rfl, q⟩
theorem x_nIntB (q : Q (.int (if b then 1 else 0)) H) : nInt [.bl b] H Q := .inr ⟨b, rfl, q⟩
def nLen (K : PySem.W.Frag) : List V → Hp → VK → Prop := fun xs H Q => ∃ p ys, xs = [.ref p] ∧ (SqL K H p ys ∨ SqT K H p ys) ∧ Q (.int ys.length) H
theorem call_nLen {X : Cx} : CallR X (.builtin "len") (nLen X.K) := call_len_seq
theorem x_lenL {p : Addr} {ys : List V} (h : SqL K H p ys) (q : Q (.int ys.length) H) : nLen K [.ref p] H Q := ⟨p, ys, rfl, .inl h, q⟩
theorem x_lenT {p : Addr} {ys : List V} (h : SqT K H p ys) (q : Q (.int ys.length) H) : nLen K [.ref p] H Q := ⟨p, ys, rfl, .inr h, q⟩
def nListOf (K : PySem.W.Frag) : List V → Hp → VK → Prop := fun xs H Q => ∃ p ys, xs = [.ref p] ∧ (SqL K H p ys ∨ SqT K H p ys) ∧ ∀ l, H l = none → Q (.ref l) (upd H l (.lst ys))
theorem call_nListOf {X : Cx} : CallR X (.type "list") (nListOf X.K) := call_list_of
theorem x_listL {p : Addr} {ys : List V} (h : SqL K H p ys) (k : ∀ l H2, Fr l H → Same H H2 → H2 l = some (.lst ys) → Q (.ref l) H2) : nListOf K [.ref p] H Q := ⟨p, ys, rfl, .inl h, x_new1 k⟩
theorem x_listT {p : Addr} {ys : List V} (h : SqT K H p ys) (k : ∀ l H2, Fr l H → Same H H2 → H2 l = some (.lst ys) → Q (.ref l) H2) : nListOf K [.ref p] H Q := ⟨p, ys, rfl, .inr h, x_new1 k⟩
def nTupleOf (K : PySem.W.Frag) : List V → Hp → VK → Prop := fun xs H Q => ∃ p ys, xs = [.ref p] ∧ ((SqL K H p ys ∧ ∀ l, H l = none → Q (.ref l) (upd H l (.tup ys))) ∨ (SqT K H p ys ∧ Q (.ref p) H))
theorem call_nTupleOf {X : Cx} : CallR X (.type "tuple") (nTupleOf X.K) := call_tuple_of
theorem x_tupleL {p : Addr} {ys : List V} (h : SqL K H p ys) (k : ∀ l H2, Fr l H → Same H H2 → H2 l = some (.tup ys) → Q (.ref l) H2) : nTupleOf K [.ref p] H Q := ⟨p, ys, rfl, .inl ⟨h, x_new1 k⟩⟩
theorem x_tupleT {p : Addr} {ys : List V} (h : SqT K H p ys) (q : Q (.ref p) H) : nTupleOf K [.ref p] H Q := ⟨p, ys, rfl, .inr ⟨h, q⟩⟩
theorem kit_T {a c : String} (h : kitB a c = some true) : kitB a c = some true := h
theorem kit_F {a c : String} (h : kitB a c = some false) : kitB a c = some false := h
theorem x_isi {c : String} {tt : String} {k : Bool} (ty : TyX K H x (.type tt)) (e : kitB tt c = some k) (q : Q (.bl k) H) : rIsi K [x, .ty c] H Q := ⟨x, .ty c, .type tt, .type c, k, rfl, .ty _, ty, kit_ty e, q⟩
theorem x_isiInt {c : String} {k : Bool} (e : kitB "int" c = some k) (q : Q (.bl k) H) : rIsi K [.int i, .ty c] H Q := x_isi (.base (.int i)) e q
theorem x_isiBl {c : String} {k b : Bool} (e : kitB "bool" c = some k) (q : Q (.bl k) H) : rIsi K [.bl b, .ty c] H Q := x_isi (.base (.bl b)) e q
theorem x_isiStr {c : String} {k : Bool} {s : Str} (e : kitB "str" c = some k) (q : Q (.bl k) H) : rIsi K [.str s, .ty c] H Q := x_isi (.base (.str s)) e q
theorem x_isiNon {c : String} {k : Bool} (e : kitB "NoneType" c = some k) (q : Q (.bl k) H) : rIsi K [.non, .ty c] H Q := x_isi (.base .non) e q
theorem x_isiLst {c : String} {k : Bool} {a : Addr} {xs : List V} (h : H a = some (.lst xs)) (e : kitB "list" c = some k) (q : Q (.bl k) H) : rIsi K [.ref a, .ty c] H Q := x_isi (.base (.lst h)) e q
theorem x_isiTup {c : String} {k : Bool} {a : Addr} {xs : List V} (h : H a = some (.tup xs)) (e : kitB "tuple" c = some k) (q : Q (.bl k) H) : rIsi K [.ref a, .ty c] H Q := x_isi (.base (.tup h)) e q

def nSorted (K : PySem.W.Frag) : List V → Hp → VK → Prop := fun vs H Q => ∃ (a : Addr) (ns : List Int), vs = [V.ref a] ∧ SqL K H a (ns.map V.int) ∧ ns.length < 64 ∧
  ∀ (ns' : List Int) (p : Addr), ns'.Perm ns → ns'.Pairwise (· ≤ ·) → H p = none → Q (.ref p) (upd H p (.lst (ns'.map V.int)))
theorem x_sorted {a : Addr} {ns : List Int} (h : SqL K H a (ns.map V.int)) (hl : ns.length < 64) (k : ∀ p H2 (ns' : List Int), ns'.Perm ns → ns'.Pairwise (· ≤ ·) → Fr p H → Same H H2 → H2 p = some (.lst (ns'.map V.int)) → Q (.ref p) H2) : rSorted K [.ref a] H Q :=
  ⟨a, ns, rfl, h, hl, fun ns' p h1 h2 h3 => k p _ ns' h1 h2 ⟨h3⟩ (same_new h3) upd_same⟩
/-- set(t), t a tuple of ints -/
def rSetOfI (K : PySem.W.Frag) (w : World) : List V → Hp → VK → Prop := fun vs H Q => ∃ (p : Addr) (ns : List Int), vs = [V.ref p] ∧ SqT K H p (ns.map V.int) ∧ ns.length ≤ 1000 ∧ ∀ a n, H a = none → n ≤ ns.length → Q (.ref a) (upd H a (SetO w a (fun j => decide (j ∈ ns)) n))
theorem cr_setOfI {X : Cx} (hc : X.calm = true) : CallR X (.type "set") (rSetOfI X.K X.w) := by
  intro pins s σ H xs us Q I r h
  obtain ⟨p0, ns, rfl, hq, hl, q⟩ := h
  cases r with
  | cons r rr =>
    cases rr
    cases r
    obtain ⟨its, rv, pt, hz⟩ := I.tuple hq
    have hi : IntsAre its.toArray.toList ns := ints_of_vals rv
    have hd := I.ok.hd hc
    refine call_set_tupI ns hd (show s.heap.IsTuple p0 its.toArray from pt) hi (by unfold scanBound; omega) fun h' tk c R1 hcn k => ?_
    exact ⟨.ref _, upd H s.heap.objs.size (SetO X.w s.heap.objs.size (fun j => decide (j ∈ ns)) c), I.laid (t' := tk) k (Nat.le_refl _) (setO_new R1), rfl, q _ _ (I.hok.fresh (Nat.le_refl _)) hcn⟩
theorem x_setOfI {w : World} {p : Addr} {ns : List Int} (h : SqT K H p (ns.map V.int)) (hl : ns.length ≤ 1000) (k : ∀ a H2 n, Fr a H → Same H H2 → H2 a = some (SetO w a (fun j => decide (j ∈ ns)) n) → n ≤ ns.length → Q (.ref a) H2) : rSetOfI K w [.ref p] H Q :=
  ⟨p, ns, rfl, h, hl, fun a n h1 h2 => k a _ n ⟨h1⟩ (same_new h1) upd_same h2⟩
theorem x_sortedSet {w : World} {a : Addr} {S : Int → Bool} {n : Nat} (h : H a = some (SetO w a S n)) (hl : n < 64) (k : ∀ p H2 (ns : List Int), ns.Pairwise (· < ·) → (∀ k : Int, k ∈ ns ↔ S k = true) → ns.length = n → Fr p H → Same H H2 → H2 p = some (.lst (ns.map V.int)) → Q (.ref p) H2) : rSortedSet w [.ref a] H Q :=
  ⟨a, S, n, rfl, h, hl, fun ns p h1 h2 h3 h4 => k p _ ns h1 h2 h3 ⟨h4⟩ (same_new h4) upd_same⟩
theorem x_all {a : Addr} {bs : List Bool} (h : SqL K H a (bs.map V.bl)) (q : Q (.bl (bs.all id)) H) : rAll K [.ref a] H Q := ⟨a, bs, rfl, h, q⟩
theorem x_any {a : Addr} {bs : List Bool} (h : SqL K H a (bs.map V.bl)) (q : Q (.bl (bs.any id)) H) : rAny K [.ref a] H Q := ⟨a, bs, rfl, h, q⟩
theorem x_sum {a : Addr} {ns : List Int} (h : SqL K H a (ns.map V.int)) (q : Q (.int ns.sum) H) : rSum K [.ref a] H Q := ⟨a, ns, rfl, h, q⟩
theorem x_inL {p : Addr} {xs : List V} (h : SqL K H p xs) (hx : flatV x = true) (ha : xs.all flatV = true) (q : Q (.bl (inV x xs)) H) : rIn K false x (.ref p) H Q := ⟨p, xs, rfl, .inl h, hx, ha, q⟩
theorem x_inT {p : Addr} {xs : List V} (h : SqT K H p xs) (hx : flatV x = true) (ha : xs.all flatV = true) (q : Q (.bl (inV x xs)) H) : rIn K false x (.ref p) H Q := ⟨p, xs, rfl, .inr h, hx, ha, q⟩
theorem x_niL {p : Addr} {xs : List V} (h : SqL K H p xs) (hx : flatV x = true) (ha : xs.all flatV = true) (q : Q (.bl (!inV x xs)) H) : rIn K true x (.ref p) H Q := ⟨p, xs, rfl, .inl h, hx, ha, q⟩
theorem x_niT {p : Addr} {xs : List V} (h : SqT K H p xs) (hx : flatV x = true) (ha : xs.all flatV = true) (q : Q (.bl (!inV x xs)) H) : rIn K true x (.ref p) H Q := ⟨p, xs, rfl, .inr h, hx, ha, q⟩
theorem flat_ints : ∀ ns : List Int, (ns.map V.int).all flatV = true
  | [] => rfl
  | n :: r => by
    rw [List.map_cons, List.all_cons, flat_ints r]
    rfl
theorem in_ints (i : Int) : ∀ ns : List Int, inV (.int i) (ns.map V.int) = decide (i ∈ ns)
  | [] => by simp [inV]
  | n :: r => by
    have h := in_ints i r
    unfold inV at h ⊢
    rw [List.map_cons, List.any_cons, h]
    by_cases e : n = i
    · subst e
      simp [eqV]
    · have e' : ¬ i = n := fun z => e z.symm
      simp [eqV, e, e']

def nIsN : R2 := fun x y H Q => y = .non ∧ Q (.bl (decide (x = .non))) H
def nNotN : R2 := fun x y H Q => y = .non ∧ Q (.bl (!decide (x = .non))) H
theorem op_nIsN {X : Cx} : OpR X (compareOp .Is) nIsN := op_isN
theorem op_nNotN {X : Cx} : OpR X (compareOp .IsNot) nNotN := op_notN
theorem x_nIsN (q : Q (.bl (decide (x = .non))) H) : nIsN x .non H Q := ⟨rfl, q⟩
theorem x_nNotN (q : Q (.bl (!decide (x = .non))) H) : nNotN x .non H Q := ⟨rfl, q⟩
def nAndM : R2 := fun x y H Q => ∃ (i : Int) (k : Nat), x = .int i ∧ y = .int (2 ^ k - 1) ∧ Q (.int (i % 2 ^ k)) H
theorem op_nAndM {X : Cx} : OpR X (binaryOp .BitAnd) nAndM := op_andM
theorem x_and255 (q : Q (.int (i % 256)) H) : nAndM (.int i) (.int 255) H Q := ⟨i, 8, rfl, rfl, q⟩

/-! ### the same rules, K told: within a comprehension's block too -/
section
variable {X : Cx} {w : World}
theorem k_in (e : X.K = K) : OpR X (compareOp .In) (rIn K false) := e ▸ op_in_seq
theorem k_enum {e : Expr} {ta : TA} {p pos tpos : Pos} {elts : List Expr} {kk : Nat} (hk : X.K = K) (hg : Gl X "enumerate") (hm : X.mg "enumerate" = none) (ha : PA X [e] ta) (hs : starEach [e] X.env = [(false, eval e X.env)] := by rfl) :
    PI X (.Tuple elts kk tpos) (.Call (.Name "enumerate" p) [e] [] pos) (iEnum K ta) := hk ▸ pi_enum hg hm ha hs
theorem k_gtup {es : List Expr} {k : Nat} {pos : Pos} {gs : TGs} {n : Nat} (hk : X.K = K) (hc : X.calm = true) (h : PGs X es gs)
    (hn : (assignEach es X.env).length = n := by rfl) (hst : (assignEach es X.env).findIdx? (·.1) = none := by rfl) : PG X (.Tuple es k pos) (gTup K n gs) := hk ▸ pg_tup hc h hn hst
theorem k_nin (e : X.K = K) : OpR X (compareOp .NotIn) (rIn K true) := e ▸ op_notIn_seq
theorem k_ixL (e : X.K = K) : IxR X (rIxL K) := e ▸ ix_list
theorem k_ixT (e : X.K = K) : IxR X (rIxT K) := e ▸ ix_tup
theorem k_slL (e : X.K = K) : SlR X (rSlL K) := e ▸ sl_list
theorem k_len (e : X.K = K) : CallR X (.builtin "len") (nLen K) := e ▸ call_nLen
theorem k_list (e : X.K = K) : CallR X (.type "list") (nListOf K) := e ▸ call_nListOf
theorem k_tuple (e : X.K = K) : CallR X (.type "tuple") (nTupleOf K) := e ▸ call_nTupleOf
theorem k_isi (e : X.K = K) : CallR X (.builtin "isinstance") (rIsi K) := e ▸ call_isi
theorem k_all (hc : X.calm = true) (e : X.K = K) : CallR X (.builtin "all") (rAll K) := e ▸ cr_all hc
theorem k_any (hc : X.calm = true) (e : X.K = K) : CallR X (.builtin "any") (rAny K) := e ▸ cr_any hc
theorem k_sum (hc : X.calm = true) (e : X.K = K) : CallR X (.builtin "sum") (rSum K) := e ▸ cr_sum hc
theorem k_sorted (e : X.K = K) : CallR X (.builtin "sorted") (rSorted K) := e ▸ cr_sorted
theorem k_sortedS (e : X.K = K) : CallR X (.builtin "sorted") (rSortedS K) := e ▸ cr_sortedS
theorem k_sortedSet (hc : X.calm = true) (e : X.w = w) : CallR X (.builtin "sorted") (rSortedSet w) := e ▸ cr_sortedSet hc
theorem k_setOfI (hc : X.calm = true) (e : X.K = K) (e' : X.w = w) : CallR X (.type "set") (rSetOfI K w) := e ▸ e' ▸ cr_setOfI hc
theorem k_eqD (hu : X.A.units + 64 < cLine) (e : X.K = K) : OpR X (compareOp .Eq) (rEqD K) := e ▸ op_eqD hu
theorem k_neD (hu : X.A.units + 64 < cLine) (e : X.K = K) : OpR X (compareOp .NotEq) (rNeD K) := e ▸ op_neD hu
end

/-! ### tests -/
theorem x_test {R : Bool → Hp → Prop} (q : te σ H fun x H1 => ∃ k, x = .bl k ∧ R k H1) : tTest te σ H R := q
theorem x_B {R : Bool → Hp → Prop} (q : te σ H fun x H1 => ∃ k, x = .bl k ∧ R k H1) : tB te σ H R := q
theorem x_and {R : Bool → Hp → Prop} (q : t σ H fun c H1 => if c = true then u σ H1 R else R false H1) : tAnd t u σ H R := q
theorem x_or {R : Bool → Hp → Prop} (q : t σ H fun c H1 => if c = true then R true H1 else u σ H1 R) : tOr t u σ H R := q
theorem x_not {R : Bool → Hp → Prop} (q : t σ H fun c H1 => R (!c) H1) : tNot t σ H R := q
theorem x_yes {R : Bool → Hp → Prop} (q : R true H) : tYes σ H R := q
theorem x_chain {r r' : R2} (q : ta σ H fun x H1 => tb σ H1 fun y H2 => r x y H2 fun z H3 => ∃ k, z = .bl k ∧ (if k = true then tc σ H3 fun w' H4 => r' y w' H4 Q else Q (.bl false) H3)) : tChain r r' ta tb tc σ H Q := q
theorem x_itd {p A B : Prop} [Decidable p] (h1 : p → A) (h2 : ¬p → B) : if decide p = true then A else B := by
  by_cases h : p
  · rw [if_pos (decide_eq_true h)]
    exact h1 h
  · rw [if_neg (by rw [decide_eq_false h]; decide)]
    exact h2 h
theorem x_itn {p A B : Prop} [Decidable p] (h1 : ¬p → A) (h2 : p → B) : if (!decide p) = true then A else B := by
  by_cases h : p
  · rw [decide_eq_true h, if_neg (by decide)]
    exact h2 h
  · rw [decide_eq_false h, if_pos (by decide)]
    exact h1 h
theorem x_itb {A B : Prop} (h1 : b = true → A) (h2 : b = false → B) : if b = true then A else B := by
  cases b with
  | true => rw [if_pos rfl]; exact h1 rfl
  | false => rw [if_neg (by decide)]; exact h2 rfl
theorem x_itnb {A B : Prop} (h1 : b = false → A) (h2 : b = true → B) : if (!b) = true then A else B := by
  cases b with
  | true => exact h2 rfl
  | false => exact h1 rfl

theorem x_nT {A B : Prop} (h : B) : if (!true) = true then A else B := h
theorem x_nF {A B : Prop} (h : A) : if (!false) = true then A else B := h
theorem x_dY {p A B : Prop} [Decidable p] (hp : p) (h : A) : if decide p = true then A else B := x_itd (fun _ => h) fun z => absurd hp z
theorem x_dN {p A B : Prop} [Decidable p] (hp : ¬p) (h : B) : if decide p = true then A else B := x_itd (fun z => absurd z hp) fun _ => h
theorem x_ndY {p A B : Prop} [Decidable p] (hp : p) (h : B) : if (!decide p) = true then A else B := x_itn (fun z => absurd hp z) fun _ => h
theorem x_ndN {p A B : Prop} [Decidable p] (hp : ¬p) (h : A) : if (!decide p) = true then A else B := x_itn (fun _ => h) fun z => absurd z hp

/-! ### statements -/
theorem x_seq (q : tu { D with nx := tz D } σ H) : tSeq tu tz D σ H := q
theorem x_sasg {n : Nat} (q : te σ H fun v H1 => tz D (σ.set n (some v)) H1) : tSeq (tAsg te (gName n)) tz D σ H := q
theorem x_asg {n : Nat} (q : te σ H fun v H1 => D.nx (σ.set n (some v)) H1) : tAsg te (gName n) D σ H := q
theorem x_sasgG (q : te σ H fun v H1 => g v σ H1 (tz D)) : tSeq (tAsg te g) tz D σ H := q
theorem x_asgG (q : te σ H fun v H1 => g v σ H1 D.nx) : tAsg te g D σ H := q
theorem x_ret (q : te σ H D.rt) : tRet te D σ H := q
theorem x_retN (q : D.rt .non H) : tRetN D σ H := q
theorem x_next (q : D.nx σ H) : tNext D σ H := q
theorem x_brk (q : D.bk σ H) : tBreak D σ H := q
theorem x_ct (q : D.ct σ H) : tCont D σ H := q
theorem x_sif (q : t σ H fun b H1 => if b = true then tu { D with nx := tz D } σ H1 else tw { D with nx := tz D } σ H1) : tSeq (tIfS t tu tw) tz D σ H := q
theorem x_ifS (q : t σ H fun b H1 => if b = true then tu D σ H1 else tw D σ H1) : tIfS t tu tw D σ H := q
theorem x_sdrop (q : te σ H fun _ H1 => tz D σ H1) : tSeq (tDrop te) tz D σ H := q
theorem x_drop (q : te σ H fun _ H1 => D.nx σ H1) : tDrop te D σ H := q
theorem x_saug {n : Nat} {ti : TIp} (h : σ[n]? = some (some x)) (q : te σ H fun y H1 => ti x y H1 fun z H2 => tz D (σ.set n (some z)) H2) : tSeq (tAug n te ti) tz D σ H := ⟨x, h, q⟩
theorem x_aug {n : Nat} {ti : TIp} (h : σ[n]? = some (some x)) (q : te σ H fun y H1 => ti x y H1 fun z H2 => D.nx (σ.set n (some z)) H2) : tAug n te ti D σ H := ⟨x, h, q⟩
theorem x_ipI {f : Int → Int → Int} (q : Q (.int (f i j)) H) : ipI f (.int i) (.int j) H Q := ⟨i, j, rfl, rfl, q⟩
/-- an if, then the rest: what follows is shown once -/
theorem x_cut (M : L2.St → Hp → Prop) (h : tu { D with nx := M } σ H) (k : ∀ σ' H', M σ' H' → tz D σ' H') : Evl.tCut tu tz D σ H := ⟨M, h, k⟩
theorem x_nocut (h : tu { D with nx := tz D } σ H) : Evl.tCut tu tz D σ H := ⟨_, h, fun _ _ q => q⟩

theorem x_nocutW (h : tSeq (tWhile t tu) tz D σ H) : Evl.tCut (tWhile t tu) tz D σ H := ⟨_, h, fun _ _ q => q⟩

/-! ### targets -/
theorem x_gName {n : Nat} {R : L2.St → Hp → Prop} (q : R (σ.set n (some v)) H) : gName n v σ H R := q
theorem x_gTup {n : Nat} {gs : TGs} {R : L2.St → Hp → Prop} {a : Addr} {xs : List V} (h : SqT K H a xs) (hn : xs.length = n) (q : gs xs σ H R) : gTup K n gs (.ref a) σ H R := ⟨a, xs, rfl, h, hn, q⟩
theorem x_gLst {n : Nat} {gs : TGs} {R : L2.St → Hp → Prop} {a : Addr} {xs : List V} (h : SqL K H a xs) (hn : xs.length = n) (q : gs xs σ H R) : gLst K n gs (.ref a) σ H R := ⟨a, xs, rfl, h, hn, q⟩
theorem x_gCons {gs : TGs} {R : L2.St → Hp → Prop} {vs : List V} (q : g v σ H fun σ' H' => gs vs σ' H' R) : gCons g gs (v :: vs) σ H R := ⟨v, vs, rfl, q⟩
theorem x_gNil {R : L2.St → Hp → Prop} (q : R σ H) : gNil [] σ H R := ⟨rfl, q⟩
theorem x_gSub {to ti : TE} {ts : TSet} {R : L2.St → Hp → Prop} (q : to σ H fun o H1 => ti σ H1 fun i H2 => ts o i v H2 fun H3 => R σ H3) : gSub to ti ts v σ H R := q
theorem ixN_nat {n j : Nat} (hj : j < n) : ixN n (j : Int) = some j := by
  unfold ixN
  rw [if_pos (by omega), if_pos (by omega)]
  simp
theorem ixN_of {n j : Nat} {k : Int} (e : k = (j : Int)) (hj : j < n) : ixN n k = some j := by
  rw [e]
  exact ixN_nat hj
theorem at_nat {α : Type} {xs : List α} {k : Int} {j : Nat} {v : α} (e : k = (j : Int)) (h : xs[j]? = some v) : atI xs k = some v := by
  rw [e]
  exact atI_nat h
theorem at_neg {α : Type} {xs : List α} {k : Int} {j : Nat} {v : α} (hk : k < 0) (e : k + (xs.length : Int) = (j : Int)) (h : xs[j]? = some v) : atI xs k = some v := by
  unfold atI ixN
  rw [if_neg (by omega), if_pos (by omega)]
  have e2 : (k + (xs.length : Int)).toNat = j := by omega
  rw [e2]
  exact h
theorem x_setL {p : Addr} {xs : List V} {k : Int} {j : Nat} {R : Hp → Prop} (h : H p = some (.lst xs)) (hj : ixN xs.length k = some j) (q : R (upd H p (.lst (xs.set j v)))) : rSetL (.ref p) (.int k) v H R := ⟨p, xs, k, j, rfl, rfl, h, hj, q⟩
/-- xs.append(e) -/
theorem x_bm {T : String} {r : V → List V → Hp → VK → Prop} {tr : TA} (q : te σ H fun x H1 => tyV K T x H1 ∧ tr σ H1 fun xs H2 => r x xs H2 Q) : tBM K T r te tr σ H Q := q
theorem x_bm0 {T : String} {r : V → List V → Hp → VK → Prop} (q : te σ H fun x H1 => tyV K T x H1 ∧ r x [] H1 Q) : tBM0 K T r te σ H Q := q
theorem x_tyL {a : Addr} {xs : List V} {P : Prop} (h : SqL K H a xs) (q : P) : tyV K "list" (.ref a) H ∧ P := ⟨.inl ⟨rfl, xs, h⟩, q⟩
theorem x_app {l : Addr} {xs : List V} (h : H l = some (.lst xs)) (hz : xs.length < 100000) (q : Q .non (upd H l (.lst (xs ++ [v])))) : rAppend (.ref l) [v] H Q := ⟨l, xs, v, rfl, rfl, h, size_lt hz, q⟩
theorem x_cat {a c : Addr} {xs ys : List V} (h : H a = some (.lst xs)) (h' : H c = some (.lst ys)) (hz : xs.length + ys.length ≤ 100000) (k : ∀ p H2, Fr p H → Same H H2 → H2 p = some (.lst (xs ++ ys)) → Q (.ref p) H2) : rCat (.ref a) (.ref c) H Q :=
  ⟨a, c, xs, ys, rfl, rfl, h, h', size_ok hz, x_new1 k⟩
theorem x_slL {a : Addr} {xs : List V} {lo hi : Option Int} (h : SqL K H a xs) (k : ∀ p H2, Fr p H → Same H H2 → H2 p = some (.lst (cutV xs lo hi)) → Q (.ref p) H2) : rSlL K (.ref a) lo hi H Q := ⟨a, xs, rfl, h, x_new1 k⟩

/-! ### loops -/
theorem x_forR {n : Nat} (q : te σ H fun x H1 => ∃ m : Int, x = .int m ∧ 0 ≤ m ∧ m ≤ 100000 ∧ ∃ Pv : Nat → L2.St → Hp → Prop, Pv 0 σ H1 ∧
      (∀ (i : Nat) σ' H', (i : Int) < m → Pv i σ' H' → tu { D with nx := Pv (i + 1), ct := Pv (i + 1), bk := D.nx } (σ'.set n (some (.int (i : Int)))) H') ∧ (∀ σ' H', Pv m.toNat σ' H' → D.nx σ' H'))
    (mono : ∀ Q Q' : VK, (∀ v H1, Q v H1 → Q' v H1) → te σ H Q → te σ H Q') : tFor (iRng1 (tCons te tNil)) (gName n) tu D σ H := by
  refine mono _ _ (fun v H1 h => ?_) q
  obtain ⟨m, rfl, h0, h1, Pv, p0, ps, pd⟩ := h
  refine ⟨m, rfl, by omega, by omega, for_range (lo := 0) (n := m.toNat) Pv p0 (fun i σ' H' hi p => ?_) pd⟩
  have e0 : (0 : Int) + (i : Int) = (i : Int) := Int.zero_add _
  show tu { D with nx := Pv (i + 1), ct := Pv (i + 1), bk := D.nx } (σ'.set n (some (.int ((0 : Int) + (i : Int))))) H'
  rw [e0]
  exact ps i σ' H' (by omega) p
def RRange (n : Nat) (m : Int) (tu : TS) (D : Ends) (σ : L2.St) (H : Hp) : Prop := ∃ Pv : Nat → L2.St → Hp → Prop, Pv 0 σ H ∧
      (∀ (i : Nat) σ' H', (i : Int) < m → Pv i σ' H' → tu { D with nx := Pv (i + 1), ct := Pv (i + 1), bk := D.nx } (σ'.set n (some (.int (i : Int)))) H') ∧ (∀ σ' H', Pv m.toNat σ' H' → D.nx σ' H')
def rRange (n : Nat) (tu : TS) (D : Ends) (σ : L2.St) : List V → Hp → Prop := fun vs H => ∃ j : Int, vs = [.int j] ∧ -(2 ^ 62) ≤ j ∧ j < 2 ^ 62 ∧ ∃ W : Nat → Nat → L2.St → Hp → Prop, (∃ m, W 0 m σ H) ∧ ∀ i m σ H, W i m σ H →
  ((Itr 0 j.toNat).stop i H ∧ D.nx σ H) ∨ ((Itr 0 j.toNat).go i H ∧ ∃ N : L2.St → Hp → Prop, (∀ σ' H', N σ' H' → ∃ m', m' < m ∧ W (i + 1) m' σ' H') ∧ ∀ x H', (Itr 0 j.toNat).yld i H x H' → gName n x σ H' fun σ2 H2 => tu { D with nx := N, ct := N, bk := D.nx } σ2 H2)
theorem x_forR1 {n : Nat} {tr : TA} (q : tr σ H (rRange n tu D σ)) : tFor (iRng1 tr) (gName n) tu D σ H := q
theorem x_range {n : Nat} {m : Int} (Pv : Nat → L2.St → Hp → Prop) (hm : 0 ≤ m ∧ m ≤ 100000) (p0 : Pv 0 σ H)
    (ps : ∀ (i : Nat) σ' H', (i : Int) < m → Pv i σ' H' → tu { D with nx := Pv (i + 1), ct := Pv (i + 1), bk := D.nx } (σ'.set n (some (.int (i : Int)))) H') (pd : ∀ σ' H', Pv m.toNat σ' H' → D.nx σ' H') : rRange n tu D σ [.int m] H := by
  refine ⟨m, rfl, by omega, by omega, for_range (lo := 0) (n := m.toNat) Pv p0 (fun i σ' H' hi p => ?_) pd⟩
  have e0 : (0 : Int) + (i : Int) = (i : Int) := Int.zero_add _
  show tu { D with nx := Pv (i + 1), ct := Pv (i + 1), bk := D.nx } (σ'.set n (some (.int ((0 : Int) + (i : Int))))) H'
  rw [e0]
  exact ps i σ' H' (by omega) p
def rForL (K : PySem.W.Frag) (g : TG) (tu : TS) (D : Ends) (σ : L2.St) : VK := fun x H => ∃ a, x = .ref a ∧ (∃ xs, SqL K H a xs) ∧ ∃ W : Nat → Nat → L2.St → Hp → Prop, (∃ m, W 0 m σ H) ∧ ∀ i m σ H, W i m σ H →
  ((Itl K a).stop i H ∧ D.nx σ H) ∨ ((Itl K a).go i H ∧ ∃ N : L2.St → Hp → Prop, (∀ σ' H', N σ' H' → ∃ m', m' < m ∧ W (i + 1) m' σ' H') ∧ ∀ x H', (Itl K a).yld i H x H' → g x σ H' fun σ2 H2 => tu { D with nx := N, ct := N, bk := D.nx } σ2 H2)
theorem x_forL1 (q : te σ H (rForL K g tu D σ)) : tFor (iList K te) g tu D σ H := q
theorem x_forL {a : Addr} {xs : List V} (Pv : Nat → L2.St → Hp → Prop) (hx : SqL K H a xs) (p0 : Pv 0 σ H) (hl : ∀ i σ' H', i ≤ xs.length → Pv i σ' H' → SqL K H' a xs)
    (ps : ∀ i x σ' H', xs[i]? = some x → Pv i σ' H' → g x σ' H' fun σ2 H2 => tu { D with nx := Pv (i + 1), ct := Pv (i + 1), bk := D.nx } σ2 H2) (pd : ∀ σ' H', Pv xs.length σ' H' → D.nx σ' H') : rForL K g tu D σ (.ref a) H :=
  ⟨a, rfl, ⟨xs, hx⟩, for_list Pv p0 hl ps pd⟩
def rForT (K : PySem.W.Frag) (g : TG) (tu : TS) (D : Ends) (σ : L2.St) : VK := fun x H => ∃ a, x = .ref a ∧ (∃ xs, SqT K H a xs) ∧ ∃ W : Nat → Nat → L2.St → Hp → Prop, (∃ m, W 0 m σ H) ∧ ∀ i m σ H, W i m σ H →
  ((Itt K a).stop i H ∧ D.nx σ H) ∨ ((Itt K a).go i H ∧ ∃ N : L2.St → Hp → Prop, (∀ σ' H', N σ' H' → ∃ m', m' < m ∧ W (i + 1) m' σ' H') ∧ ∀ x H', (Itt K a).yld i H x H' → g x σ H' fun σ2 H2 => tu { D with nx := N, ct := N, bk := D.nx } σ2 H2)
theorem x_forT1 (q : te σ H (rForT K g tu D σ)) : tFor (iTup K te) g tu D σ H := q
theorem x_forT {a : Addr} {xs : List V} (Pv : Nat → L2.St → Hp → Prop) (hx : SqT K H a xs) (p0 : Pv 0 σ H) (hl : ∀ i σ' H', i ≤ xs.length → Pv i σ' H' → SqT K H' a xs)
    (ps : ∀ i x σ' H', xs[i]? = some x → Pv i σ' H' → g x σ' H' fun σ2 H2 => tu { D with nx := Pv (i + 1), ct := Pv (i + 1), bk := D.nx } σ2 H2) (pd : ∀ σ' H', Pv xs.length σ' H' → D.nx σ' H') : rForT K g tu D σ (.ref a) H :=
  ⟨a, rfl, ⟨xs, hx⟩, for_tup Pv p0 hl ps pd⟩
/-- while: W by a number that falls -/
def Falls (W : Nat → L2.St → Hp → Prop) (m : Nat) : L2.St → Hp → Prop := fun σ' H' => ∃ m', m' < m ∧ W m' σ' H'
theorem x_while (W : Nat → L2.St → Hp → Prop) (m0 : Nat) (h0 : W m0 σ H) (hs : ∀ m σ' H', W m σ' H' → t σ' H' fun b H1 => if b = true then tu { D with nx := Falls W m, ct := Falls W m, bk := D.nx } σ' H1 else D.nx σ' H1)
    (mono : ∀ (σ' : L2.St) (H' : Hp) (R R' : Bool → Hp → Prop), (∀ y H4, R y H4 → R' y H4) → t σ' H' R → t σ' H' R') : tWhile t tu D σ H :=
  ⟨W, ⟨m0, h0⟩, fun m σ' H' hw => mono _ _ _ _ (fun b H1 q => by
    cases b with
    | true =>
      rw [if_pos rfl] at q ⊢
      exact ⟨Falls W m, fun _ _ h => h, q⟩
    | false =>
      rw [if_neg (by decide)] at q ⊢
      exact q) (hs m σ' H' hw)⟩
def WTurn (W : Nat → L2.St → Hp → Prop) (m : Nat) (tu : TS) (D : Ends) (σ : L2.St) : Bool → Hp → Prop := fun b H1 => if b = true then ∃ N : L2.St → Hp → Prop, (∀ σ' H', N σ' H' → ∃ m', m' < m ∧ W m' σ' H') ∧ tu { D with nx := N, ct := N, bk := D.nx } σ H1 else D.nx σ H1
theorem x_while1 (W : Nat → L2.St → Hp → Prop) (m0 : Nat) (h0 : W m0 σ H) (hs : ∀ m σ' H', W m σ' H' → t σ' H' (WTurn W m tu D σ')) : tWhile t tu D σ H := ⟨W, ⟨m0, h0⟩, hs⟩
theorem x_wT {W : Nat → L2.St → Hp → Prop} {m : Nat} (q : tu { D with nx := Falls W m, ct := Falls W m, bk := D.nx } σ H) : WTurn W m tu D σ true H := by
  unfold WTurn
  rw [if_pos rfl]
  exact ⟨Falls W m, fun _ _ h => h, q⟩
theorem x_wF {W : Nat → L2.St → Hp → Prop} {m : Nat} (q : D.nx σ H) : WTurn W m tu D σ false H := by
  unfold WTurn
  rw [if_neg (by decide)]
  exact q
theorem x_wd {W : Nat → L2.St → Hp → Prop} {m : Nat} {p : Prop} [Decidable p] (h1 : p → WTurn W m tu D σ true H) (h2 : ¬p → WTurn W m tu D σ false H) : WTurn W m tu D σ (decide p) H := by
  by_cases h : p
  · rw [decide_eq_true h]
    exact h1 h
  · rw [decide_eq_false h]
    exact h2 h
theorem x_wn {W : Nat → L2.St → Hp → Prop} {m : Nat} {p : Prop} [Decidable p] (h1 : ¬p → WTurn W m tu D σ true H) (h2 : p → WTurn W m tu D σ false H) : WTurn W m tu D σ (!decide p) H := by
  by_cases h : p
  · rw [decide_eq_true h]
    exact h2 h
  · rw [decide_eq_false h]
    exact h1 h

/-! ### comprehensions -/
def RLc (J : It) (g : TG) (tt : TT) (te : TE) (vs : List Nat) (σ : L2.St) (Q : VK) : Hp → Prop := fun H1 => ∀ D, H1 D = none → ∃ W : Nat → Nat → Hp → Prop, (∃ m, W 0 m (upd H1 D (.lst []))) ∧ ∀ i m H, W i m H →
  (J.stop i H ∧ Q (.ref D) H) ∨ (J.go i H ∧ ∃ Nx : Hp → Prop, (∀ H', Nx H' → ∃ m', m' < m ∧ W (i + 1) m' H') ∧ ∀ x H', J.yld i H x H' → g x (wipe σ vs) H' fun σ2 H2 => wipe σ2 vs = wipe σ vs ∧ tt σ2 H2 fun b H3 =>
    if b = true then te σ2 H3 fun y H4 => ∃ acc, H4 D = some (.lst acc) ∧ acc.length < sizeLine ∧ Nx (upd H4 D (.lst (acc ++ [y]))) else Nx H3)
def rLcL (K : PySem.W.Frag) (g : TG) (tt : TT) (te : TE) (vs : List Nat) (σ : L2.St) (Q : VK) : VK := fun x H1 => ∃ a, x = .ref a ∧ (∃ xs, SqL K H1 a xs) ∧ RLc (Itl K a) g tt te vs σ Q H1
def rLcT (K : PySem.W.Frag) (g : TG) (tt : TT) (te : TE) (vs : List Nat) (σ : L2.St) (Q : VK) : VK := fun x H1 => ∃ a, x = .ref a ∧ (∃ xs, SqT K H1 a xs) ∧ RLc (Itt K a) g tt te vs σ Q H1
def rLcR (g : TG) (tt : TT) (te : TE) (vs : List Nat) (σ : L2.St) (Q : VK) : List V → Hp → Prop := fun xs H1 => ∃ j : Int, xs = [.int j] ∧ -(2 ^ 62) ≤ j ∧ j < 2 ^ 62 ∧ RLc (Itr 0 j.toNat) g tt te vs σ Q H1
theorem x_lcL1 {tx : TE} {vs : List Nat} (q : tx σ H (rLcL K g t te vs σ Q)) : tLc (iList K tx) g t te vs σ H Q := q
theorem x_lcT1 {tx : TE} {vs : List Nat} (q : tx σ H (rLcT K g t te vs σ Q)) : tLc (iTup K tx) g t te vs σ H Q := q
theorem x_lcR1 {tr : TA} {vs : List Nat} (q : tr σ H (rLcR g t te vs σ Q)) : tLc (iRng1 tr) g t te vs σ H Q := q
/-- a list comprehension: Pv of the new list's place, the turn and the heap -/
theorem x_lcL {a : Addr} {xs : List V} {vs : List Nat} (Pv : Addr → Nat → Hp → Prop) (hx : SqL K H a xs) (h0 : ∀ Dl, Fr Dl H → Pv Dl 0 (upd H Dl (.lst []))) (hl : ∀ Dl i H', Fr Dl H → Pv Dl i H' → SqL K H' a xs)
    (hs : ∀ Dl, Fr Dl H → ∀ i x H', xs[i]? = some x → Pv Dl i H' → g x (wipe σ vs) H' fun σ2 H2 => wipe σ2 vs = wipe σ vs ∧ t σ2 H2 fun b H3 =>
      if b = true then te σ2 H3 fun y H4 => ∃ acc, H4 Dl = some (.lst acc) ∧ acc.length < sizeLine ∧ Pv Dl (i + 1) (upd H4 Dl (.lst (acc ++ [y]))) else Pv Dl (i + 1) H3)
    (hd : ∀ Dl H', Fr Dl H → Pv Dl xs.length H' → Q (.ref Dl) H') : rLcL K g t te vs σ Q (.ref a) H := ⟨a, rfl, ⟨xs, hx⟩, fun Dl hD =>
  lc_list (xs := xs) (Pv Dl) (h0 Dl ⟨hD⟩) (fun i H' _ p => hl Dl i H' ⟨hD⟩ p) (fun i x H' hi p => hs Dl ⟨hD⟩ i x H' hi p) (fun H' p => hd Dl H' ⟨hD⟩ p)⟩
theorem x_lcT {a : Addr} {xs : List V} {vs : List Nat} (Pv : Addr → Nat → Hp → Prop) (hx : SqT K H a xs) (h0 : ∀ Dl, Fr Dl H → Pv Dl 0 (upd H Dl (.lst []))) (hl : ∀ Dl i H', Fr Dl H → Pv Dl i H' → SqT K H' a xs)
    (hs : ∀ Dl, Fr Dl H → ∀ i x H', xs[i]? = some x → Pv Dl i H' → g x (wipe σ vs) H' fun σ2 H2 => wipe σ2 vs = wipe σ vs ∧ t σ2 H2 fun b H3 =>
      if b = true then te σ2 H3 fun y H4 => ∃ acc, H4 Dl = some (.lst acc) ∧ acc.length < sizeLine ∧ Pv Dl (i + 1) (upd H4 Dl (.lst (acc ++ [y]))) else Pv Dl (i + 1) H3)
    (hd : ∀ Dl H', Fr Dl H → Pv Dl xs.length H' → Q (.ref Dl) H') : rLcT K g t te vs σ Q (.ref a) H := ⟨a, rfl, ⟨xs, hx⟩, fun Dl hD =>
  lc_tup (xs := xs) (Pv Dl) (h0 Dl ⟨hD⟩) (fun i H' _ p => hl Dl i H' ⟨hD⟩ p) (fun i x H' hi p => hs Dl ⟨hD⟩ i x H' hi p) (fun H' p => hd Dl H' ⟨hD⟩ p)⟩
theorem x_lcR {m : Int} {vs : List Nat} (Pv : Addr → Nat → Hp → Prop) (hm : 0 ≤ m ∧ m ≤ 100000) (h0 : ∀ Dl, Fr Dl H → Pv Dl 0 (upd H Dl (.lst [])))
    (hs : ∀ Dl, Fr Dl H → ∀ (i : Nat) H', (i : Int) < m → Pv Dl i H' → g (.int (i : Int)) (wipe σ vs) H' fun σ2 H2 => wipe σ2 vs = wipe σ vs ∧ t σ2 H2 fun b H3 =>
      if b = true then te σ2 H3 fun y H4 => ∃ acc, H4 Dl = some (.lst acc) ∧ acc.length < sizeLine ∧ Pv Dl (i + 1) (upd H4 Dl (.lst (acc ++ [y]))) else Pv Dl (i + 1) H3)
    (hd : ∀ Dl H', Fr Dl H → Pv Dl m.toNat H' → Q (.ref Dl) H') : rLcR g t te vs σ Q [.int m] H := ⟨m, rfl, by omega, by omega, fun Dl hD =>
  lc_range (lo := 0) (n := m.toNat) (Pv Dl) (h0 Dl ⟨hD⟩) (fun i H' hi p => by
    have e0 : (0 : Int) + (i : Int) = (i : Int) := Int.zero_add _
    rw [e0]
    exact hs Dl ⟨hD⟩ i H' (by omega) p) (fun H' p => hd Dl H' ⟨hD⟩ p)⟩
def rLcE (K : PySem.W.Frag) (g : TG) (tt : TT) (te : TE) (vs : List Nat) (σ : L2.St) (Q : VK) : List V → Hp → Prop := fun vs' H1 => ∃ a xs, vs' = [.ref a] ∧ SqL K H1 a xs ∧ RLc (Ite K a) g tt te vs σ Q H1
theorem x_lcE1 {tr : TA} {vs : List Nat} (q : tr σ H (rLcE K g t te vs σ Q)) : tLc (iEnum K tr) g t te vs σ H Q := q
theorem x_lcE {a : Addr} {xs : List V} {vs : List Nat} (Pv : Addr → Nat → Hp → Prop) (hx : SqL K H a xs) (h0 : ∀ Dl, Fr Dl H → Pv Dl 0 (upd H Dl (.lst []))) (hl : ∀ Dl i H', Fr Dl H → Pv Dl i H' → SqL K H' a xs)
    (hs : ∀ Dl, Fr Dl H → ∀ i x H1 T H', xs[i]? = some x → Pv Dl i H1 → Fr T H1 → Same H1 H' → H' T = some (.tup [.int (i : Nat), x]) → g (.ref T) (wipe σ vs) H' fun σ2 H2 => wipe σ2 vs = wipe σ vs ∧ t σ2 H2 fun b H3 =>
      if b = true then te σ2 H3 fun y H4 => ∃ acc, H4 Dl = some (.lst acc) ∧ acc.length < sizeLine ∧ Pv Dl (i + 1) (upd H4 Dl (.lst (acc ++ [y]))) else Pv Dl (i + 1) H3)
    (hd : ∀ Dl H', Fr Dl H → Pv Dl xs.length H' → Q (.ref Dl) H') : rLcE K g t te vs σ Q [.ref a] H := ⟨a, xs, rfl, hx, fun Dl hD =>
  lc_it walk_enum (Pv Dl) (h0 Dl ⟨hD⟩) (fun i H' _ p => hl Dl i H' ⟨hD⟩ p) (fun i x H1 H' hi p y => by
    obtain ⟨T, u, v, rfl, hT, rfl, e1, e2⟩ := y
    cases Option.some.inj e1
    exact hs Dl ⟨hD⟩ i v H1 T _ e2 p ⟨hT⟩ (same_new hT) upd_same) (fun H' p => hd Dl H' ⟨hD⟩ p)⟩
/-- the end of a turn: what is kept goes into the list -/
def Keep (Dl : Addr) (N : Hp → Prop) : VK := fun y H => ∃ acc, H Dl = some (.lst acc) ∧ acc.length < sizeLine ∧ N (upd H Dl (.lst (acc ++ [y])))
theorem x_keep {Dl : Addr} {N : Hp → Prop} {acc : List V} (h : H Dl = some (.lst acc)) (hz : acc.length < 100000) (q : N (upd H Dl (.lst (acc ++ [y])))) : ∃ acc, H Dl = some (.lst acc) ∧ acc.length < sizeLine ∧ N (upd H Dl (.lst (acc ++ [y]))) := ⟨acc, h, size_lt hz, q⟩
theorem x_wiped {A : Prop} {a b : L2.St} (h : a = b) (q : A) : a = b ∧ A := ⟨h, q⟩
end

/-! ### lists -/
theorem map_at {α β : Type} {f : α → β} {xs : List α} {j : Nat} {x : α} (h : xs[j]? = some x) : (xs.map f)[j]? = some (f x) := by
  rw [List.getElem?_map, h]
  rfl
theorem of_map_at {α β : Type} {f : α → β} {xs : List α} {j : Nat} {y : β} (h : (xs.map f)[j]? = some y) : ∃ x, xs[j]? = some x ∧ y = f x := by
  rw [List.getElem?_map] at h
  obtain ⟨x, hx, rfl⟩ := Option.map_eq_some_iff.mp h
  exact ⟨x, hx, rfl⟩
theorem at_lt {α : Type} {xs : List α} {j : Nat} {x : α} (h : xs[j]? = some x) : j < xs.length := (List.getElem?_eq_some_iff.mp h).1
theorem lt_at {α : Type} {xs : List α} {j : Nat} (h : j < xs.length) : ∃ x, xs[j]? = some x := ⟨xs[j], List.getElem?_eq_getElem h⟩
theorem drop_at {α : Type} {xs : List α} {j : Nat} {x : α} (h : xs[j]? = some x) : xs.drop j = x :: xs.drop (j + 1) := by
  obtain ⟨h1, h2⟩ := List.getElem?_eq_some_iff.mp h
  rw [List.drop_eq_getElem_cons h1, h2]
theorem snoc_map {α β : Type} {f : α → β} {xs : List α} {x : α} : xs.map f ++ [f x] = (xs ++ [x]).map f := by
  rw [List.map_append]
  rfl
theorem mem_snoc {α : Type} {P : α → Prop} {xs : List α} {x : α} (h : ∀ y ∈ xs, P y) (hx : P x) : ∀ y ∈ xs ++ [x], P y := fun y hy => by
  rcases List.mem_append.mp hy with hy | hy
  · exact h y hy
  · rw [List.mem_singleton.mp hy]
    exact hx

def upto (a b : Int) : List Int := (List.range (b - a).toNat).map fun i => a + (i : Nat)
theorem rgV_ints (a b : Int) : rgV a b = (upto a b).map V.int := by
  unfold rgV upto
  rw [List.map_map]
  rfl
theorem upto_len (a b : Int) : (upto a b).length = (b - a).toNat := by
  unfold upto
  rw [List.length_map, List.length_range]
def nRg (Q : VK) : Int → Int → Hp → Prop := fun a b H1 => RgOk a b ∧ ∀ q, H1 q = none → Q (.ref q) (upd H1 q (.lst (rgV a b)))
theorem x_lstRg {σ : L2.St} {H : Hp} {Q : VK} {te : L2.St → Hp → (Int → Int → Hp → Prop) → Prop} (q : te σ H (nRg Q)) : tLstRg te σ H Q := q
theorem x_rg1 {σ : L2.St} {H : Hp} {ta : TE} {R : Int → Int → Hp → Prop} (q : ta σ H fun x H1 => ∃ n, x = .int n ∧ R 0 n H1) : tRg1 ta σ H R := q
theorem x_nRg {H : Hp} {Q : VK} {a b : Int} (h : 0 ≤ a ∧ a ≤ 100000 ∧ 0 ≤ b ∧ b ≤ 100000) (k : ∀ p H2, Fr p H → Same H H2 → H2 p = some (.lst ((upto a b).map V.int)) → Q (.ref p) H2) : nRg Q a b H :=
  ⟨RgOk.of_le (by omega) (by omega) (by omega) (by omega), fun p hp => k p _ ⟨hp⟩ (same_new hp) (by rw [upd_same, rgV_ints])⟩
theorem upto_at {a b : Int} {j : Nat} (h : (j : Int) < b - a) : (upto a b)[j]? = some (a + j) := by
  unfold upto
  rw [List.getElem?_map, List.getElem?_range (by omega)]
  rfl

/-! ### lists of lists of ints -/
/-- at a stands a list of lists of ints: L their places and what they hold -/
def LL (H : Hp) (a : Addr) (L : List (Addr × List Int)) : Prop := H a = some (.lst (L.map fun e => V.ref e.1)) ∧ ∀ e ∈ L, H e.1 = some (.lst (e.2.map V.int))
theorem ll_same {H H' : Hp} {a : Addr} {L : List (Addr × List Int)} (e : Same H H') (h : LL H a L) : LL H' a L := ⟨e _ _ h.1, fun p hp => e _ _ (h.2 p hp)⟩
theorem ll_nil {H : Hp} {a : Addr} (h : H a = some (.lst [])) : LL H a [] := ⟨h, fun _ z => absurd z List.not_mem_nil⟩
theorem ll_snoc {H H' : Hp} {a p : Addr} {ns : List Int} {L : List (Addr × List Int)} (h : LL H a L) (h1 : H' a = some (.lst ((L.map fun e => V.ref e.1) ++ [V.ref p]))) (h2 : H' p = some (.lst (ns.map V.int))) (k : ∀ e ∈ L, H' e.1 = H e.1) : LL H' a (L ++ [(p, ns)]) := by
  refine ⟨?_, fun e he => ?_⟩
  · rw [h1, List.map_append]
    rfl
  · rcases List.mem_append.mp he with he | he
    · rw [k e he]
      exact h.2 e he
    · rw [List.mem_singleton.mp he]
      exact h2

/-! ### data -/
def dInts (ns : List Int) : List PyData := ns.map PyData.int
theorem dp_ints {K : PySem.W.Frag} {H : Hp} : ∀ ns : List Int, DpAll K H (ns.map V.int) (dInts ns)
  | [] => .nil
  | n :: r => .cons (.int n) (dp_ints r)
theorem canLay_ints : ∀ ns : List Int, PyData.canLayAll0 (dInts ns) = true
  | [] => by simp [dInts, PyData.canLayAll0]
  | n :: r => by
    have h := canLay_ints r
    unfold dInts at h ⊢
    rw [List.map_cons]
    simp only [PyData.canLayAll0, PyData.canLay0, h, Bool.and_self]
theorem eqv_ints : ∀ ns ms : List Int, PyData.eqvAll (dInts ns) (dInts ms) = decide (ns = ms)
  | [], [] => by simp [dInts, PyData.eqvAll]
  | [], m :: r => by simp [dInts, PyData.eqvAll]
  | n :: r, [] => by simp [dInts, PyData.eqvAll]
  | n :: r, m :: q => by
    have h := eqv_ints r q
    unfold dInts at h ⊢
    rw [List.map_cons, List.map_cons, PyData.eqvAll, h, PyData.eqv]
    by_cases h1 : n = m <;> by_cases h2 : r = q <;> simp [h1, h2]
theorem canLayAll_map {α : Type} {f : α → PyData} : ∀ (xs : List α), (∀ x ∈ xs, (f x).canLay0 = true) → PyData.canLayAll0 (xs.map f) = true
  | [], _ => by simp [PyData.canLayAll0]
  | x :: r, h => by
    have h1 := h x List.mem_cons_self
    have h2 := canLayAll_map r fun y hy => h y (List.mem_cons_of_mem _ hy)
    rw [List.map_cons]
    simp only [PyData.canLayAll0, h1, h2, Bool.and_self]
theorem depthAll_map {α : Type} {f : α → PyData} {n : Nat} : ∀ (xs : List α), (∀ x ∈ xs, (f x).depth ≤ n) → PyData.depthAll (xs.map f) ≤ n
  | [], _ => by simp [PyData.depthAll]
  | x :: r, h => by
    have h1 := h x List.mem_cons_self
    have h2 := depthAll_map r fun y hy => h y (List.mem_cons_of_mem _ hy)
    rw [List.map_cons, PyData.depthAll]
    omega
theorem depth_ints : ∀ ns : List Int, PyData.depthAll (dInts ns) = 0
  | [] => by simp [dInts, PyData.depthAll]
  | n :: r => by
    have h := depth_ints r
    unfold dInts at h ⊢
    rw [List.map_cons, PyData.depthAll, h, PyData.depth]
    rfl
theorem shaped_lints (ns : List Int) : SeqAt.shaped (.list (dInts ns)) = true := by
  unfold SeqAt.shaped
  rw [PyData.canLay0, canLay_ints, PyData.depth, depth_ints]
  rfl
theorem shaped_tints (ns : List Int) : SeqAt.shaped (.tuple (dInts ns)) = true := by
  unfold SeqAt.shaped
  rw [PyData.canLay0, canLay_ints, PyData.depth, depth_ints]
  rfl
theorem eqv_lints (ns ms : List Int) : PyData.eqv (.list (dInts ns)) (.list (dInts ms)) = decide (ns = ms) := by
  rw [PyData.eqv]
  exact eqv_ints ns ms
theorem eqv_tints (ns ms : List Int) : PyData.eqv (.tuple (dInts ns)) (.tuple (dInts ms)) = decide (ns = ms) := by
  rw [PyData.eqv]
  exact eqv_ints ns ms
theorem shaped_of {d : PyData} (h1 : d.canLay0 = true) (h2 : d.depth ≤ 64) : SeqAt.shaped d = true := by
  unfold SeqAt.shaped
  rw [h1, decide_eq_true h2]
  rfl
theorem canLay_lints (ns : List Int) : PyData.canLay0 (.list (dInts ns)) = true := by
  rw [PyData.canLay0, canLay_ints]
theorem depth_lints (ns : List Int) : PyData.depth (.list (dInts ns)) = 1 := by
  rw [PyData.depth, depth_ints]
/-- lists of lists of ints as data -/
def dLists (ps : List (List Int)) : List PyData := ps.map fun p => .list (dInts p)
theorem canLay_lists (ps : List (List Int)) : PyData.canLayAll0 (dLists ps) = true := canLayAll_map ps fun p _ => canLay_lints p
theorem depth_lists (ps : List (List Int)) : PyData.depthAll (dLists ps) ≤ 1 := depthAll_map ps fun p _ => Nat.le_of_eq (depth_lints p)
theorem dp_list {K : PySem.W.Frag} {H : Hp} : ∀ (L : List (Addr × List Int)), (∀ e ∈ L, H e.1 = some (.lst (e.2.map V.int))) → DpAll K H (L.map fun e => V.ref e.1) (dLists (L.map (·.2)))
  | [], _ => .nil
  | e :: r, h => .cons (.lst (sq_of (h e List.mem_cons_self)) (dp_ints _)) (dp_list r fun x hx => h x (List.mem_cons_of_mem _ hx))
theorem dp_LL {K : PySem.W.Frag} {H : Hp} {a : Addr} {L : List (Addr × List Int)} (h : LL H a L) : Dp K H (.ref a) (.list (dLists (L.map (·.2)))) := .lst (sq_of h.1) (dp_list L h.2)
mutual
theorem dp_same {K : PySem.W.Frag} {H H' : Hp} (e : Same H H') : ∀ (d : PyData) (v : V), Dp K H v d → Dp K H' v d
  | .none, _, h => by cases h; exact .non
  | .bool b, _, h => by cases h; exact .bl b
  | .int i, _, h => by cases h; exact .int i
  | .str x, _, h => by cases h; exact .str x
  | .list ds, _, h => by
    cases h with
    | lst hs ha => exact .lst (sq_same hs e) (dpAll_same e ds _ ha)
  | .tuple ds, _, h => by
    cases h with
    | tup hs ha => exact .tup (st_same hs e) (dpAll_same e ds _ ha)
  | .dict _, _, h => by cases h
theorem dpAll_same {K : PySem.W.Frag} {H H' : Hp} (e : Same H H') : ∀ (ds : List PyData) (vs : List V), DpAll K H vs ds → DpAll K H' vs ds
  | [], _, h => by cases h; exact .nil
  | d :: ds, _, h => by
    cases h with
    | cons h1 h2 => exact .cons (dp_same e d _ h1) (dpAll_same e ds _ h2)
end
/-- equal data -/
theorem x_neSame {K : PySem.W.Frag} {H : Hp} {Q : VK} {x y : V} {d : PyData} (h : Dp K H x d) (h' : Dp K H y d) (c : d.canLay0 = true) (n : d.depth ≤ 64) (q : Q (.bl false) H) : rNeD K x y H Q :=
  ⟨d, d, h, h', shaped_of c n, shaped_of c n, by rw [SeqAt.eqv_refl d c]; exact q⟩
theorem x_eqSame {K : PySem.W.Frag} {H : Hp} {Q : VK} {x y : V} {d : PyData} (h : Dp K H x d) (h' : Dp K H y d) (c : d.canLay0 = true) (n : d.depth ≤ 64) (q : Q (.bl true) H) : rEqD K x y H Q :=
  ⟨d, d, h, h', shaped_of c n, shaped_of c n, by rw [SeqAt.eqv_refl d c]; exact q⟩
section
variable {K : PySem.W.Frag} {H : Hp} {Q : VK} {a c : Addr} {ns ms : List Int}
theorem x_neInts (h : SqL K H a (ns.map V.int)) (h' : SqL K H c (ms.map V.int)) (q : Q (.bl (!decide (ns = ms))) H) : rNeD K (.ref a) (.ref c) H Q :=
  ⟨.list (dInts ns), .list (dInts ms), .lst h (dp_ints ns), .lst h' (dp_ints ms), shaped_lints ns, shaped_lints ms, by rw [eqv_lints]; exact q⟩
theorem x_eqInts (h : SqL K H a (ns.map V.int)) (h' : SqL K H c (ms.map V.int)) (q : Q (.bl (decide (ns = ms))) H) : rEqD K (.ref a) (.ref c) H Q :=
  ⟨.list (dInts ns), .list (dInts ms), .lst h (dp_ints ns), .lst h' (dp_ints ms), shaped_lints ns, shaped_lints ms, by rw [eqv_lints]; exact q⟩
theorem x_neTInts (h : SqT K H a (ns.map V.int)) (h' : SqT K H c (ms.map V.int)) (q : Q (.bl (!decide (ns = ms))) H) : rNeD K (.ref a) (.ref c) H Q :=
  ⟨.tuple (dInts ns), .tuple (dInts ms), .tup h (dp_ints ns), .tup h' (dp_ints ms), shaped_tints ns, shaped_tints ms, by rw [eqv_tints]; exact q⟩
theorem x_eqTInts (h : SqT K H a (ns.map V.int)) (h' : SqT K H c (ms.map V.int)) (q : Q (.bl (decide (ns = ms))) H) : rEqD K (.ref a) (.ref c) H Q :=
  ⟨.tuple (dInts ns), .tuple (dInts ms), .tup h (dp_ints ns), .tup h' (dp_ints ms), shaped_tints ns, shaped_tints ms, by rw [eqv_tints]; exact q⟩
end
end Xk
/-! ## slices stored and deleted, properties, own objects -/
namespace Xk
open PySem PySem.Spec PyProof.Rows L2
section
variable {X : Cx} {o : Expr} {lo hi : Option Expr} {to : TE} {tl th : TO} {pos p2 tpos : Pos}
/-- o[lo:hi] = another list -/
def gSubSl (to : TE) (tl th : TO) : TG := fun v σ H R => to σ H fun x H1 => tl σ H1 fun l H2 => th σ H2 fun u H3 => ∃ (a b : Addr) (xs ys : List V) (i j : Int), x = .ref a ∧ v = .ref b ∧ l = some i ∧ u = some j ∧
  H3 a = some (.lst xs) ∧ H3 b = some (.lst ys) ∧ a ≠ b ∧ 0 ≤ i ∧ i ≤ j ∧ j ≤ xs.length ∧ xs.length + ys.length ≤ sizeLine ∧ R σ (upd H3 a (.lst (xs.take i.toNat ++ ys ++ xs.drop j.toNat)))
theorem pg_subSl (ho : PE X o to) (hl : PO X lo tl) (hu : PO X hi th)
    (ha : ∀ v, assign (.Subscript o (.Slice lo hi none p2) pos) X.env v = (do
      let ov ← holding [v] (eval o X.env)
      let iv ← holding [v, ov] (eval (.Slice lo hi none p2) X.env)
      standAt pos
      holding [v, ov, iv] (setItem ov iv v)
      release [iv, v, ov] []) := by intro _; rfl) : PG X (.Subscript o (.Slice lo hi none p2) pos) (gSubSl to tl th) := by
  refine ⟨fun pins s σ H v u Q I r h => ?_⟩
  rw [ha]
  refine wpAny_bind (wpAny_holding (thn (ho.run pins s σ H _ I h) fun ov s1 ⟨x, H1, I1, r1, q1⟩ => ?_))
  refine wpAny_bind (wpAny_holding ?_)
  refine wpAny_Slice (thn (hl.run pins s1 σ H1 _ I1 q1) fun vl s2 ⟨l, H2, I2, pl, q2⟩ => thn (hu.run pins s2 σ H2 _ I2 q2) fun vu s3 ⟨w, H3, I3, pu, q3⟩ => ?_)
  rw [evalPart_none]
  refine wpAny_pure ?_
  have I4 : Inv X pins σ H3 { s3 with heap := s3.heap.push { cls := .type "slice", data := .fields #[vl, vu, .none] } } := I3.kept (t' := s3.toks) fun b ob q => Heap.get?_push_of_some _ q
  obtain ⟨a, b, xs, ys, i, j, rfl, rfl, rfl, rfl, hA, hB, hne, h0, hij, hj, hz, q⟩ := q3
  cases r1
  cases r
  cases pl with
  | int _ ti =>
  cases pu with
  | int _ tj =>
  refine wpAny_bind (wpAny_standAt (wpAny_bind (wpAny_holding ?_)))
  exact set_slice I4 hA hB hne (Heap.IsSliceOf.new ..) ⟨_, rfl⟩ ⟨_, rfl⟩ h0 hij hj hz fun s' I5 => wpAny_release ⟨σ, _, I5, q⟩

theorem sel_take (f : Nat → Bool) (i n : Nat) (h : ∀ k : Nat, f k = (decide ((i : Int) ≤ (k : Int)) && decide ((k : Int) < (n : Int)) && (((k : Int) - (i : Int)) % 1 == 0))) :
    ∀ (xs : List Value) (m : Nat), m + xs.length ≤ n → (xs.zipIdx m).filterMap (fun (x, k) => if f k then none else some x) = xs.take (i - m)
  | [], m, hm => by simp
  | x :: r, m, hm => by
    rw [List.length_cons] at hm
    have ih := sel_take f i n h r (m + 1) (by omega)
    rw [List.zipIdx_cons, List.filterMap_cons]
    have hf : f m = decide (i ≤ m) := by
      rw [h m]
      by_cases h1 : i ≤ m
      · have h2 : (i : Int) ≤ (m : Int) := by omega
        have h3 : (m : Int) < (n : Int) := by omega
        have h4 : ((m : Int) - (i : Int)) % 1 = 0 := by omega
        rw [h4, decide_eq_true h1, decide_eq_true h2, decide_eq_true h3]
        rfl
      · have h2 : ¬ (i : Int) ≤ (m : Int) := by omega
        rw [decide_eq_false h1, decide_eq_false h2]
        rfl
    by_cases h1 : i ≤ m
    · have e : f m = true := by rw [hf, decide_eq_true h1]
      simp only [e, if_true]
      rw [ih, show i - (m + 1) = 0 by omega, show i - m = 0 by omega]
      rfl
    · have e : f m = false := by rw [hf, decide_eq_false h1]
      simp only [e]
      show x :: _ = _
      rw [ih, show i - m = (i - (m + 1)) + 1 by omega]
      rfl
theorem bounds_from {i n : Nat} (hi : i ≤ n) : sliceBounds (some (i : Int)) none none n = ((i : Int), (n : Int), 1) := by
  simp only [sliceBounds, Option.getD_none]
  have h1 : ¬ ((i : Int) < 0) := by omega
  simp only [h1, if_false, show (1 : Int) > 0 by decide, if_true]
  congr 1
  omega
section
variable {prog : Program} {w : World} {A : Around} {E : Value → Shared → Prop} {s : Shared}
open PySem.P PySem.F in
theorem delItem_tail {l sl : Addr} {items : Array Value} {n : Nat} {vl : Value} {i : Nat} {Q : Unit → Shared → Prop}
    (e : s.heap.get? l = some { cls := .type "list", data := .seq items n }) (hs : s.heap.IsSliceOf sl vl .none .none) (pl : IsPart vl (some (i : Int))) (hi : i ≤ items.size) (hsz : items.size ≤ sizeLine)
    (h : ∀ f : Array Value → Array Value, f items = (items.toList.take i).toArray → Q () { s with heap := s.heap.update l (Obj.mapSeq f) }) :
    wpAny (model prog w) A (delItem (.ref l) (.ref sl)) Q E s := by
  have hl : s.heap.IsList l items := PySem.IsL.isList e
  obtain ⟨os, hos, hcs, hds⟩ := id hs
  have hTs : s.TypeIs (.ref sl) "slice" := ⟨os, hos, hcs⟩
  have hstep : ¬ ((rawPart none == rawInt 0) = true) := Bool.false_ne_true
  unfold delItem
  refine wpAny_holding ?_
  refine wpAny_bind (wpAny_sequenceKey hl.typeIs (by decide) ?_)
  refine wpAny_bind (wpAny_callSpecial?_slot (name := Str.ofString "__delitem__") hl.typeIs PySem.F.slot_list_delitem
    (wpAny_call_entry PySem.F.slot_list_delitem hl.typeIs PySem.F.entry_list_delitem ?_ (PySem.F.args_list_delitem_2 _ _)))
  show wpAny _ _ (Builtin.List.listSubscript? (.ref sl) >>= _) _ _ s
  refine wpAny_bind ?_
  unfold Builtin.List.listSubscript?
  refine wpAny_bind (wpAny_specialOf hTs slice_no_index ?_)
  simp only [Option.isNone_none, if_true]
  refine wpAny_pure ?_
  show wpAny _ _ (typeOf (.ref sl) >>= _) _ _ s
  refine wpAny_bind (wpAny_typeOf hTs ?_)
  first
    | rw [if_neg (by decide)]
    | refine PySem.W.KFB.if_not (by decide) ?_
  rw [listSliceParts_eq]
  refine wpAny_bind (wpAny_bind (wpAny_field hos hds (x := .none) rfl (wpAny_bind (wpAny_listPart .none ?_))))
  rw [if_neg hstep]
  refine wpAny_bind (wpAny_field hos hds (x := vl) rfl (wpAny_bind (wpAny_listPart pl ?_)))
  refine wpAny_bind (wpAny_field hos hds (x := .none) rfl (wpAny_bind (wpAny_listPart .none (wpAny_pure ?_))))
  refine wpAny_bind (m := Builtin.List.listItems (.ref l)) ?_
  unfold Builtin.List.listItems
  refine wpAny_bind (wpAny_seqItems e rfl (wpAny_pure ?_))
  refine wpAny_bind (wpAny_of_eq ((sliceIndices_raw (some (i : Int)) none none items.size (by simp)).trans (congrArg (pure : Int × Int × Int → Sem (Int × Int × Int)) (bounds_from hi))) ?_)
  refine wpAny_bind (wpAny_rule ?_)
  show wpAny _ _ (updateSeq l _ >>= _) _ _ s
  have hf := sel_take _ i items.size (fun k => rfl) items.toList 0 (by simp)
  refine wpAny_bind (wpAny_updateSeq (hz := hsz) (_hz' := ?_) e rfl ?_)
  refine wpAny_bind (wpAny_letGo ?_)
  · exact wpAny_pure ⟨.none, rfl, wpAny_pure (h _ (congrArg List.toArray hf))⟩
  · refine Nat.le_trans (Nat.le_of_eq (congrArg Array.size (congrArg List.toArray hf))) ?_
    rw [List.size_toArray, List.length_take, Array.length_toList]
    omega
end
variable {pins : List (Addr × Obj)}
theorem del_tail {s : Shared} {σ : L2.St} {H : Hp} {l sl : Addr} {xs : List V} {i : Nat} {vl : Value} {Q : Unit → Shared → Prop} (I : Inv X pins σ H s) (hH : H l = some (.lst xs))
    (hs : s.heap.IsSliceOf sl vl .none .none) (pl : IsPart vl (some (i : Int))) (hi : i ≤ xs.length) (h : ∀ s', Inv X pins σ (upd H l (.lst (xs.take i))) s' → Q () s') :
    wpAny (model X.prog X.w) X.A (delItem (.ref l) (.ref sl)) Q X.xe s := by
  obtain ⟨z, its, n, r, hl, e⟩ := I.lstM hH
  refine delItem_tail e hs pl (by rw [List.size_toArray]; omega) (by rw [List.size_toArray]; omega) fun f hf => h _ ?_
  refine I.lset (its' := its.take i) (t' := s.toks) hH e ?_ (r.take i) ?_
  · rw [hf]
  · rw [List.length_take]
    omega
/-- del o[i:] -/
def tDelT (to : TE) (tl : TO) : TS := fun D σ H => to σ H fun x H1 => tl σ H1 fun u H2 => ∃ (l : Addr) (xs : List V) (i : Nat), x = .ref l ∧ u = some (i : Int) ∧ H2 l = some (.lst xs) ∧ i ≤ xs.length ∧ D.nx σ (upd H2 l (.lst (xs.take i)))
theorem ps_delT (ho : PE X o to) (hl : PO X lo tl) : PS X (.Delete [.Subscript o (.Slice lo none none p2) tpos] pos) (tDelT to tl) := by
  refine ⟨fun pins s σ H D I h => ?_⟩
  refine wpAny_Delete (wpAny_deleteEach_cons (wpAny_delete_Subscript (thn (ho.run pins s σ H _ I h) fun u s1 ⟨x, H1, I1, rx, q1⟩ => ?_)))
  refine wpAny_Slice (thn (hl.run pins s1 σ H1 _ I1 q1) fun vl s2 ⟨w, H2, I2, pl, q2⟩ => ?_)
  rw [evalPart_none]
  refine wpAny_pure (wpAny_pure ?_)
  have I4 : Inv X pins σ H2 { s2 with heap := s2.heap.push { cls := .type "slice", data := .fields #[vl, .none, .none] } } := I2.kept (t' := s2.toks) fun b ob q => Heap.get?_push_of_some _ q
  obtain ⟨l, xs, i, rfl, rfl, hA, hi, q⟩ := q2
  cases rx
  exact del_tail I4 hA (Heap.IsSliceOf.new ..) pl hi fun s3 I3 => wpAny_deleteEach_nil ⟨σ, _, I3, q⟩
end
section
variable {K : PySem.W.Frag} {σ σ2 : L2.St} {H H1 H2 : Hp} {Q : VK} {ta tv te te1 : TE} {D : Ends} {tz : TS} {g g1 : TG} {t tt1 : TT} {x v : V}
theorem k_pil {X : Cx} {tg l : Expr} {tl : TE} (e : X.K = K) (h : PE X l tl) : PI X tg l (iList K tl) := e ▸ pi_list h
/-- the inner for of a comprehension -/
def RIn (J : It) (g1 : TG) (tt1 : TT) (te : TE) (vs1 : List Nat) (σ2 : L2.St) (Dl : Addr) (N : Hp → Prop) : Hp → Prop := fun H4 => ∃ W1 : Nat → Nat → Hp → Prop, (∃ m, W1 0 m H4) ∧ ∀ j k H, W1 j k H →
  (J.stop j H ∧ N H) ∨ (J.go j H ∧ ∃ Nx1 : Hp → Prop, (∀ H', Nx1 H' → ∃ k', k' < k ∧ W1 (j + 1) k' H') ∧ ∀ x H', J.yld j H x H' → g1 x (wipe σ2 vs1) H' fun σ3 H5 => wipe σ3 vs1 = wipe σ2 vs1 ∧ tt1 σ3 H5 fun b H6 =>
    if b = true then te σ3 H6 fun y H7 => ∃ acc, H7 Dl = some (.lst acc) ∧ acc.length < sizeLine ∧ Nx1 (upd H7 Dl (.lst (acc ++ [y]))) else Nx1 H6)
def rInL (K : PySem.W.Frag) (g1 : TG) (tt1 : TT) (te : TE) (vs1 : List Nat) (σ2 : L2.St) (Dl : Addr) (N : Hp → Prop) : VK := fun x H4 => ∃ a, x = .ref a ∧ (∃ xs, SqL K H4 a xs) ∧ RIn (Itl K a) g1 tt1 te vs1 σ2 Dl N H4
theorem x_infL {a Dl : Addr} {xs : List V} {vs1 : List Nat} {N : Hp → Prop} (Pv : Nat → Hp → Prop) (hx : SqL K H a xs) (p0 : Pv 0 H) (hl : ∀ i H', Pv i H' → SqL K H' a xs)
    (hs : ∀ i x H', xs[i]? = some x → Pv i H' → g1 x (wipe σ2 vs1) H' fun σ3 H5 => wipe σ3 vs1 = wipe σ2 vs1 ∧ tt1 σ3 H5 fun b H6 => if b = true then te σ3 H6 (fun y H7 => ∃ acc, H7 Dl = some (.lst acc) ∧ acc.length < sizeLine ∧ Pv (i + 1) (upd H7 Dl (.lst (acc ++ [y])))) else Pv (i + 1) H6)
    (hd : ∀ H', Pv xs.length H' → N H') : rInL K g1 tt1 te vs1 σ2 Dl N (.ref a) H := by
  refine ⟨a, rfl, ⟨xs, hx⟩, fun i m H => m = xs.length - i ∧ i ≤ xs.length ∧ Pv i H, ⟨xs.length, by simp, Nat.zero_le _, p0⟩, ?_⟩
  rintro i m H' ⟨rfl, hi, p⟩
  have q := hl i H' p
  by_cases hlt : i < xs.length
  · refine .inr ⟨⟨xs, xs[i], q, by simp [hlt]⟩, Pv (i + 1), fun H' p' => ⟨xs.length - (i + 1), by omega, rfl, hlt, p'⟩, fun x H2 y => ?_⟩
    obtain ⟨e, y⟩ := y
    subst e
    exact hs i x _ (y xs q) p
  · have e : i = xs.length := by omega
    subst e
    exact .inl ⟨⟨xs, q, Nat.le_refl _⟩, hd H' p⟩
/-- the outer for -/
def rLc2L (K : PySem.W.Frag) (g : TG) (te1 : TE) (g1 : TG) (tt1 : TT) (te : TE) (vs vs1 : List Nat) (σ : L2.St) (Q : VK) : VK := fun x H1 => ∃ a, x = .ref a ∧ (∃ xs, SqL K H1 a xs) ∧ ∀ D, H1 D = none → ∃ W : Nat → Nat → Hp → Prop, (∃ m, W 0 m (upd H1 D (.lst []))) ∧ ∀ i m H, W i m H →
  ((Itl K a).stop i H ∧ Q (.ref D) H) ∨ ((Itl K a).go i H ∧ ∃ Nx : Hp → Prop, (∀ H', Nx H' → ∃ m', m' < m ∧ W (i + 1) m' H') ∧ ∀ x H', (Itl K a).yld i H x H' → g x (wipe σ vs) H' fun σ2 H2 => wipe σ2 vs = wipe σ vs ∧
    te1 σ2 H2 (rInL K g1 tt1 te vs1 σ2 D Nx))
theorem x_lc2 {tx : TE} {vs vs1 : List Nat} (q : tx σ H (rLc2L K g te1 g1 tt1 te vs vs1 σ Q)) : tLc2 (iList K tx) g tYes (iList K te1) g1 tt1 te vs vs1 σ H Q := q
theorem x_lc2L {a : Addr} {xs : List V} {vs vs1 : List Nat} (Pv : Addr → Nat → Hp → Prop) (hx : SqL K H a xs) (h0 : ∀ Dl, Fr Dl H → Pv Dl 0 (upd H Dl (.lst []))) (hl : ∀ Dl i H', Fr Dl H → Pv Dl i H' → SqL K H' a xs)
    (hs : ∀ Dl, Fr Dl H → ∀ i x H', xs[i]? = some x → Pv Dl i H' → g x (wipe σ vs) H' fun σ2 H2 => wipe σ2 vs = wipe σ vs ∧ te1 σ2 H2 (rInL K g1 tt1 te vs1 σ2 Dl (Pv Dl (i + 1))))
    (hd : ∀ Dl H', Fr Dl H → Pv Dl xs.length H' → Q (.ref Dl) H') : rLc2L K g te1 g1 tt1 te vs vs1 σ Q (.ref a) H := by
  refine ⟨a, rfl, ⟨xs, hx⟩, fun Dl hD => ⟨fun i m H => m = xs.length - i ∧ i ≤ xs.length ∧ Pv Dl i H, ⟨xs.length, by simp, Nat.zero_le _, h0 Dl ⟨hD⟩⟩, ?_⟩⟩
  rintro i m H' ⟨rfl, hi, p⟩
  have q := hl Dl i H' ⟨hD⟩ p
  by_cases hlt : i < xs.length
  · refine .inr ⟨⟨xs, xs[i], q, by simp [hlt]⟩, Pv Dl (i + 1), fun H' p' => ⟨xs.length - (i + 1), by omega, rfl, hlt, p'⟩, fun x H2 y => ?_⟩
    obtain ⟨e, y⟩ := y
    subst e
    exact hs Dl ⟨hD⟩ i x _ (y xs q) p
  · have e : i = xs.length := by omega
    subst e
    exact .inl ⟨⟨xs, q, Nat.le_refl _⟩, hd Dl H' ⟨hD⟩ p⟩
/-- attributes -/
theorem x_fld {a C dx : Addr} {fs : List (Str × V)} {f : Str} (h : H a = some (.ins C dx fs)) (c : Cls K C) (n : NoAttr K C f) (l : fs.lookup f = some v) (q : Q v H) : (∃ a' C dx fs v, V.ref a = .ref a' ∧ H a' = some (.ins C dx fs) ∧ Cls K C ∧ NoAttr K C f ∧ fs.lookup f = some v ∧ Q v H) :=
  ⟨a, C, dx, fs, v, rfl, h, c, n, l, q⟩
/-- what is read from an instance -/
def rFld (K : PySem.W.Frag) (f : Str) (Q : VK) : VK := fun x H1 => ∃ a C dx fs v, x = .ref a ∧ H1 a = some (.ins C dx fs) ∧ Cls K C ∧ NoAttr K C f ∧ fs.lookup f = some v ∧ Q v H1
theorem x_fld1 {f : Str} (q : ta σ H (rFld K f Q)) : tFld K ta f σ H Q := q
theorem x_rFld {a C dx : Addr} {fs : List (Str × V)} {f : Str} (h : H a = some (.ins C dx fs)) (c : Cls K C) (n : NoAttr K C f) (l : fs.lookup f = some v) (q : Q v H) : rFld K f Q (.ref a) H := ⟨a, C, dx, fs, v, rfl, h, c, n, l, q⟩
def rSetF (K : PySem.W.Frag) (f : Str) (y : V) (R : Hp → Prop) : VK := fun x H2 => ∃ a C dx fs, x = .ref a ∧ H2 a = some (.ins C dx fs) ∧ Cls K C ∧ NoAttr K C f ∧ fs.length < 1000 ∧ R (upd H2 a (.ins C dx (putF f y fs)))
theorem x_sfld {f : Str} (q : tv σ H fun y H1 => ta σ H1 (rSetF K f y (D.nx σ))) : sFld K ta tv f D σ H := q
theorem x_ssfld {f : Str} (q : tv σ H fun y H1 => ta σ H1 (rSetF K f y fun H2 => tz D σ H2)) : tSeq (sFld K ta tv f) tz D σ H := q
theorem x_rSetF {a C dx : Addr} {fs : List (Str × V)} {f : Str} {R : Hp → Prop} (h : H a = some (.ins C dx fs)) (c : Cls K C) (n : NoAttr K C f) (l : fs.length < 1000) (q : R (upd H a (.ins C dx (putF f x fs)))) : rSetF K f x R (.ref a) H := ⟨a, C, dx, fs, rfl, h, c, n, l, q⟩
def rProp (C : Addr) (sp : Sp) (dvs : List V) (E : XK) (Q : VK) : VK := fun x H1 => ∃ a dx fs, x = .ref a ∧ H1 a = some (.ins C dx fs) ∧ sp (.ref a :: dvs) H1 Q E
theorem x_prop {C : Addr} {sp : Sp} {dvs : List V} {E : XK} (q : ta σ H (rProp C sp dvs E Q)) : tProp C sp dvs E ta σ H Q := q
theorem x_rProp {a C dx : Addr} {fs : List (Str × V)} {sp : Sp} {dvs : List V} {E : XK} (h : H a = some (.ins C dx fs)) (q : sp (.ref a :: dvs) H Q E) : rProp C sp dvs E Q (.ref a) H := ⟨a, dx, fs, rfl, h, q⟩
def rMeth (C : Addr) (m : Str) (tr : TA) (sp : Sp) (dvs : List V) (E : XK) (σ : L2.St) (Q : VK) : VK := fun x H1 => ∃ a dx fs, x = .ref a ∧ H1 a = some (.ins C dx fs) ∧ fs.lookup m = none ∧ tr σ H1 fun vs H2 => sp (x :: (vs ++ dvs)) H2 Q E
theorem x_meth {C : Addr} {m : Str} {tr : TA} {sp : Sp} {dvs : List V} {E : XK} (q : ta σ H (rMeth C m tr sp dvs E σ Q)) : tMeth C m sp dvs E ta tr σ H Q := q
theorem x_rMeth {a C dx : Addr} {fs : List (Str × V)} {m : Str} {tr : TA} {sp : Sp} {dvs : List V} {E : XK} (h : H a = some (.ins C dx fs)) (l : fs.lookup m = none) (q : tr σ H fun vs H2 => sp (.ref a :: (vs ++ dvs)) H2 Q E) : rMeth C m tr sp dvs E σ Q (.ref a) H := ⟨a, dx, fs, rfl, h, l, q⟩
def rMake (C : Addr) (sp : Sp) (dvs : List V) (E : XK) (Q : VK) : List V → Hp → Prop := fun vs H1 => ∀ x dx, H1 x = none → H1 dx = none → dx ≠ x → sp (.ref x :: (vs ++ dvs)) (upd (upd H1 dx (.own x)) x (.ins C dx [])) (fun v H2 => v = .non ∧ Q (.ref x) H2) E
theorem x_make {C : Addr} {tr : TA} {sp : Sp} {dvs : List V} {E : XK} (q : tr σ H (rMake C sp dvs E Q)) : tMake C sp dvs E tr σ H Q := q
theorem x_rMake {C : Addr} {sp : Sp} {dvs vs : List V} {E : XK} (k : ∀ x dx H2, Fr x H → Fr dx H → dx ≠ x → Same H H2 → H2 dx = some (.own x) → H2 x = some (.ins C dx []) → sp (.ref x :: (vs ++ dvs)) H2 (fun v H3 => v = .non ∧ Q (.ref x) H3) E) : rMake C sp dvs E Q vs H :=
  fun x dx hx hd hn => k x dx _ ⟨hx⟩ ⟨hd⟩ hn (same_mut (same_fr ⟨hd⟩) ⟨hx⟩) ((upd_ne hn).trans upd_same) upd_same
/-- slices stored and deleted -/
def rDelT (R : Hp → Prop) (l : Addr) (xs : List V) (i : Nat) (u : Option Int) (H2 : Hp) : Prop := u = some (i : Int) ∧ H2 l = some (.lst xs) ∧ i ≤ xs.length ∧ R (upd H2 l (.lst (xs.take i)))
theorem x_delT {to : TE} {tl : TO} (q : to σ H fun x H1 => tl σ H1 fun u H2 => ∃ l xs i, x = .ref l ∧ rDelT (D.nx σ) l xs i u H2) : tDelT to tl D σ H := q
theorem x_sdelT {to : TE} {tl : TO} (q : to σ H fun x H1 => tl σ H1 fun u H2 => ∃ l xs i, x = .ref l ∧ rDelT (fun H3 => tz D σ H3) l xs i u H2) : tSeq (tDelT to tl) tz D σ H := q
theorem x_rDelT {l : Addr} {xs : List V} {i : Nat} {k : Int} {R : Hp → Prop} (e : k = (i : Int)) (h : H l = some (.lst xs)) (hi : i ≤ xs.length) (q : R (upd H l (.lst (xs.take i)))) : ∃ l' xs i', V.ref l = .ref l' ∧ rDelT R l' xs i' (some k) H := ⟨l, xs, i, rfl, by rw [e], h, hi, q⟩
end
end Xk
/-! ## pairs in order, defs with defaults -/
namespace Xk
open PySem PySem.Spec PyProof.Rows L2
/-- the pair (p, q) stands below (r, s) -/
def Bf (p q r s : Int) : Prop := p < r ∨ (p = r ∧ q < s)
instance {p q r s : Int} : Decidable (Bf p q r s) := by unfold Bf; infer_instance
section
variable {X : Cx} {K : PySem.W.Frag} {H : Hp} {Q : VK} {a b : Addr} {p q r s : Int}
theorem pair_in {pins : List (Addr × Obj)} {σ : L2.St} {z : Shared} (I : Inv X pins σ H z) (h : SqT X.K H a [.int p, .int q]) : ∃ t u, z.heap.IsTuple a #[.int p t, .int q u] := by
  obtain ⟨vs, rv, it, _⟩ := I.tuple h
  cases rv with
  | cons x y =>
    cases y with
    | cons y w =>
      cases w
      obtain ⟨t, rfl⟩ := x
      obtain ⟨u, rfl⟩ := y
      exact ⟨t, u, it⟩
theorem eq_ints {A : Around} {z : Shared} (i j : Int) (t u : Tok) : SeqAt.EqAt A z (.int i t) (.int j u) (decide (i = j)) := by
  have h : (i == j) = decide (i = j) := by
    by_cases e : i = j
    · subst e
      simp
    · simp [e]
  rw [← h]
  exact SeqAt.EqAt.int_int _ _ _ _
def rGeP (K : PySem.W.Frag) : R2 := fun x y H Q => ∃ a b p q r s, x = .ref a ∧ y = .ref b ∧ SqT K H a [.int p, .int q] ∧ SqT K H b [.int r, .int s] ∧ Q (.bl (!decide (Bf p q r s))) H
def rLtP (K : PySem.W.Frag) : R2 := fun x y H Q => ∃ a b p q r s, x = .ref a ∧ y = .ref b ∧ SqT K H a [.int p, .int q] ∧ SqT K H b [.int r, .int s] ∧ Q (.bl (decide (Bf p q r s))) H
theorem op_geP (hu : X.A.units < cLine) : OpR X (compareOp .GtE) (rGeP X.K) := by
  intro pins σ0 σ H x y v u Q I rx ry h
  obtain ⟨a, b, p, q, r, s, rfl, rfl, ha, hb, k⟩ := h
  cases rx
  cases ry
  obtain ⟨t1, t2, ia⟩ := pair_in I ha
  obtain ⟨t3, t4, ib⟩ := pair_in I hb
  have R := Ob.RcOp.tuples_ge (e := fun j => if j = 0 then decide (p = r) else decide (q = s)) (r := fun j => if j = 0 then decide (r ≤ p) else decide (s ≤ q)) ia ib hu
    (fun j h1 h2 => match j, h1, h2 with | 0, _, _ => eq_ints _ _ _ _ | 1, _, _ => eq_ints _ _ _ _ | j + 2, z, _ => absurd (show j + 2 < 2 from z) (by omega))
    (fun j h1 h2 _ => match j, h1, h2 with | 0, _, _ => Ob.RcOp.ge_int _ _ _ _ | 1, _, _ => Ob.RcOp.ge_int _ _ _ _ | j + 2, z, _ => absurd (show j + 2 < 2 from z) (by omega))
  refine R X.prog X.w X.xe _ ?_
  have e : Ob.lexAt (fun j => if j = 0 then decide (p = r) else decide (q = s)) (fun j => if j = 0 then decide (r ≤ p) else decide (s ≤ q)) (decide (2 ≥ 2)) 0 2 = !decide (Bf p q r s) := by
    simp only [Ob.lexAt_succ, Ob.lexAt_zero, Bf]
    by_cases h1 : p = r
    · by_cases h2 : q = s
      · simp [h1, h2]
      · by_cases h3 : s ≤ q
        · have h4 : ¬ q < s := by omega
          simp [h1, h2, h3, h4]
        · have h4 : q < s := by omega
          simp [h1, h2, h3, h4]
    · by_cases h3 : r ≤ p
      · have h4 : ¬ p < r := by omega
        simp [h1, h3, h4]
      · have h4 : p < r := by omega
        simp [h1, h3, h4]
  exact ⟨.bl _, H, I, rfl, (congrArg (fun z => Q (.bl z) H) e).mpr k⟩
theorem op_ltP (hu : X.A.units < cLine) : OpR X (compareOp .Lt) (rLtP X.K) := by
  intro pins σ0 σ H x y v u Q I rx ry h
  obtain ⟨a, b, p, q, r, s, rfl, rfl, ha, hb, k⟩ := h
  cases rx
  cases ry
  obtain ⟨t1, t2, ia⟩ := pair_in I ha
  obtain ⟨t3, t4, ib⟩ := pair_in I hb
  have R := Ob.RcOp.tuples_lt (e := fun j => if j = 0 then decide (p = r) else decide (q = s)) (r := fun j => if j = 0 then decide (p < r) else decide (q < s)) ia ib hu
    (fun j h1 h2 => match j, h1, h2 with | 0, _, _ => eq_ints _ _ _ _ | 1, _, _ => eq_ints _ _ _ _ | j + 2, z, _ => absurd (show j + 2 < 2 from z) (by omega))
    (fun j h1 h2 _ => match j, h1, h2 with | 0, _, _ => Ob.RcOp.lt_int _ _ _ _ | 1, _, _ => Ob.RcOp.lt_int _ _ _ _ | j + 2, z, _ => absurd (show j + 2 < 2 from z) (by omega))
  refine R X.prog X.w X.xe _ ?_
  have e : Ob.lexAt (fun j => if j = 0 then decide (p = r) else decide (q = s)) (fun j => if j = 0 then decide (p < r) else decide (q < s)) (decide (2 < 2)) 0 2 = decide (Bf p q r s) := by
    simp only [Ob.lexAt_succ, Ob.lexAt_zero, Bf]
    by_cases h1 : p = r
    · by_cases h2 : q = s
      · simp [h1, h2]
      · by_cases h3 : q < s
        · simp [h1, h2, h3]
        · simp [h1, h2, h3]
    · by_cases h3 : p < r
      · simp [h1, h3]
      · simp [h1, h3]
  exact ⟨.bl _, H, I, rfl, (congrArg (fun z => Q (.bl z) H) e).mpr k⟩
theorem k_geP (hu : X.A.units + 64 < cLine) (e : X.K = K) : OpR X (compareOp .GtE) (rGeP K) := e ▸ op_geP (by omega)
theorem k_ltP (hu : X.A.units + 64 < cLine) (e : X.K = K) : OpR X (compareOp .Lt) (rLtP K) := e ▸ op_ltP (by omega)
theorem x_geP (h : SqT K H a [.int p, .int q]) (h' : SqT K H b [.int r, .int s]) (k : Q (.bl (!decide (Bf p q r s))) H) : rGeP K (.ref a) (.ref b) H Q := ⟨a, b, p, q, r, s, rfl, rfl, h, h', k⟩
theorem x_ltP (h : SqT K H a [.int p, .int q]) (h' : SqT K H b [.int r, .int s]) (k : Q (.bl (decide (Bf p q r s))) H) : rLtP K (.ref a) (.ref b) H Q := ⟨a, b, p, q, r, s, rfl, rfl, h, h', k⟩
def nMax2 : List V → Hp → VK → Prop := fun xs H Q => ∃ i j : Int, xs = [.int i, .int j] ∧ Q (.int (max i j)) H
def nMin2 : List V → Hp → VK → Prop := fun xs H Q => ∃ i j : Int, xs = [.int i, .int j] ∧ Q (.int (min i j)) H
theorem call_nMax2 (hc : X.calm = true) : CallR X (.builtin "max") nMax2 := by
  intro pins s σ H xs us Q I r h
  obtain ⟨i, j, e, q⟩ := h
  refine call_max2 hc pins s σ H xs us Q I r ⟨i, j, e, ?_⟩
  have z : (if j > i then j else i) = max i j := by
    by_cases h : i < j
    · rw [if_pos h]
      omega
    · rw [if_neg h]
      omega
  rw [z]
  exact q
theorem call_nMin2 (hc : X.calm = true) : CallR X (.builtin "min") nMin2 := by
  intro pins s σ H xs us Q I r h
  obtain ⟨i, j, e, q⟩ := h
  refine call_min2 hc pins s σ H xs us Q I r ⟨i, j, e, ?_⟩
  have z : (if j < i then j else i) = min i j := by
    by_cases h : j < i
    · rw [if_pos h]
      omega
    · rw [if_neg h]
      omega
  rw [z]
  exact q
theorem x_nMax2 {i j : Int} (k : Q (.int (max i j)) H) : nMax2 [.int i, .int j] H Q := ⟨i, j, rfl, k⟩
theorem x_nMin2 {i j : Int} (k : Q (.int (min i j)) H) : nMin2 [.int i, .int j] H Q := ⟨i, j, rfl, k⟩
/-- lists and tuples stay, though an own object changes -/
structure Sk (K : PySem.W.Frag) (H H' : Hp) : Prop where
  l : ∀ a xs, SqL K H a xs → SqL K H' a xs
  t : ∀ a xs, SqT K H a xs → SqT K H' a xs
theorem sk_same {H' : Hp} (e : Same H H') : Sk K H H' := ⟨fun _ _ h => sq_same h e, fun _ _ h => st_same h e⟩
theorem Sk.refl (H : Hp) : Sk K H H := ⟨fun _ _ h => h, fun _ _ h => h⟩
theorem Sk.trans {H' H'' : Hp} (e : Sk K H H') (e' : Sk K H' H'') : Sk K H H'' := ⟨fun a xs h => e'.l a xs (e.l a xs h), fun a xs h => e'.t a xs (e.t a xs h)⟩
theorem sk_but {H' : Hp} {C dx : Addr} {fs : List (Str × V)} (hi : H a = some (.ins C dx fs)) (e : But a H H') : Sk K H H' := by
  have key : ∀ b o, H b = some o → (∀ C dx fs, o ≠ .ins C dx fs) → H' b = some o := fun b o hb hn => e b o (fun z => by
    subst z
    exact hn _ _ _ (Option.some.inj (hb.symm.trans hi))) hb
  constructor
  · intro b xs h
    rcases h with (h | ⟨o, h⟩) | h
    · exact .inl (.inl (key _ _ h fun _ _ _ z => by cases z))
    · exact .inl (.inr ⟨o, key _ _ h fun _ _ _ z => by cases z⟩)
    · exact .inr h
  · intro b xs h
    rcases h with (h | ⟨o, h⟩) | h
    · exact .inl (.inl (key _ _ h fun _ _ _ z => by cases z))
    · exact .inl (.inr ⟨o, key _ _ h fun _ _ _ z => by cases z⟩)
    · exact .inr h
mutual
theorem dp_sk {H' : Hp} (e : Sk K H H') : ∀ (d : PyData) (v : V), Dp K H v d → Dp K H' v d
  | .none, _, h => by cases h; exact .non
  | .bool b, _, h => by cases h; exact .bl b
  | .int i, _, h => by cases h; exact .int i
  | .str x, _, h => by cases h; exact .str x
  | .list ds, _, h => by
    cases h with
    | lst hs ha => exact .lst (e.l _ _ hs) (dps_sk e ds _ ha)
  | .tuple ds, _, h => by
    cases h with
    | tup hs ha => exact .tup (e.t _ _ hs) (dps_sk e ds _ ha)
  | .dict _, _, h => by cases h
theorem dps_sk {H' : Hp} (e : Sk K H H') : ∀ (ds : List PyData) (vs : List V), DpAll K H vs ds → DpAll K H' vs ds
  | [], _, h => by cases h; exact .nil
  | d :: ds, _, h => by
    cases h with
    | cons h1 h2 => exact .cons (dp_sk e d _ h1) (dps_sk e ds _ h2)
end
/-- tuples stay -/
structure St (K : PySem.W.Frag) (H H' : Hp) : Prop where
  t : ∀ a xs, SqT K H a xs → SqT K H' a xs
theorem Sk.st {H' : Hp} (e : Sk K H H') : St K H H' := ⟨e.t⟩
theorem St.refl (H : Hp) : St K H H := ⟨fun _ _ h => h⟩
theorem St.trans {H' H'' : Hp} (e : St K H H') (e' : St K H' H'') : St K H H'' := ⟨fun a xs h => e'.t a xs (e.t a xs h)⟩
theorem tt_same {H' : Hp} (e : Same H H') : St K H H' := ⟨fun _ _ h => st_same h e⟩
theorem tt_but {H' : Hp} {o : HO} (hi : H a = some o) (h1 : ∀ xs, o ≠ .tup xs) (h2 : ∀ u xs, o ≠ .frz u (.tup xs)) (e : But a H H') : St K H H' := by
  refine ⟨fun b xs h => ?_⟩
  rcases h with (h | ⟨u, h⟩) | h
  · exact .inl (.inl (e b _ (fun z => by subst z; exact h1 xs (Option.some.inj (hi.symm.trans h))) h))
  · exact .inl (.inr ⟨u, e b _ (fun z => by subst z; exact h2 u xs (Option.some.inj (hi.symm.trans h))) h⟩)
  · exact .inr h
theorem tt_butL {H' : Hp} {ys : List V} (hi : H a = some (.lst ys)) (e : But a H H') : St K H H' := tt_but hi (fun _ z => by cases z) (fun _ _ z => by cases z) e
theorem tt_butO {H' : Hp} {C dx : Addr} {fs : List (Str × V)} (hi : H a = some (.ins C dx fs)) (e : But a H H') : St K H H' := tt_but hi (fun _ z => by cases z) (fun _ _ z => by cases z) e
theorem tt_mutL {o : HO} {ys : List V} (hi : H a = some (.lst ys)) : St K H (upd H a o) := tt_butL hi (but_mut (But.refl _ _))
mutual
/-- none, ints, truth values, texts, and tuples of such -/
def tupD : PyData → Bool
  | .none | .bool _ | .int _ => true
  | .str x => PyData.canLay0 (.str x)
  | .tuple xs => tupDs xs
  | .list _ | .dict _ => false
def tupDs : List PyData → Bool
  | [] => true
  | x :: xs => tupD x && tupDs xs
end
mutual
theorem tupD_lay : ∀ (d : PyData), tupD d = true → d.canLay0 = true
  | .none, _ => rfl
  | .bool _, _ => rfl
  | .int _, _ => rfl
  | .str x, h => h
  | .tuple xs, h => tupDs_lay xs h
  | .list _, h => by cases h
  | .dict _, h => by cases h
theorem tupDs_lay : ∀ (ds : List PyData), tupDs ds = true → PyData.canLayAll0 ds = true
  | [], _ => rfl
  | x :: xs, h => by
    have h2 : (tupD x && tupDs xs) = true := h
    rw [Bool.and_eq_true] at h2
    show (x.canLay0 && PyData.canLayAll0 xs) = true
    rw [tupD_lay x h2.1, tupDs_lay xs h2.2]
    rfl
end
mutual
theorem dp_st {H' : Hp} (e : St K H H') : ∀ (d : PyData) (v : V), tupD d = true → Dp K H v d → Dp K H' v d
  | .none, _, _, h => by cases h; exact .non
  | .bool b, _, _, h => by cases h; exact .bl b
  | .int i, _, _, h => by cases h; exact .int i
  | .str x, _, _, h => by cases h; exact .str x
  | .list ds, _, c, _ => by cases c
  | .tuple ds, _, c, h => by
    cases h with
    | tup hs ha => exact .tup (e.t _ _ hs) (dps_st e ds _ c ha)
  | .dict _, _, _, h => by cases h
theorem dps_st {H' : Hp} (e : St K H H') : ∀ (ds : List PyData) (vs : List V), tupDs ds = true → DpAll K H vs ds → DpAll K H' vs ds
  | [], _, _, h => by cases h; exact .nil
  | d :: ds, _, c, h => by
    have h2 : (tupD d && tupDs ds) = true := c
    rw [Bool.and_eq_true] at h2
    cases h with
    | cons h3 h4 => exact .cons (dp_st e d _ h2.1 h3) (dps_st e ds _ h2.2 h4)
end
/-- packable data at v, not deep -/
def Pk (K : PySem.W.Frag) (H : Hp) (n : Nat) (v : V) (d : PyData) : Prop := Dp K H v d ∧ tupD d = true ∧ d.depth ≤ n
theorem Pk.st {H' : Hp} {n : Nat} {v : V} {d : PyData} (h : Pk K H n v d) (e : St K H H') : Pk K H' n v d := ⟨dp_st e d v h.2.1 h.1, h.2⟩
theorem Pk.sk {H' : Hp} {n : Nat} {v : V} {d : PyData} (h : Pk K H n v d) (e : Sk K H H') : Pk K H' n v d := h.st e.st
theorem Pk.same {H' : Hp} {n : Nat} {v : V} {d : PyData} (h : Pk K H n v d) (e : Same H H') : Pk K H' n v d := h.st (tt_same e)
theorem Pk.mono {n m : Nat} {v : V} {d : PyData} (h : Pk K H n v d) (l : n ≤ m) : Pk K H m v d := ⟨h.1, h.2.1, Nat.le_trans h.2.2 l⟩
theorem Pk.lay {n : Nat} {v : V} {d : PyData} (h : Pk K H n v d) : d.canLay0 = true := tupD_lay d h.2.1
theorem pk_non {n : Nat} : Pk K H n .non .none := ⟨.non, rfl, Nat.zero_le _⟩
theorem pk_int {n : Nat} {i : Int} : Pk K H n (.int i) (.int i) := ⟨.int i, rfl, Nat.zero_le _⟩
theorem pk_str {n : Nat} {x : Str} (h : PyData.canLay0 (.str x) = true := by decide +kernel) : Pk K H n (.str x) (.str x) := ⟨.str x, h, Nat.zero_le _⟩
/-- packable data, one behind another -/
def PkAll (K : PySem.W.Frag) (H : Hp) (n : Nat) (vs : List V) (ds : List PyData) : Prop := DpAll K H vs ds ∧ tupDs ds = true ∧ PyData.depthAll ds ≤ n
theorem PkAll.st {H' : Hp} {n : Nat} {vs : List V} {ds : List PyData} (h : PkAll K H n vs ds) (e : St K H H') : PkAll K H' n vs ds := ⟨dps_st e ds vs h.2.1 h.1, h.2⟩
theorem PkAll.same {H' : Hp} {n : Nat} {vs : List V} {ds : List PyData} (h : PkAll K H n vs ds) (e : Same H H') : PkAll K H' n vs ds := h.st (tt_same e)
theorem PkAll.mono {n m : Nat} {vs : List V} {ds : List PyData} (h : PkAll K H n vs ds) (l : n ≤ m) : PkAll K H m vs ds := ⟨h.1, h.2.1, Nat.le_trans h.2.2 l⟩
theorem PkAll.lay {n : Nat} {vs : List V} {ds : List PyData} (h : PkAll K H n vs ds) : PyData.canLayAll0 ds = true := tupDs_lay ds h.2.1
theorem pk_nil {n : Nat} : PkAll K H n [] [] := ⟨.nil, rfl, Nat.zero_le _⟩
theorem pk_cons {n : Nat} {v : V} {vs : List V} {d : PyData} {ds : List PyData} (h : Pk K H n v d) (h' : PkAll K H n vs ds) : PkAll K H n (v :: vs) (d :: ds) :=
  ⟨.cons h.1 h'.1, by show (tupD d && tupDs ds) = true; rw [h.2.1, h'.2.1]; rfl, by show max _ _ ≤ n; have := h.2.2; have := h'.2.2; omega⟩
theorem PkAll.uncons {n : Nat} {v : V} {vs : List V} {ds : List PyData} (h : PkAll K H n (v :: vs) ds) : ∃ d es, ds = d :: es ∧ Pk K H n v d ∧ PkAll K H n vs es := by
  obtain ⟨h1, h2, h3⟩ := h
  cases h1 with
  | cons a b =>
    rename_i d es
    have h4 : (tupD d && tupDs es) = true := h2
    rw [Bool.and_eq_true] at h4
    have h5 : max d.depth (PyData.depthAll es) ≤ n := h3
    exact ⟨d, es, rfl, ⟨a, h4.1, by omega⟩, ⟨b, h4.2, by omega⟩⟩
theorem pk_snoc {n : Nat} : ∀ {vs : List V} {ds : List PyData} {v : V} {d : PyData}, PkAll K H n vs ds → Pk K H n v d → PkAll K H n (vs ++ [v]) (ds ++ [d])
  | [], ds, v, d, h, h' => by
    obtain ⟨h1, _, _⟩ := h
    cases h1
    exact pk_cons h' pk_nil
  | w :: vs, ds, v, d, h, h' => by
    obtain ⟨e, es, rfl, h1, h2⟩ := h.uncons
    exact pk_cons h1 (pk_snoc h2 h')
theorem PkAll.len {n : Nat} : ∀ {vs : List V} {ds : List PyData}, PkAll K H n vs ds → vs.length = ds.length
  | [], ds, h => by
    obtain ⟨h1, _, _⟩ := h
    cases h1
    rfl
  | w :: vs, ds, h => by
    obtain ⟨e, es, rfl, h1, h2⟩ := h.uncons
    show vs.length + 1 = es.length + 1
    rw [h2.len]
theorem PkAll.take {n : Nat} : ∀ {vs : List V} {ds : List PyData} (k : Nat), PkAll K H n vs ds → PkAll K H n (vs.take k) (ds.take k)
  | vs, ds, 0, h => pk_nil
  | [], ds, k + 1, h => by
    obtain ⟨h1, _, _⟩ := h
    cases h1
    exact pk_nil
  | w :: vs, ds, k + 1, h => by
    obtain ⟨e, es, rfl, h1, h2⟩ := h.uncons
    exact pk_cons h1 (h2.take k)
theorem PkAll.at {n : Nat} : ∀ {vs : List V} {ds : List PyData} {i : Nat} {v : V}, PkAll K H n vs ds → vs[i]? = some v → ∃ d, ds[i]? = some d ∧ Pk K H n v d
  | [], ds, i, v, h, e => by simp at e
  | w :: vs, ds, 0, v, h, e => by
    obtain ⟨d, es, rfl, h1, h2⟩ := h.uncons
    cases (show w = v from Option.some.inj e)
    exact ⟨d, rfl, h1⟩
  | w :: vs, ds, i + 1, v, h, e => by
    obtain ⟨d, es, rfl, h1, h2⟩ := h.uncons
    exact h2.at e
theorem pk_tup {n : Nat} {a : Addr} {vs : List V} {ds : List PyData} (h : SqT K H a vs) (h1 : PkAll K H n vs ds) : Pk K H (n + 1) (.ref a) (.tuple ds) :=
  ⟨.tup h h1.1, h1.2.1, Nat.add_le_add_right h1.2.2 1⟩
theorem pk_tup1 {n : Nat} {a : Addr} {v : V} {d : PyData} (h : SqT K H a [v]) (h1 : Pk K H n v d) : Pk K H (n + 1) (.ref a) (.tuple [d]) := pk_tup h (pk_cons h1 pk_nil)
theorem pk_tup2 {n : Nat} {a : Addr} {v w : V} {d e : PyData} (h : SqT K H a [v, w]) (h1 : Pk K H n v d) (h2 : Pk K H n w e) : Pk K H (n + 1) (.ref a) (.tuple [d, e]) := pk_tup h (pk_cons h1 (pk_cons h2 pk_nil))
theorem pk_tup3 {n : Nat} {a : Addr} {u v w : V} {c d e : PyData} (h : SqT K H a [u, v, w]) (h0 : Pk K H n u c) (h1 : Pk K H n v d) (h2 : Pk K H n w e) : Pk K H (n + 1) (.ref a) (.tuple [c, d, e]) := pk_tup h (pk_cons h0 (pk_cons h1 (pk_cons h2 pk_nil)))
/-- equal data, one way or the other -/
theorem x_nePk {n m : Nat} {x y : V} {d : PyData} (h : Pk K H n x d) (h' : Pk K H m y d) (q : Q (.bl false) H) (l : n ≤ 64 := by decide) : rNeD K x y H Q := x_neSame h.1 h'.1 h.lay (Nat.le_trans h.2.2 l) q
theorem x_eqPk {n m : Nat} {x y : V} {d : PyData} (h : Pk K H n x d) (h' : Pk K H m y d) (q : Q (.bl true) H) (l : n ≤ 64 := by decide) : rEqD K x y H Q := x_eqSame h.1 h'.1 h.lay (Nat.le_trans h.2.2 l) q
theorem lay_list {ds : List PyData} (h : PyData.canLayAll0 ds = true) : PyData.canLay0 (.list ds) = true := h
theorem x_nePkL {n m : Nat} {p q' : Addr} {xs ys : List V} {ds : List PyData} (hp : SqL K H p xs) (hq : SqL K H q' ys) (h : PkAll K H n xs ds) (h' : PkAll K H m ys ds) (q : Q (.bl false) H) (l : n ≤ 63 := by decide) : rNeD K (.ref p) (.ref q') H Q :=
  x_neSame (.lst hp h.1) (.lst hq h'.1) (lay_list h.lay) (Nat.add_le_add_right (Nat.le_trans h.2.2 l) 1) q
theorem x_eqPkL {n m : Nat} {p q' : Addr} {xs ys : List V} {ds : List PyData} (hp : SqL K H p xs) (hq : SqL K H q' ys) (h : PkAll K H n xs ds) (h' : PkAll K H m ys ds) (q : Q (.bl true) H) (l : n ≤ 63 := by decide) : rEqD K (.ref p) (.ref q') H Q :=
  x_eqSame (.lst hp h.1) (.lst hq h'.1) (lay_list h.lay) (Nat.add_le_add_right (Nat.le_trans h.2.2 l) 1) q
theorem u65 {k : Nat} {A : Around} (r : Room k A) : A.units + 65 < cLine := by
  have := r.un
  omega
theorem k_inD (hu : X.A.units + 65 < cLine) (e : X.K = K) : OpR X (compareOp .In) (rInD K) := e ▸ op_inD hu
theorem k_ninD (hu : X.A.units + 65 < cLine) (e : X.K = K) : OpR X (compareOp .NotIn) (rNotInD K) := e ▸ op_notInD hu
/-- whether d is among ds -/
def inD (d : PyData) (ds : List PyData) : Bool := ds.any fun z => PyData.eqv z d
theorem x_inPk {n m : Nat} {x : V} {d : PyData} {xs : List V} {ds : List PyData} (h : Pk K H n x d) (hp : SqL K H a xs) (h' : PkAll K H m xs ds) (k : Q (.bl (inD d ds)) H) (l : n ≤ 64 := by decide) (l' : m ≤ 63 := by decide) : rInD K x (.ref a) H Q :=
  ⟨d, ds, h.1, .lst hp h'.1, shaped_of h.lay (Nat.le_trans h.2.2 l), shaped_of (lay_list h'.lay) (Nat.add_le_add_right (Nat.le_trans h'.2.2 l') 1), k⟩
theorem x_ninPk {n m : Nat} {x : V} {d : PyData} {xs : List V} {ds : List PyData} (h : Pk K H n x d) (hp : SqL K H a xs) (h' : PkAll K H m xs ds) (k : Q (.bl (!inD d ds)) H) (l : n ≤ 64 := by decide) (l' : m ≤ 63 := by decide) : rNotInD K x (.ref a) H Q :=
  ⟨d, ds, h.1, .lst hp h'.1, shaped_of h.lay (Nat.le_trans h.2.2 l), shaped_of (lay_list h'.lay) (Nat.add_le_add_right (Nat.le_trans h'.2.2 l') 1), k⟩
theorem x_inD {x : V} {d : PyData} {ds : List PyData} (h : Dp K H x d) (h' : Dp K H (.ref a) (.list ds)) (c : d.canLay0 = true) (n : d.depth ≤ 64) (c' : PyData.canLay0 (.list ds) = true) (n' : PyData.depth (.list ds) ≤ 64) (k : Q (.bl (inD d ds)) H) : rInD K x (.ref a) H Q :=
  ⟨d, ds, h, h', shaped_of c n, shaped_of c' n', k⟩
theorem x_ninD {x : V} {d : PyData} {ds : List PyData} (h : Dp K H x d) (h' : Dp K H (.ref a) (.list ds)) (c : d.canLay0 = true) (n : d.depth ≤ 64) (c' : PyData.canLay0 (.list ds) = true) (n' : PyData.depth (.list ds) ≤ 64) (k : Q (.bl (!inD d ds)) H) : rNotInD K x (.ref a) H Q :=
  ⟨d, ds, h, h', shaped_of c n, shaped_of c' n', k⟩
/-- a sign some times over -/
def repS (x : Str) (n : Int) : Str := if n < 1 then Str.empty else if (n == 1 || x.length == 0) = true then x else ⟨(List.replicate n.toNat x.cps).foldl (· ++ ·) #[]⟩
def nRepS : R2 := fun x y H Q => ∃ (z : Str) (n : Int), x = .str z ∧ y = .int n ∧ 0 ≤ n ∧ n ≤ 1000 ∧ z.length ≤ 100 ∧ Q (.str (repS z n)) H
theorem op_nRepS : OpR X (binaryOp .Mult) nRepS := by
  intro pins s σ H x y v u Q I rx ry h
  obtain ⟨z, n, rfl, rfl, h0, h1, h2, q⟩ := h
  obtain ⟨t, rfl⟩ := rx
  obtain ⟨t', rfl⟩ := ry
  have hlen : z.length * n.toNat ≤ 100000 := by
    have h3 : n.toNat ≤ 1000 := by omega
    calc z.length * n.toNat ≤ 100 * n.toNat := Nat.mul_le_mul_right _ h2
      _ ≤ 100000 := by omega
  refine PySem.P.mul_str ?_ ?_ ?_ ?_
  · rw [decide_eq_false (by omega), decide_eq_false (by omega)]
    rfl
  · intro h3 _ h4
    have h5 : (1000 : Int) ≤ (2 ^ 63 - 1) / n := by
      rw [Int.le_ediv_iff_mul_le (by omega)]
      omega
    omega
  · intro _ _
    exact decide_eq_false (by unfold sizeLine; omega)
  · unfold repS at q
    by_cases h3 : n < 1
    · rw [if_pos h3] at q ⊢
      exact ⟨by decide, .str Str.empty, H, I.tok _, ⟨_, rfl⟩, q⟩
    · rw [if_neg h3] at q ⊢
      by_cases h4 : (n == 1 || z.length == 0) = true
      · rw [if_pos h4] at q ⊢
        exact ⟨.str z, H, I, ⟨_, rfl⟩, q⟩
      · rw [if_neg h4] at q ⊢
        exact ⟨PySem.fits_reps (decide_eq_false (by unfold sizeLine; omega)), .str _, H, I.tok _, ⟨_, rfl⟩, q⟩
theorem x_nRepS {z : Str} {n : Int} (h : 0 ≤ n ∧ n ≤ 1000) (hz : z.length ≤ 100) (k : Q (.str (repS z n)) H) : nRepS (.str z) (.int n) H Q := ⟨z, n, rfl, rfl, h.1, h.2, hz, k⟩
/-- a range from its end -/
def rRevR (i : Nat) (tu : TS) (D : Ends) (σ : L2.St) : Int → Int → Hp → Prop := fun lo hi H => -(2 ^ 62) ≤ lo ∧ lo < 2 ^ 62 ∧ -(2 ^ 62) ≤ hi ∧ hi < 2 ^ 62 ∧ ∃ W : Nat → Nat → L2.St → Hp → Prop, (∃ m, W 0 m σ H) ∧ ∀ j m σ H, W j m σ H →
  ((Itc (lo + (((hi - lo).toNat : Nat) : Int) - 1) (-1) (hi - lo).toNat).stop j H ∧ D.nx σ H) ∨ ((Itc (lo + (((hi - lo).toNat : Nat) : Int) - 1) (-1) (hi - lo).toNat).go j H ∧ ∃ N : L2.St → Hp → Prop, (∀ σ' H', N σ' H' → ∃ m', m' < m ∧ W (j + 1) m' σ' H') ∧
    ∀ x H', (Itc (lo + (((hi - lo).toNat : Nat) : Int) - 1) (-1) (hi - lo).toNat).yld j H x H' → gName i x σ H' fun σ2 H2 => tu { D with nx := N, ct := N, bk := D.nx } σ2 H2)
theorem x_forRev1 {i : Nat} {tu : TS} {D : Ends} {σ : L2.St} {tr : L2.St → Hp → (Int → Int → Hp → Prop) → Prop} (q : tr σ H (rRevR i tu D σ)) : tFor (iRevR tr) (gName i) tu D σ H := q
theorem x_forRev {i : Nat} {tu : TS} {D : Ends} {σ : L2.St} {m : Int} (Pv : Nat → L2.St → Hp → Prop) (hm : 0 ≤ m ∧ m ≤ 100000) (p0 : Pv 0 σ H)
    (ps : ∀ (j : Nat) σ' H', (j : Int) < m → Pv j σ' H' → tu { D with nx := Pv (j + 1), ct := Pv (j + 1), bk := D.nx } (σ'.set i (some (.int (m - 1 - j)))) H') (pd : ∀ σ' H', Pv m.toNat σ' H' → D.nx σ' H') : rRevR i tu D σ 0 m H := by
  have e : (m - 0).toNat = m.toNat := by omega
  refine ⟨by omega, by omega, by omega, by omega, ?_⟩
  rw [e]
  refine for_rangeC (n := m.toNat) Pv p0 (fun j σ' H' hj p => ?_) pd
  have e0 : (0 : Int) + ((m.toNat : Nat) : Int) - 1 + (j : Nat) * (-1) = m - 1 - j := by omega
  show tu { D with nx := Pv (j + 1), ct := Pv (j + 1), bk := D.nx } (σ'.set i (some (.int ((0 : Int) + ((m.toNat : Nat) : Int) - 1 + (j : Nat) * (-1))))) H'
  rw [e0]
  exact ps j σ' H' (by omega) p
theorem cut_take {xs : List V} {k : Int} {n : Nat} (e : k = (n : Int)) : cutV xs none (some k) = xs.take n := by
  subst e
  unfold cutV
  rw [HT.sIx_nat, HT.sIx_none, List.drop_zero, Nat.sub_zero]
  by_cases h : n ≤ xs.length
  · rw [show min n xs.length = n by omega]
  · rw [show min n xs.length = xs.length by omega, List.take_length, List.take_of_length_le (by omega)]
theorem cut_drop {xs : List V} {k : Int} {n : Nat} (e : k = (n : Int)) : cutV xs (some k) none = xs.drop n := by
  subst e
  unfold cutV
  rw [HT.sIx_nat, HT.sIx_none]
  by_cases h : n ≤ xs.length
  · rw [show min n xs.length = n by omega, List.take_of_length_le (by rw [List.length_drop]; omega)]
  · rw [show min n xs.length = xs.length by omega, List.drop_length, List.drop_of_length_le (by omega)]
    simp
/-- range(lo, hi) -/
def rRange2 (n : Nat) (tu : TS) (D : Ends) (σ : L2.St) : List V → Hp → Prop := fun vs H => ∃ i j : Int, vs = [.int i, .int j] ∧ (-(2 ^ 62) ≤ i ∧ i < 2 ^ 62 ∧ -(2 ^ 62) ≤ j ∧ j < 2 ^ 62) ∧ ∃ W : Nat → Nat → L2.St → Hp → Prop, (∃ m, W 0 m σ H) ∧ ∀ k m σ H, W k m σ H →
  ((Itr i (j - i).toNat).stop k H ∧ D.nx σ H) ∨ ((Itr i (j - i).toNat).go k H ∧ ∃ N : L2.St → Hp → Prop, (∀ σ' H', N σ' H' → ∃ m', m' < m ∧ W (k + 1) m' σ' H') ∧ ∀ x H', (Itr i (j - i).toNat).yld k H x H' → gName n x σ H' fun σ2 H2 => tu { D with nx := N, ct := N, bk := D.nx } σ2 H2)
theorem x_forR2 {n : Nat} {tu : TS} {D : Ends} {σ : L2.St} {tr : TA} (q : tr σ H (rRange2 n tu D σ)) : tFor (iRng2 tr) (gName n) tu D σ H := q
theorem x_range2 {n : Nat} {tu : TS} {D : Ends} {σ : L2.St} {lo hi : Int} (Pv : Nat → L2.St → Hp → Prop) (hm : -1000000 ≤ lo ∧ lo ≤ 1000000 ∧ -1000000 ≤ hi ∧ hi ≤ 1000000) (p0 : Pv 0 σ H)
    (ps : ∀ (k : Nat) σ' H', lo + (k : Int) < hi → Pv k σ' H' → tu { D with nx := Pv (k + 1), ct := Pv (k + 1), bk := D.nx } (σ'.set n (some (.int (lo + (k : Int))))) H') (pd : ∀ σ' H', Pv (hi - lo).toNat σ' H' → D.nx σ' H') : rRange2 n tu D σ [.int lo, .int hi] H :=
  ⟨lo, hi, rfl, ⟨by omega, by omega, by omega, by omega⟩, for_range (lo := lo) (n := (hi - lo).toNat) Pv p0 (fun k σ' H' hk p => ps k σ' H' (by omega) p) pd⟩
theorem pk_ints {n : Nat} : ∀ ns : List Int, PkAll K H n (ns.map V.int) (ns.map PyData.int)
  | [] => pk_nil
  | m :: r => pk_cons pk_int (pk_ints r)
/-! dicts whose keys are texts -/
def rDG (x : V) (Q : VK) : VK := fun y H2 => ∃ (a : Addr) (v : V), x = .ref a ∧ DGet H2 a y (some v) ∧ Q v H2
theorem x_dget {td ty : TE} {σ : L2.St} (q : td σ H fun x H1 => ty σ H1 (rDG x Q)) : tDGet td ty σ H Q := q
theorem x_rDG {kvs : List (Key × V)} {k : Str} {v : V} (h : H a = some (.dK kvs)) (e : valV kvs (Sum.inr k) = some v) (q : Q v H) : rDG (.ref a) Q (.str k) H := ⟨a, v, rfl, by rw [← e]; exact (DGet.k (k := Sum.inr k) h : DGet H a (kV (Sum.inr k)) (valV kvs (Sum.inr k))), q⟩
def rDP (x v : V) (R : Hp → Prop) : VK := fun y H3 => ∃ (a : Addr) (H4 : Hp), x = .ref a ∧ DPut H3 a y v H4 ∧ R H4
theorem x_sdput {td ty tv : TE} {D : Ends} {σ : L2.St} {tz : TS} (q : tv σ H fun v H1 => td σ H1 fun x H2 => ty σ H2 (rDP x v fun H4 => tz D σ H4)) : tSeq (sDPut td ty tv) tz D σ H := q
theorem x_dput {td ty tv : TE} {D : Ends} {σ : L2.St} (q : tv σ H fun v H1 => td σ H1 fun x H2 => ty σ H2 (rDP x v fun H4 => D.nx σ H4)) : sDPut td ty tv D σ H := q
theorem x_rDP {kvs kvs' : List (Key × V)} {k : Str} {v : V} {R : Hp → Prop} (h : H a = some (.dK kvs)) (hl : kvs.length < 1000) (e : putK kvs (Sum.inr k) v = kvs') (q : R (upd H a (.dK kvs'))) : rDP (.ref a) v R (.str k) H :=
  ⟨a, upd H a (.dK (putK kvs (Sum.inr k) v)), rfl, (DPut.k (k := Sum.inr k) h (small1000 (Nat.le_of_lt hl)) : DPut H a (kV (Sum.inr k)) v _), by rw [e]; exact q⟩
theorem x_disp {trs : List (TE × TE)} {σ : L2.St} (q : ∀ p, Fr p H → tPairs trs σ (upd H p (.dK [])) fun ps H2 => H2 p = some (.dK []) ∧ ∃ kvs : List (Key × V), ps = kvs.map (fun kv => (kV kv.1, kv.2)) ∧ kvs.length ≤ 15 ∧ Q (.ref p) (upd H2 p (.dK (mergeK [] kvs)))) : tDisp trs σ H Q := fun p hp => q p ⟨hp⟩
theorem x_pcons {tk tv : TE} {r : List (TE × TE)} {σ : L2.St} {R : List (V × V) → Hp → Prop} (q : tk σ H fun x H1 => tv σ H1 fun y H2 => tPairs r σ H2 fun ps H3 => R ((x, y) :: ps) H3) : tPairs ((tk, tv) :: r) σ H R := q
theorem x_pnil {σ : L2.St} {R : List (V × V) → Hp → Prop} (q : R [] H) : tPairs [] σ H R := q
/-! lists of ints sorted where they stand -/
theorem x_rSortI {ns : List Int} (h : H a = some (.lst (ns.map V.int))) (k : ∀ ns' : List Int, ns'.Perm ns → ns'.Pairwise (· ≤ ·) → Q .non (upd H a (.lst (ns'.map V.int)))) : rSortI (.ref a) [] H Q := ⟨a, ns, rfl, rfl, h, k⟩
theorem srt_eq {xs ys : List Int} (p : xs.Perm ys) (h1 : xs.Pairwise (· ≤ ·)) (h2 : ys.Pairwise (· ≤ ·)) : xs = ys := p.eq_of_pairwise (fun x y _ _ h h' => Int.le_antisymm h h') h1 h2
/-! texts -/
def nInS : R2 := fun x y H Q => ∃ (c : Nat) (z : Str), x = .str ⟨#[c]⟩ ∧ y = .str z ∧ Q (.bl (decide (c ∈ z.cps.toList))) H
def nNotInS : R2 := fun x y H Q => ∃ (c : Nat) (z : Str), x = .str ⟨#[c]⟩ ∧ y = .str z ∧ Q (.bl (!decide (c ∈ z.cps.toList))) H
theorem op_nInS : OpR X (compareOp .In) nInS := op_in_sign
theorem op_nNotInS : OpR X (compareOp .NotIn) nNotInS := op_notIn_sign
theorem x_inS {c : Nat} {z : Str} (q : Q (.bl (decide (c ∈ z.cps.toList))) H) : nInS (.str ⟨#[c]⟩) (.str z) H Q := ⟨c, z, rfl, rfl, q⟩
theorem x_notInS {c : Nat} {z : Str} (q : Q (.bl (!decide (c ∈ z.cps.toList))) H) : nNotInS (.str ⟨#[c]⟩) (.str z) H Q := ⟨c, z, rfl, rfl, q⟩
def nAddS : R2 := fun x y H Q => ∃ i j : Str, x = .str i ∧ y = .str j ∧ i.length + j.length ≤ sizeLine ∧ Q (.str (i ++ j)) H
theorem op_nAddS : OpR X (binaryOp .Add) nAddS := op_add_str
theorem x_nAddS {i j : Str} (h : i.length + j.length ≤ 100000) (q : Q (.str (i ++ j)) H) : nAddS (.str i) (.str j) H Q := ⟨i, j, rfl, rfl, size_ok h, q⟩
def nLenS : List V → Hp → VK → Prop := fun xs H Q => ∃ z : Str, xs = [.str z] ∧ z.length ≤ sizeLine ∧ Q (.int z.length) H
theorem call_nLenS : CallR X (.builtin "len") nLenS := call_len_str
theorem x_nLenS {z : Str} (h : z.length ≤ 100000) (q : Q (.int z.length) H) : nLenS [.str z] H Q := ⟨z, rfl, size_ok h, q⟩
theorem x_slS {z : Str} {lo hi : Option Int} (h : z.length ≤ 100000) (q : Q (.str (cutS z lo hi)) H) : rSlS (.str z) lo hi H Q := ⟨z, rfl, size_ok h, q⟩
def rLcS (g : TG) (tt : TT) (te : TE) (vs : List Nat) (σ : L2.St) (Q : VK) : VK := fun x H1 => ∃ z, x = .str z ∧ RLc (Its z) g tt te vs σ Q H1
theorem x_lcS1 {g : TG} {t : TT} {te tx : TE} {vs : List Nat} {σ : L2.St} (q : tx σ H (rLcS g t te vs σ Q)) : tLc (iStr tx) g t te vs σ H Q := q
theorem x_lcS {g : TG} {t : TT} {te : TE} {vs : List Nat} {σ : L2.St} {z : Str} (Pv : Addr → Nat → Hp → Prop) (h0 : ∀ Dl, Fr Dl H → Pv Dl 0 (upd H Dl (.lst [])))
    (hs : ∀ Dl, Fr Dl H → ∀ i c H', z.cps.toList[i]? = some c → Pv Dl i H' → g (.str ⟨#[c]⟩) (wipe σ vs) H' fun σ2 H2 => wipe σ2 vs = wipe σ vs ∧ t σ2 H2 fun b H3 =>
      if b = true then te σ2 H3 fun y H4 => ∃ acc, H4 Dl = some (.lst acc) ∧ acc.length < sizeLine ∧ Pv Dl (i + 1) (upd H4 Dl (.lst (acc ++ [y]))) else Pv Dl (i + 1) H3)
    (hd : ∀ Dl H', Fr Dl H → Pv Dl z.length H' → Q (.ref Dl) H') : rLcS g t te vs σ Q (.str z) H := ⟨z, rfl, fun Dl hD =>
  lc_it walk_str (Pv Dl) (h0 Dl ⟨hD⟩) (fun _ _ _ _ => trivial) (fun i x H1 H' _ p y => by
    obtain ⟨rfl, c, hc, rfl⟩ := y
    exact hs Dl ⟨hD⟩ i c _ (by rw [← hc]; simp) p) (fun H' p => hd Dl H' ⟨hD⟩ p)⟩
/-! ### texts gone through, keys of a dict -/
def rForS (g : TG) (tu : TS) (D : Ends) (σ : L2.St) : VK := fun x H => ∃ z, x = .str z ∧ ∃ W : Nat → Nat → L2.St → Hp → Prop, (∃ m, W 0 m σ H) ∧ ∀ i m σ H, W i m σ H →
  ((Its z).stop i H ∧ D.nx σ H) ∨ ((Its z).go i H ∧ ∃ N : L2.St → Hp → Prop, (∀ σ' H', N σ' H' → ∃ m', m' < m ∧ W (i + 1) m' σ' H') ∧ ∀ x H', (Its z).yld i H x H' → g x σ H' fun σ2 H2 => tu { D with nx := N, ct := N, bk := D.nx } σ2 H2)
theorem x_forS1 {g : TG} {tu : TS} {D : Ends} {σ : L2.St} {te : TE} (q : te σ H (rForS g tu D σ)) : tFor (iStr te) g tu D σ H := q
theorem x_forS {g : TG} {tu : TS} {D : Ends} {σ : L2.St} {z : Str} (Pv : Nat → L2.St → Hp → Prop) (p0 : Pv 0 σ H)
    (ps : ∀ i c σ' H', z.cps.toList[i]? = some c → Pv i σ' H' → g (.str ⟨#[c]⟩) σ' H' fun σ2 H2 => tu { D with nx := Pv (i + 1), ct := Pv (i + 1), bk := D.nx } σ2 H2) (pd : ∀ σ' H', Pv z.length σ' H' → D.nx σ' H') : rForS g tu D σ (.str z) H :=
  ⟨z, rfl, for_it walk_str Pv p0 (fun _ _ _ _ _ => trivial) (fun i x σ H H' _ p y => by
    obtain ⟨rfl, c, hc, rfl⟩ := y
    exact ps i c _ _ (by rw [← hc]; simp) p) pd⟩
def nOrd : List V → Hp → VK → Prop := fun xs H Q => ∃ x : Str, xs = [.str x] ∧ x.length = 1 ∧ Q (.int (x.cps.getD 0 0 : Nat)) H
theorem k_ord {X : Cx} : CallR X (.builtin "ord") nOrd := call_ord
theorem x_ord {c : Nat} (q : Q (.int (c : Nat)) H) : nOrd [.str ⟨#[c]⟩] H Q := ⟨_, rfl, rfl, q⟩
/-- a list comprehension over a dict's keys -/
theorem x_lcK {g : TG} {t : TT} {te : TE} {vs : List Nat} {σ : L2.St} {a : Nat} {r : Addr} {kvs : List (Key × V)} (ea : σ[a]? = some (some (.ref r))) (hr : H r = some (.dK kvs))
    (q : ∀ od H0, H0 = upd H r (.frz od (.dK kvs)) → ∃ Pv : Addr → Nat → Hp → Prop, (∀ Dl, Fr Dl H0 → Pv Dl 0 (upd H0 Dl (.lst []))) ∧ (∀ Dl i H', Fr Dl H0 → Pv Dl i H' → H' r = some (.frz od (.dK kvs))) ∧
      (∀ Dl, Fr Dl H0 → ∀ i k v H', kvs[i]? = some (k, v) → Pv Dl i H' → g (kV k) (wipe σ vs) H' fun σ2 H2 => wipe σ2 vs = wipe σ vs ∧ t σ2 H2 fun b H3 =>
        if b = true then te σ2 H3 fun y H4 => ∃ acc, H4 Dl = some (.lst acc) ∧ acc.length < sizeLine ∧ Pv Dl (i + 1) (upd H4 Dl (.lst (acc ++ [y]))) else Pv Dl (i + 1) H3) ∧
      ∀ Dl H', Fr Dl H0 → Pv Dl kvs.length H' → Q (.ref Dl) (upd H' r (.dK kvs))) : tLockE (tLc (iKeys (tVar a)) g t te vs) σ H Q := by
  refine ⟨r, _, hr, trivial, fun od => ?_⟩
  obtain ⟨Pv, h0, h1, h2, h3⟩ := q od _ rfl
  refine ⟨.ref r, ea, r, od, rfl, .inl ⟨kvs, upd_same, fun Dl hD => ?_⟩⟩
  refine lc_it (walk_keys (o := od)) (Pv Dl) (h0 Dl ⟨hD⟩) (fun i H' _ p => h1 Dl i H' ⟨hD⟩ p) (fun i x H1 H' _ p y => ?_) fun H' p => ⟨h1 Dl _ H' ⟨hD⟩ p, h3 Dl H' ⟨hD⟩ p⟩
  obtain ⟨rfl, k, v, e, rfl⟩ := y
  exact h2 Dl ⟨hD⟩ i k v _ e p
/-- all signs of a text are so -/
def AllC (p : Nat → Bool) (s : Str) : Bool := s.cps.toList.all p
theorem toList_add (i j : Str) : (i ++ j).cps.toList = i.cps.toList ++ j.cps.toList := by
  show (i.cps ++ j.cps).toList = _
  simp
theorem len_add (i j : Str) : (i ++ j).length = i.length + j.length := by
  show (i.cps ++ j.cps).size = i.cps.size + j.cps.size
  simp
theorem allC_add {p : Nat → Bool} {i j : Str} (h : AllC p i = true) (h' : AllC p j = true) : AllC p (i ++ j) = true := by
  unfold AllC at *
  rw [toList_add, List.all_append, h, h']
  rfl
theorem allC_add_inv {p : Nat → Bool} {i j : Str} (h : AllC p (i ++ j) = true) : AllC p i = true ∧ AllC p j = true := by
  unfold AllC at *
  rw [toList_add, List.all_append, Bool.and_eq_true] at h
  exact h
theorem allC_cut {p : Nat → Bool} {z : Str} {lo hi : Option Int} (h : AllC p z = true) : AllC p (cutS z lo hi) = true := by
  unfold AllC at *
  rw [List.all_eq_true] at h ⊢
  intro c hc
  refine h c ?_
  unfold cutS at hc
  simp only at hc
  exact List.mem_of_mem_drop (List.mem_of_mem_take hc)
theorem len_cut (z : Str) (lo hi : Option Int) : (cutS z lo hi).length ≤ z.length := by
  show (cutS z lo hi).cps.size ≤ z.cps.size
  unfold cutS
  simp only [List.size_toArray, List.length_take, List.length_drop, Array.length_toList]
  have : z.length = z.cps.size := rfl
  omega
theorem allC_at {p : Nat → Bool} {z : Str} {i : Nat} {c : Nat} (h : AllC p z = true) (e : z.cps.toList[i]? = some c) : AllC p ⟨#[c]⟩ = true := by
  unfold AllC at *
  rw [List.all_eq_true] at h
  have := h c (List.mem_of_getElem? e)
  simp [this]
theorem allC_mono {p q : Nat → Bool} {s : Str} (h : AllC p s = true) (f : ∀ c, p c = true → q c = true) : AllC q s = true := by
  unfold AllC at *
  rw [List.all_eq_true] at h ⊢
  exact fun c hc => f c (h c hc)
def okC : Nat → Bool := fun c => decide (c < 0x110000)
theorem lay_str {s : Str} (h : AllC okC s = true) : PyData.canLay0 (.str s) = true := by
  have h2 : s.cps.all (fun c => decide (c < 0x110000)) = true := by
    rw [← Array.all_toList]
    exact h
  simpa only [PyData.canLay0, PyData.strOk] using h2
/-! tuples some times over -/
theorem tup_times1 (l : Addr) (items : Array Value) (n : Nat) (dd : Option Addr) (sl : Array (Option Value)) (u : Tok) :
    Meets (Builtin.«tuple.__mul__» ⟨[.ref l, .int 1 u], []⟩) (fun _ R s => s.heap.get? l = some { cls := .type "tuple", dict := dd, data := .seq items n, slots := sl } ∧ R (.ok (.ret (.ref l))) s) :=
  .of_wp fun prog w A R s h => by
    obtain ⟨hp, g, d, tk, os⟩ := s
    obtain ⟨hl, h⟩ := h
    have f1 := AutoSeq1.idx_int
    wp_walk using wpAny_loadPart' hl
    exact ⟨_, rfl, h⟩
def nRepT (K : PySem.W.Frag) : R2 := fun x y H Q => ∃ (l : Addr) (k : Int) (xs : List V), x = .ref l ∧ y = .int k ∧ SqT K H l xs ∧ xs ≠ [] ∧ xs.length ≤ 1000 ∧ ((k = 1 ∧ Q (.ref l) H) ∨ (2 ≤ k ∧ k ≤ 1000 ∧ ∀ p, H p = none → Q (.ref p) (upd H p (.tup (List.replicate k.toNat xs).flatten))))
theorem op_nRepT : OpR X (binaryOp .Mult) (nRepT X.K) := by
  intro pins s σ H x y v u Q I rx ry h
  obtain ⟨l, k, xs, rfl, rfl, hT, hne, hz, q⟩ := h
  rcases q with ⟨rfl, q⟩ | ⟨h1, h2, q⟩
  · cases rx
    obtain ⟨t, rfl⟩ := ry
    obtain ⟨its, r, ⟨⟨cls, dd, data, sl⟩, ho, hc, n, hd⟩, hs⟩ := I.tuple hT
    simp only at hc hd
    subst hc hd
    exact wpAny_binaryOp_repeat_ref (T := "tuple") (U := "int") (by decide) ⟨_, ho, rfl⟩ (fun s' => typeIs_int s' 1 t) noFill_tuple_mul PySem.F.fills_int_mul PySem.F.slot_int_rmul repeat_tuple PySem.F.slot_int_index.lookup
      (call_meets PySem.F.slot_int_rmul (typeIs_int s 1 t) PySem.F.entry_int_rmul (PySem.F.args_int_rmul_2 _ _) (int_rmul_tuple 1 t l its.toArray n dd sl)
        ⟨ho, rfl, ⟨_, ho, rfl⟩, call_meets PySem.F.slot_tuple_mul ⟨_, ho, rfl⟩ PySem.F.entry_tuple_mul (PySem.F.args_tuple_mul_2 _ _) (tup_times1 l its.toArray n dd sl t) ⟨ho, ⟨.ref l, H, I, rfl, q⟩⟩⟩)
  · exact op_repT pins s σ H _ _ v u Q I rx ry ⟨l, k, xs, rfl, rfl, hT, hne, h1, h2, hz, q⟩
theorem k_repT (e : X.K = K) : OpR X (binaryOp .Mult) (nRepT K) := e ▸ op_nRepT
/-! more of dicts -/
def rGet1 (R : VK) (a : Addr) : VK := fun y H2 => ∃ o, DGet H2 a y o ∧ R (o.getD .non) H2
def rGetD (x : V) (ty : TE) (σ : L2.St) (Q : VK) : Hp → Prop := fun H1 => ∃ a, x = .ref a ∧ IsD H1 a ∧ ty σ H1 (rGet1 Q a)
theorem x_dget1 {td ty : TE} {σ : L2.St} (q : td σ H fun x H1 => rGetD x ty σ Q H1) : tDGet1 td ty σ H Q := q
theorem x_rGetD {ty : TE} {σ : L2.St} {kvs : List (Key × V)} (h : H a = some (.dK kvs)) (q : ty σ H (rGet1 Q a)) : rGetD (.ref a) ty σ Q H := ⟨a, rfl, .inl ⟨kvs, .inl h⟩, q⟩
theorem x_rGet1 {kvs : List (Key × V)} {k : Str} (h : H a = some (.dK kvs)) (q : Q ((valV kvs (Sum.inr k)).getD .non) H) : rGet1 Q a (.str k) H := ⟨_, (DGet.k (k := Sum.inr k) h : DGet H a (kV (Sum.inr k)) (valV kvs (Sum.inr k))), q⟩
def rGet2 (R : VK) (a : Addr) (y z : V) : Hp → Prop := fun H3 => ∃ o, DGet H3 a y o ∧ R (o.getD z) H3
def rGetE (x : V) (ty tx : TE) (σ : L2.St) (Q : VK) : Hp → Prop := fun H1 => ∃ a, x = .ref a ∧ IsD H1 a ∧ ty σ H1 fun y H2 => tx σ H2 fun z H3 => rGet2 Q a y z H3
theorem x_dget2 {td ty tx : TE} {σ : L2.St} (q : td σ H fun x H1 => rGetE x ty tx σ Q H1) : tDGet2 td ty tx σ H Q := q
theorem x_rGetE {ty tx : TE} {σ : L2.St} {kvs : List (Key × V)} (h : H a = some (.dK kvs)) (q : ty σ H fun y H2 => tx σ H2 fun z H3 => rGet2 Q a y z H3) : rGetE (.ref a) ty tx σ Q H := ⟨a, rfl, .inl ⟨kvs, .inl h⟩, q⟩
theorem x_rGet2 {kvs : List (Key × V)} {k : Str} {z : V} (h : H a = some (.dK kvs)) (q : Q ((valV kvs (Sum.inr k)).getD z) H) : rGet2 Q a (.str k) z H := ⟨_, (DGet.k (k := Sum.inr k) h : DGet H a (kV (Sum.inr k)) (valV kvs (Sum.inr k))), q⟩
def rPop1 (R : VK) (a : Addr) : VK := fun y H2 => ∃ (kvs : List (Key × V)) (k : Key) (v : V), H2 a = some (.dK kvs) ∧ y = kV k ∧ valV kvs k = some v ∧ R v (upd H2 a (.dK (dropK kvs k)))
def rPopD (x : V) (ty : TE) (σ : L2.St) (Q : VK) : Hp → Prop := fun H1 => ∃ a, x = .ref a ∧ IsD H1 a ∧ ty σ H1 (rPop1 Q a)
theorem x_dpop1 {td ty : TE} {σ : L2.St} (q : td σ H fun x H1 => rPopD x ty σ Q H1) : tDPop1 td ty σ H Q := q
theorem x_rPopD {ty : TE} {σ : L2.St} {kvs : List (Key × V)} (h : H a = some (.dK kvs)) (q : ty σ H (rPop1 Q a)) : rPopD (.ref a) ty σ Q H := ⟨a, rfl, .inl ⟨kvs, .inl h⟩, q⟩
theorem x_rPop1 {kvs : List (Key × V)} {k : Str} {v : V} (h : H a = some (.dK kvs)) (e : valV kvs (Sum.inr k) = some v) (q : Q v (upd H a (.dK (dropK kvs (Sum.inr k))))) : rPop1 Q a (.str k) H := ⟨kvs, Sum.inr k, v, h, rfl, e, q⟩
def rPop2 (R : VK) (a : Addr) (y z : V) : Hp → Prop := fun H3 => ∃ (kvs : List (Key × V)) (k : Key), H3 a = some (.dK kvs) ∧ y = kV k ∧ (∀ v, valV kvs k = some v → R v (upd H3 a (.dK (dropK kvs k)))) ∧ (valV kvs k = none → R z H3)
def rPopE (x : V) (ty tx : TE) (σ : L2.St) (Q : VK) : Hp → Prop := fun H1 => ∃ a, x = .ref a ∧ IsD H1 a ∧ ty σ H1 fun y H2 => tx σ H2 fun z H3 => rPop2 Q a y z H3
theorem x_dpop2 {td ty tx : TE} {σ : L2.St} (q : td σ H fun x H1 => rPopE x ty tx σ Q H1) : tDPop2 td ty tx σ H Q := q
theorem x_rPopE {ty tx : TE} {σ : L2.St} {kvs : List (Key × V)} (h : H a = some (.dK kvs)) (q : ty σ H fun y H2 => tx σ H2 fun z H3 => rPop2 Q a y z H3) : rPopE (.ref a) ty tx σ Q H := ⟨a, rfl, .inl ⟨kvs, .inl h⟩, q⟩
theorem x_rPop2 {kvs : List (Key × V)} {k : Str} {z : V} (h : H a = some (.dK kvs)) (q1 : ∀ v, valV kvs (Sum.inr k) = some v → Q v (upd H a (.dK (dropK kvs (Sum.inr k))))) (q2 : valV kvs (Sum.inr k) = none → Q z H) : rPop2 Q a (.str k) z H := ⟨kvs, Sum.inr k, h, rfl, q1, q2⟩
def rDInK (y : V) (Q : VK) : VK := fun x H2 => ∃ a o, x = .ref a ∧ DGet H2 a y o ∧ Q (.bl o.isSome) H2
theorem x_din {ty td : TE} {σ : L2.St} (q : ty σ H fun y H1 => td σ H1 (rDInK y Q)) : tDIn ty td σ H Q := q
theorem x_rDInK {kvs : List (Key × V)} {k : Str} (h : H a = some (.dK kvs)) (q : Q (.bl (valV kvs (Sum.inr k)).isSome) H) : rDInK (.str k) Q (.ref a) H := ⟨a, _, rfl, (DGet.k (k := Sum.inr k) h : DGet H a (kV (Sum.inr k)) (valV kvs (Sum.inr k))), q⟩
theorem x_dnew {σ : L2.St} (k : ∀ p H2, Fr p H → Same H H2 → H2 p = some (.dK []) → Q (.ref p) H2) : tDNewK σ H Q := fun p hp => k p _ ⟨hp⟩ (same_new hp) upd_same
theorem x_notBl {b c : Bool} (q : Q (.bl (!decide (b = c))) H) : rNotB (.bl b) (.bl c) H Q := ⟨b, c, rfl, rfl, q⟩
theorem x_isBl {b c : Bool} (q : Q (.bl (decide (b = c))) H) : rIsB (.bl b) (.bl c) H Q := ⟨b, c, rfl, rfl, q⟩
theorem cut_whole {xs : List V} {lo hi : Option Int} (h : HT.sIx xs.length 0 lo = 0 ∧ HT.sIx xs.length xs.length hi = xs.length) : cutV xs lo hi = xs := by
  unfold cutV
  rw [h.1, h.2]
  simp
theorem x_slA {xs : List V} {lo hi : Option Int} (h : H a = some (.tup xs)) (k : ∀ p H', Same H H' → H' p = some (.tup (cutV xs lo hi)) → Q (.ref p) H') : rSlA K (.ref a) lo hi H Q :=
  ⟨a, xs, rfl, st_of h, fun e => k a H (Same.refl _) (by rw [cut_whole e]; exact h), fun _ p hp => k p _ (same_new hp) upd_same⟩
theorem x_catB {xs ys : List V} (h : H a = some (.tup xs)) (h' : H b = some (.tup ys)) (hz : xs.length + ys.length ≤ 100000) (k : ∀ p H', Same H H' → H' p = some (.tup (xs ++ ys)) → Q (.ref p) H') : rCatA K (.ref a) (.ref b) H Q :=
  ⟨a, b, xs, ys, rfl, rfl, st_of h, st_of h', size_ok hz, fun e => k b H (Same.refl _) (by rw [e]; exact h'), fun _ e => k a H (Same.refl _) (by rw [e, List.append_nil]; exact h), fun _ _ p hp => k p _ (same_new hp) upd_same⟩
theorem x_repB {xs : List V} {n : Int} (h : H a = some (.tup xs)) (hne : xs ≠ []) (hz : xs.length ≤ 1000) (hn : 1 ≤ n ∧ n ≤ 1000) (k : ∀ p H', Same H H' → H' p = some (.tup (List.replicate n.toNat xs).flatten) → Q (.ref p) H') : nRepT K (.ref a) (.int n) H Q := by
  refine ⟨a, n, xs, rfl, rfl, st_of h, hne, hz, ?_⟩
  by_cases e : n = 1
  · subst e
    refine .inl ⟨rfl, k a H (Same.refl _) ?_⟩
    rw [h]
    simp
  · exact .inr ⟨by omega, hn.2, fun p hp => k p _ (same_new hp) upd_same⟩
theorem repS_len {z : Str} {n : Int} (h : 2 ≤ n) (hz : 1 ≤ z.length) : (repS z n).length = n.toNat * z.length := by
  unfold repS
  rw [if_neg (by omega), if_neg]
  · show ((List.replicate n.toNat z.cps).foldl (· ++ ·) #[]).size = _
    rw [PySem.size_reps]
    show 0 + n.toNat * z.cps.size = n.toNat * z.length
    rw [Nat.zero_add]
    rfl
  · rw [Bool.or_eq_true, beq_iff_eq, beq_iff_eq]
    omega
end
/-- a def with defaults that lets nothing out -/
theorem okD {P : Program} {w : World} {K : PySem.W.Frag} {mg : Str → Option Value} {base : Heap} {x qual : Str} {pr : Arguments} {body : List Stmt} {sc : Scope} {dvs : List V} {kws : List (Str × V)} {f : Addr} {fd : FuncData} {N ps : List Str} {k : Nat} {sp : Sp}
    (F : FunD K x qual pr body sc dvs kws f fd) (S : FnScope N ps sc) (len : ∀ vs H Q E, sp vs H Q E → vs.length = ps.length)
    (hb : ∀ (cdv : Value) (A : Around) (outer : List Env) (s : Shared) (H : Hp) (vs : List V) (Q : VK) (E : XK), Room k (A.deeper (envOfC qual sc s.heap.objs.size f cdv)) → sp vs H Q E →
      ∃ t, PSs (cxOf CX0 P w K mg base N qual sc f cdv A outer s H E).nox body t ∧ t { nx := fun _ H' => Q .non H', rt := Q } (start N vs) H) : FnOk P w K mg base CX0 (k + 1) f fd ps sp :=
  F.ok S len fun cdv A outer s H vs Q E hr h => by
    obtain ⟨t, h1, q⟩ := hb cdv A outer s H vs Q E hr h
    exact ⟨t, h1.nox, q⟩
theorem funD_mk {K : PySem.W.Frag} {x qual : Str} {st : Stmt} {f dT : Addr} {oc : Value} {od an : Option Addr} {osl : Array (Option Value)} {kV doc pm cdv ct : Value} {dvs : List V} {o : Obj} {its : List Value} {n : Nat}
    (l : K.lookup f = some ⟨oc, od, .func (PySem.W.fnOf x qual (defArgs st) (defBody st) (defScope st) (.ref dT) kV doc pm an cdv ct), osl⟩) (c : PySem.W.codeIn K cdv qual = true) (k : PySem.W.keepIn K (.ref f) = true)
    (hd : dvs ≠ []) (lT : K.lookup dT = some o) (oT : o.data = .seq its.toArray n) (r : Vals dvs its) :
    FunD K x qual (defArgs st) (defBody st) (defScope st) dvs [] f (PySem.W.fnOf x qual (defArgs st) (defBody st) (defScope st) (.ref dT) kV doc pm an cdv ct) :=
  ⟨⟨oc, od, .ref dT, kV, doc, pm, an, cdv, ct, osl, rfl, l, c, .inr ⟨hd, dT, o, its, n, rfl, lT, oT, r⟩, .inl rfl⟩, k⟩
/-- dict(d) -/
def rDictD (xs : List V) (H : Hp) (Q : VK) : Prop := ∃ (a : Addr) (kvs : List (Key × V)), xs = [.ref a] ∧ Rd H a (.dK kvs) ∧ ∀ p, H p = none → Q (.ref p) (upd H p (.dK kvs))
theorem k_dictD {X : Cx} : CallR X (.type "dict") rDictD := call_dictD
theorem x_rDictD {a : Addr} {H : Hp} {Q : VK} {kvs : List (Key × V)} (h : H a = some (.dK kvs)) (k : ∀ p H2, Fr p H → Same H H2 → H2 p = some (.dK kvs) → Q (.ref p) H2) : rDictD [.ref a] H Q := ⟨a, kvs, rfl, .inl h, x_new1 k⟩
end Xk
/-! zip of a tuple and a list -/
namespace Xk
open PySem PySem.Spec PyProof.Rows L2
/-- a tuple at p and a list at q, side by side -/
def ItTL (K : PySem.W.Frag) (p q : Addr) : It where
  go := fun n H => ∃ (us vs : List V) (u v : V), SqT K H p us ∧ SqL K H q vs ∧ us[n]? = some u ∧ vs[n]? = some v
  yld := fun n H r H' => ∃ T u v, r = .ref T ∧ H T = none ∧ H' = upd H T (.tup [u, v]) ∧ (∀ us, SqT K H p us → us[n]? = some u) ∧ ∀ vs, SqL K H q vs → vs[n]? = some v
  stop := fun n H => ∃ us vs : List V, SqT K H p us ∧ SqL K H q vs ∧ n ≤ us.length ∧ n ≤ vs.length ∧ (n = us.length ∨ n = vs.length)
/-- what stands behind such an iterator -/
def AtTL (z t o i j p q : Addr) (n : Nat) (h : Heap) : Prop :=
  IsZip h z t o .none ∧ IsPair h t (.ref i) (.ref j) ∧ (∃ u v, IsPair h o u v) ∧ h.IsTupleIter i p n ∧ h.IsListIter j q n
theorem sepTL {z t o i j p q : Addr} (D : ZipApart z t o i j p q) : ZipSep2 z t o i j [i, p] [j, q] where
  TIz := D.TIz
  TOz := D.TOz
  TITO := D.TITO
  TIi1 := D.TIi1
  mem1 := List.mem_cons_self
  zf1 := by simp [D.i1z.symm, D.l1z.symm]
  Tf1 := by simp [D.TOi1, D.l1TO.symm]
  TIi2 := D.TIi2
  mem2 := List.mem_cons_self
  zf2 := by simp [D.i2z.symm, D.l2z.symm]
  Tf2 := by simp [D.TOi2, D.l2TO.symm]
  sep1_2 := by simp [D.i12, D.l2i1.symm]
  sep2_1 := by simp [D.i12.symm, D.l1i2.symm]
theorem five {c z t o i j : Addr} {P : Addr → Prop} (h : c ∈ [z, t, o, i, j]) (h1 : P z) (h2 : P t) (h3 : P o) (h4 : P i) (h5 : P j) : P c := by
  simp only [List.mem_cons, List.not_mem_nil, or_false] at h
  rcases h with rfl | rfl | rfl | rfl | rfl <;> assumption
theorem turnTL {P : Program} {w : World} {K : PySem.W.Frag} {es : List Expr} {k : Nat} {pos : Pos} {z t o i j p q : Addr} (D : ZipApart z t o i j p q) :
    Turn P w K (.Tuple es k pos) (ItTL K p q) [z, t, o, i, j] z (AtTL z t o i j p q) where
  mem := List.mem_cons_self
  obj := fun n h st c hc => by
    obtain ⟨g1, g2, ⟨u, v, g3⟩, ⟨o1, e1, _, d1⟩, ⟨o2, e2, _, d2⟩⟩ := st
    refine five (P := fun c => ∃ ob, h.get? c = some ob ∧ ∀ v, ob.data ≠ .cell v) hc ⟨_, g1, fun _ e => nomatch e⟩ ⟨_, g2, fun _ e => nomatch e⟩ ⟨_, g3, fun _ e => nomatch e⟩ ⟨o1, e1, fun x e => ?_⟩ ⟨o2, e2, fun x e => ?_⟩
    · rw [d1] at e
      cases e
    · rw [d2] at e
      cases e
  keep := fun n h h' st g => by
    obtain ⟨g1, g2, ⟨u, v, g3⟩, g4, g5⟩ := st
    exact ⟨g z (by simp) _ g1, g t (by simp) _ g2, ⟨u, v, g o (by simp) _ g3⟩, g4.at fun ob e => g i (by simp) ob e, g5.at fun ob e => g j (by simp) ob e⟩
  item := by
    intro X hP hw hK hc n pins s σ H E I hf st hg
    subst hP hw hK
    obtain ⟨g1, g2, ⟨u0, v0, g3⟩, g4, g5⟩ := st
    obtain ⟨us, vs, u, v, hus, hvs, hu, hv⟩ := hg
    obtain ⟨its, r1, p1, _⟩ := I.tuple hus
    obtain ⟨its2, r2, p2, _⟩ := I.list hvs
    obtain ⟨x, hx, rx⟩ := r1.get hu
    obtain ⟨y, hy, ry⟩ := r2.get hv
    have lt1 : n < its.toArray.size := by
      obtain ⟨b, _⟩ := List.getElem?_eq_some_iff.mp hx
      simpa using b
    have lt2 : n < its2.toArray.size := by
      obtain ⟨b, _⟩ := List.getElem?_eq_some_iff.mp hy
      simpa using b
    have hzl : z < s.heap.objs.size := Heap.lt_size g1
    have hh : X.A.in1.handled = none := I.ok.hd hc
    refine wpAny_pyNext_zipD2_item (sepTL D) (Draws.tuple hh i p D.l1i1 its.toArray) (Draws.list hh j q D.l2i2 its2.toArray) g1 g2 g3 ⟨g4, p1⟩ ⟨g5, p2.isList⟩ lt1 lt2 fun x1 y1 h' tk q1 q2 z' o' st1 st2 hT hsz hk => ?_
    have ex : x1 = x := by
      have e2 : its[n]? = some x1 := by simpa using q1
      exact Option.some.inj (e2.symm.trans hx)
    have ey : y1 = y := by
      have e2 : its2[n]? = some y1 := by simpa using q2
      exact Option.some.inj (e2.symm.trans hy)
    subst ex ey
    refine ⟨_, rfl, wpAny_letOwnedTupleGo_zip (s := { s with heap := h', toks := tk }) z' fun h2 z2 sb => ?_⟩
    have hT2 : h2.get? s.heap.objs.size = some { cls := .type "tuple", data := .seq #[x1, y1] } := (sb.2 _ (Nat.ne_of_gt hzl)).trans hT
    have new : ObjOk X.prog X.w (upd H s.heap.objs.size (.tup [u, v])) h2 s.heap.objs.size (.tup [u, v]) :=
      ⟨by show 2 ≤ sizeLine; decide, [x1, y1], .cons rx (.cons ry .nil), ⟨_, hT2, rfl, _, rfl⟩⟩
    have kept : ∀ c ob, c ∉ [z, t, o, i, j] → s.heap.get? c = some ob → h2.get? c = some ob := fun c ob nc e => by
      simp only [List.mem_cons, List.not_mem_nil, or_false, not_or] at nc
      exact (sb.2 c nc.1).trans (hk c ob nc.1 nc.2.2.1 nc.2.2.2.1 nc.2.2.2.2 e)
    have I1 : Inv X pins σ (upd H s.heap.objs.size (.tup [u, v])) { s with heap := h2, toks := tk } :=
      I.turnedNew (t' := tk) (ch := [z, t, o, i, j]) kept hf (Nat.le_refl _) new
    refine ⟨.ref s.heap.objs.size, _, I1, rfl, ⟨_, u, v, rfl, I.hok.fresh (Nat.le_refl _), rfl, fun l hl => ?_, fun l hl => ?_⟩, ⟨z2, ?_, ⟨x1, y1, ?_⟩, ?_, ?_⟩, fun c hcm => ?_⟩
    · rw [I.tuple_inj hl hus]
      exact hu
    · rw [I.list_inj hl hvs]
      exact hv
    · exact (sb.2 _ D.TIz).trans (hk t _ D.TIz D.TITO D.TIi1 D.TIi2 g2)
    · exact (sb.2 _ D.TOz).trans o'
    · exact st1.1.at fun ob e => (sb.2 _ D.i1z).trans e
    · exact st2.1.at fun ob e => (sb.2 _ D.i2z).trans e
    · have lt : c < s.heap.objs.size := by
        refine five (P := fun c => c < s.heap.objs.size) hcm hzl (Heap.lt_size g2) (Heap.lt_size g3) ?_ ?_
        · obtain ⟨_, e1, _⟩ := g4
          exact Heap.lt_size e1
        · obtain ⟨_, e1, _⟩ := g5
          exact Heap.lt_size e1
      rw [upd_ne (Nat.ne_of_lt lt)]
      exact (hf c hcm).1
  done := by
    intro X hP hw hK hc n pins s σ H E I hf st hg
    subst hP hw hK
    obtain ⟨g1, g2, ⟨u0, v0, g3⟩, g4, g5⟩ := st
    obtain ⟨us, vs, hus, hvs, le1, le2, hend⟩ := hg
    obtain ⟨its, r1, p1, _⟩ := I.tuple hus
    obtain ⟨its2, r2, p2, _⟩ := I.list hvs
    have l1 : its.toArray.size = us.length := by rw [List.size_toArray, r1.length]
    have l2 : its2.toArray.size = vs.length := by rw [List.size_toArray, r2.length]
    have hh : X.A.in1.handled = none := I.ok.hd hc
    exact wpAny_pyNext_zipD2_end (sepTL D) (Draws.tuple hh i p D.l1i1 its.toArray) (Draws.list hh j q D.l2i2 its2.toArray) g1 g2 g3 ⟨g4, p1⟩ ⟨g5, p2.isList⟩ (by omega) (by omega) (by omega) fun h' tk hk =>
      ⟨rfl, I.turnedL (t' := tk) (ch := [z, t, o, i, j]) (fun c ob nc e => by
        simp only [List.mem_cons, List.not_mem_nil, or_false, not_or] at nc
        exact hk c ob nc.1 nc.2.2.1 nc.2.2.2.1 nc.2.2.2.2 e) hf⟩
  self := fun A n s Q E st h => wpAny_pyIter_zip st.1 h
/-- zip(e, e2), e a tuple and e2 a list -/
def iTL (K : PySem.W.Frag) (ta : TA) : TI := fun σ H R => ta σ H fun vs H1 => ∃ p q us ws, vs = [.ref p, .ref q] ∧ SqT K H1 p us ∧ SqL K H1 q ws ∧ R (ItTL K p q) H1
theorem pi_TL {X : Cx} {e e2 : Expr} {ta : TA} {p1 pos tpos : Pos} {es : List Expr} {k : Nat} (hg : Gl X "zip") (hm : X.mg "zip" = none) (ha : PA X [e, e2] ta)
    (hs : starEach [e, e2] X.env = (false, eval e X.env) :: starEach [e2] X.env := by rfl) (hpl : (backTo pos (starEach [e2] X.env)).any (·.1) = false := by rfl) :
    PI X (.Tuple es k tpos) (.Call (.Name "zip" p1) [e, e2] [] pos) (iTL X.K ta) := by
  refine ⟨fun pins s σ H R I h => Call_ (ld_blt I hg hm PyProof.Rows.boot_zip (PyProof.Rows.callWith_type1 (thn (ha.run pos pins s σ H _ I h) fun us s1 ⟨vs, H1, I1, r1, q1⟩ => ?_) hs hpl))⟩
  obtain ⟨p, q, xs, ys, rfl, hx, hy, g⟩ := q1
  have e3 : us = [.ref p, .ref q] := by
    cases r1 with
    | cons a b =>
      cases b with
      | cons c d =>
        cases d
        cases a
        cases c
        rfl
  subst e3
  obtain ⟨its, rx, px, _⟩ := I1.tuple hx
  obtain ⟨its2, ry, py, _⟩ := I1.list hy
  have lp : p < s1.heap.objs.size := by
    obtain ⟨_, e1, _⟩ := id px
    exact Heap.lt_size e1
  refine zip_begins2 (begins_tuple p its.toArray) (begins_list q its2.toArray) px py.isList fun h' hz hTI hTO h1 h2 hsz hk => wpAny_pyIter_zip hz ?_
  have I2 : Inv X pins σ H1 { s1 with heap := h' } := I1.kept (t' := s1.toks) hk
  refine ⟨s1.heap.objs.size + 4, [s1.heap.objs.size + 4, s1.heap.objs.size + 2, s1.heap.objs.size + 3, s1.heap.objs.size, s1.heap.objs.size + 1], _, _, H1, rfl, I2,
    turnTL (PySem.W.ktu_apart s1.heap.objs.size p q lp py.lt), ⟨hz, hTI, ⟨_, _, hTO⟩, ⟨_, h1, rfl, rfl⟩, ⟨_, h2, rfl, rfl⟩⟩, fun c hcm => ?_, g⟩
  have le : s1.heap.objs.size ≤ c := five (P := fun c => s1.heap.objs.size ≤ c) hcm (Nat.le_add_right _ _) (Nat.le_add_right _ _) (Nat.le_add_right _ _) (Nat.le_refl _) (Nat.le_add_right _ _)
  exact I1.fpOk le (I1.hok.fresh le)
/-- a comprehension over it -/
theorem walkTL {K : PySem.W.Frag} {p q : Addr} {us vs : List V} (e : us.length = vs.length) : Walk (ItTL K p q) us.length (fun H => SqT K H p us ∧ SqL K H q vs) (YPair (fun n => us[n]?) (fun n => vs[n]?)) := by
  refine ⟨fun n _ hn g => ?_, fun _ g => ⟨us, vs, g.1, g.2, Nat.le_refl _, by omega, .inl rfl⟩, fun n H v H' _ g y => ?_⟩
  · have h2 : n < vs.length := by omega
    exact ⟨us, vs, us[n], vs[n], g.1, g.2, List.getElem?_eq_getElem hn, List.getElem?_eq_getElem h2⟩
  · obtain ⟨T, x, z, h1, h2, h3, h4, h5⟩ := y
    exact ⟨T, x, z, h1, h2, h3, h4 us g.1, h5 vs g.2⟩
end Xk
section
open PySem PySem.Spec PyProof.Rows L2
namespace Xk
variable {K : PySem.W.Frag} {σ : L2.St} {H : Hp} {Q : VK} {te : TE} {g : TG} {t : TT} {X : Cx}
theorem k_TL {e e2 : Expr} {ta : TA} {p1 pos tpos : Pos} {es : List Expr} {k : Nat} (hk : X.K = K) (hg : Gl X "zip") (hm : X.mg "zip" = none) (ha : PA X [e, e2] ta)
    (hs : starEach [e, e2] X.env = (false, eval e X.env) :: starEach [e2] X.env := by rfl) (hpl : (backTo pos (starEach [e2] X.env)).any (·.1) = false := by rfl) :
    PI X (.Tuple es k tpos) (.Call (.Name "zip" p1) [e, e2] [] pos) (iTL K ta) := hk ▸ pi_TL hg hm ha hs hpl
def rLcZ (K : PySem.W.Frag) (g : TG) (tt : TT) (te : TE) (vs : List Nat) (σ : L2.St) (Q : VK) : List V → Hp → Prop := fun zs H1 => ∃ p q us ws, zs = [.ref p, .ref q] ∧ SqT K H1 p us ∧ SqL K H1 q ws ∧ RLc (ItTL K p q) g tt te vs σ Q H1
theorem x_lcZ1 {tr : TA} {vs : List Nat} (q : tr σ H (rLcZ K g t te vs σ Q)) : tLc (iTL K tr) g t te vs σ H Q := q
theorem x_lcZ {a b : Addr} {us ws : List V} {vs : List Nat} (Pv : Addr → Nat → Hp → Prop) (e : us.length = ws.length) (hx : SqT K H a us) (hy : SqL K H b ws) (h0 : ∀ Dl, Fr Dl H → Pv Dl 0 (upd H Dl (.lst [])))
    (hl : ∀ Dl i H', Fr Dl H → Pv Dl i H' → SqT K H' a us ∧ SqL K H' b ws)
    (hs : ∀ Dl, Fr Dl H → ∀ i x y H1 T H', us[i]? = some x → ws[i]? = some y → Pv Dl i H1 → Fr T H1 → Same H1 H' → H' T = some (.tup [x, y]) → g (.ref T) (wipe σ vs) H' fun σ2 H2 => wipe σ2 vs = wipe σ vs ∧ t σ2 H2 fun c H3 =>
      if c = true then te σ2 H3 fun y H4 => ∃ acc, H4 Dl = some (.lst acc) ∧ acc.length < sizeLine ∧ Pv Dl (i + 1) (upd H4 Dl (.lst (acc ++ [y]))) else Pv Dl (i + 1) H3)
    (hd : ∀ Dl H', Fr Dl H → Pv Dl us.length H' → Q (.ref Dl) H') : rLcZ K g t te vs σ Q [.ref a, .ref b] H := ⟨a, b, us, ws, rfl, hx, hy, fun Dl hD =>
  lc_it (walkTL e) (Pv Dl) (h0 Dl ⟨hD⟩) (fun i H' _ p => hl Dl i H' ⟨hD⟩ p) (fun i x H1 H' hi p y => by
    obtain ⟨T, u, v, rfl, hT, rfl, e1, e2⟩ := y
    exact hs Dl ⟨hD⟩ i u v H1 T _ e1 e2 p ⟨hT⟩ (same_new hT) upd_same) (fun H' p => hd Dl H' ⟨hD⟩ p)⟩
/-- texts in order -/
def nLtS : R2 := fun x y H Q => ∃ i j, x = .str i ∧ y = .str j ∧ Q (.bl (decide (i.cps.toList < j.cps.toList))) H
def nLeS : R2 := fun x y H Q => ∃ i j, x = .str i ∧ y = .str j ∧ Q (.bl (!decide (j.cps.toList < i.cps.toList))) H
theorem op_nLtS : OpR X (compareOp .Lt) nLtS := op_lt_str
theorem op_nLeS : OpR X (compareOp .LtE) nLeS := op_le_str
def rPar (i j : Nat) (σ : L2.St) (R : L2.St → Hp → Prop) : List V → Hp → Prop := fun vs H1 => ∃ v w, vs = [v, w] ∧ R ((σ.set i (some v)).set j (some w)) H1
theorem x_spar {i j : Nat} {ta : TA} {tz : TS} {D : Ends} (q : ta σ H (rPar i j σ (tz D))) : tSeq (tPar i j ta) tz D σ H := q
theorem x_par {i j : Nat} {ta : TA} {D : Ends} (q : ta σ H (rPar i j σ D.nx)) : tPar i j ta D σ H := q
theorem x_rPar {i j : Nat} {R : L2.St → Hp → Prop} {v u : V} (q : R ((σ.set i (some v)).set j (some u)) H) : rPar i j σ R [v, u] H := ⟨v, u, rfl, q⟩
def nGeS : R2 := fun x y H Q => ∃ i j, x = .str i ∧ y = .str j ∧ Q (.bl (!decide (i.cps.toList < j.cps.toList))) H
theorem op_nGeS : OpR X (compareOp .GtE) nGeS := op_ge_str
theorem x_nGeS {i j : Str} (q : Q (.bl (!decide (i.cps.toList < j.cps.toList))) H) : nGeS (.str i) (.str j) H Q := ⟨i, j, rfl, rfl, q⟩
theorem x_nLtS {i j : Str} (q : Q (.bl (decide (i.cps.toList < j.cps.toList))) H) : nLtS (.str i) (.str j) H Q := ⟨i, j, rfl, rfl, q⟩
theorem x_nLeS {i j : Str} (q : Q (.bl (!decide (j.cps.toList < i.cps.toList))) H) : nLeS (.str i) (.str j) H Q := ⟨i, j, rfl, rfl, q⟩
theorem x_ext {l b : Addr} {xs zs : List V} (h : H l = some (.lst xs)) (h' : H b = some (.lst zs)) (hz : xs.length + zs.length ≤ 100000) (q : Q .non (upd H l (.lst (xs ++ zs)))) : rExtend (.ref l) [.ref b] H Q := ⟨l, b, xs, zs, rfl, rfl, h, h', size_ok hz, q⟩
theorem x_sortS {a : Addr} {xs : List Str} (h : SqL K H a (xs.map V.str)) (hl : xs.length < 64) (k : ∀ p H2 (ys : List Str), ys.Perm xs → sortedS ys = true → Fr p H → Same H H2 → H2 p = some (.lst (ys.map V.str)) → Q (.ref p) H2) : rSortedS K [.ref a] H Q :=
  ⟨a, xs, rfl, h, hl, fun ys p h1 h2 hp => k p _ ys h1 h2 ⟨hp⟩ (same_new hp) upd_same⟩
end Xk
end
namespace Xk
open PySem PySem.Spec PyProof.Rows L2
theorem k_fld {X : Cx} {K : PySem.W.Frag} {e : Expr} {f : Str} {pos : Pos} {ta : TE} (hk : X.K = K) (he : PE X e ta) (hb : attributeBase e f X.env (eval e X.env) = eval e X.env) : PE X (.Attribute e f pos) (tFld K ta f) := hk ▸ pe_fld he hb
end Xk
namespace Xk
open PySem PySem.Spec PyProof.Rows L2
def rSubSl (x v : V) (l u : Option Int) (σ : L2.St) (R : L2.St → Hp → Prop) : Hp → Prop := fun H3 => ∃ (a b : Addr) (xs ys : List V) (i j : Int), x = .ref a ∧ v = .ref b ∧ l = some i ∧ u = some j ∧
  H3 a = some (.lst xs) ∧ H3 b = some (.lst ys) ∧ a ≠ b ∧ 0 ≤ i ∧ i ≤ j ∧ j ≤ xs.length ∧ xs.length + ys.length ≤ sizeLine ∧ R σ (upd H3 a (.lst (xs.take i.toNat ++ ys ++ xs.drop j.toNat)))
theorem x_gSubSl {to : TE} {tl th : TO} {v : V} {σ : L2.St} {H : Hp} {R : L2.St → Hp → Prop} (q : to σ H fun x H1 => tl σ H1 fun l H2 => th σ H2 fun u H3 => rSubSl x v l u σ R H3) : gSubSl to tl th v σ H R := q
theorem x_rSubSl {a b : Addr} {xs ys : List V} {i j : Int} {n m : Nat} {σ : L2.St} {H : Hp} {R : L2.St → Hp → Prop} (h : H a = some (.lst xs)) (h' : H b = some (.lst ys)) (ne : a ≠ b) (hi : i = (n : Int)) (hj : j = (m : Int)) (nm : n ≤ m) (hm : m ≤ xs.length) (hz : xs.length + ys.length ≤ 100000)
    (q : R σ (upd H a (.lst (xs.take n ++ ys ++ xs.drop m)))) : rSubSl (.ref a) (.ref b) (some i) (some j) σ R H := by
  refine ⟨a, b, xs, ys, i, j, rfl, rfl, rfl, rfl, h, h', ne, by omega, by omega, by omega, size_ok hz, ?_⟩
  rw [hi, hj, Int.toNat_natCast, Int.toNat_natCast]
  exact q
end Xk
/-! enumerate of a tuple -/
namespace Xk
open PySem PySem.Spec PyProof.Rows L2
theorem wp_ite {M : Model} {A : Around} {E : Value → Shared → Prop} {s : Shared} {α : Type} {c : Prop} [Decidable c] {a b : Sem α} {Q : α → Shared → Prop} (h1 : wpAny M A a Q E s) (h2 : wpAny M A b Q E s) : wpAny M A (if c then a else b) Q E s := by
  by_cases h : c
  · exact wpAny_ite_true (decide_eq_true h) h1
  · exact wpAny_ite_false (decide_eq_false h) h2
theorem enumT0 {prog : Program} {w : World} {A : Around} {E : Value → Shared → Prop} {R : Fin → Shared → Prop} {s : Shared} {v : Value} {o : Obj} {H : Heap → Prop} (b : Begins v o H) (h1 : H s.heap)
  (h2 : R (Fin.done (Flow.ret (Value.ref (s.heap.push o).objs.size)))
        { heap := (s.heap.push o).push { cls := Value.type "enumerate", data := Data.fields #[Value.none, Value.bool false, Value.ref s.heap.objs.size, rawInt 0, Value.none, Value.none] },
          gens := s.gens, drawn := s.drawn, toks := s.toks, os := s.os }) :
  wpAny (model prog w) A (do
      let it ← pyIter v
      let r ← Builtin.SmallTypes.newRecord (Value.type "enumerate") (Builtin.SmallTypes.ownedTupleFields ++ [it, rawInt 0, Value.none, Value.none])
      ret r) R E s := by
  refine wpAny_bind (b.iter prog w A _ s _ h1 ?_)
  refine wpAny_bind ?_
  refine wpAny_bind (wpAny_alloc' ?_)
  refine wpAny_pure ?_
  exact wpAny_pure h2
theorem enumT1 {v : Value} {o : Obj} {H : Heap → Prop} (b : Begins v o H) : Meets (Builtin.«enumerate.__new__» { pos := [.type "enumerate", v] }) fun A R s => H s.heap ∧
   R (Except.ok (Flow.ret (Value.ref (s.heap.push o).objs.size)))
        { heap := (s.heap.push o).push { cls := Value.type "enumerate", data := Data.fields #[Value.none, Value.bool false, Value.ref s.heap.objs.size, rawInt 0, Value.none, Value.none] },
          gens := s.gens, drawn := s.drawn, toks := s.toks, os := s.os } := by
  intro prog w A R s hs
  obtain ⟨h1, h2⟩ := hs
  refine wpAny_bind ?_
  refine wpAny_bind ?_
  refine wpAny_of_eq (a := true) rfl ?_
  refine wpAny_ite_false rfl ?_
  refine wpAny_bind ?_
  refine wpAny_of_eq sub_enumerate ?_
  refine wpAny_ite_false rfl ?_
  refine wpAny_pure ?_
  refine wpAny_ite_true (by decide) ?_
  refine wpAny_bind ?_
  refine wpAny_bind (wpAny_stack_any fun st => wpAny_pure ?_)
  refine wp_ite ?_ ?_
  · refine wpAny_bind ?_
    refine wpAny_of_eq (a := (v, none)) rfl ?_
    exact enumT0 b h1 h2
  · refine wpAny_bind ?_
    refine wpAny_of_eq (a := (v, none)) rfl ?_
    exact enumT0 b h1 h2
theorem enum_one {prog : Program} {w : World} {A : Around} {E : Value → Shared → Prop} {s : Shared} {v : Value} {o : Obj} {H : Heap → Prop} {Q : Value → Shared → Prop} (b : Begins v o H) (h1 : H s.heap)
  (q : ∀ h' : Heap, IsEnum h' (s.heap.objs.size + 1) s.heap.objs.size 0 Value.none → h'.get? s.heap.objs.size = some o → h'.objs.size = s.heap.objs.size + 2 → (∀ (b : Addr) (o : Obj), s.heap.get? b = some o → h'.get? b = some o) →
     Q (Value.ref (s.heap.objs.size + 1)) { heap := h', gens := s.gens, drawn := s.drawn, toks := s.toks, os := s.os }) :
  wpAny (model prog w) A (call (Value.type "enumerate") [v]) Q E s := by
  refine callType_new F.called_enumerate (by decide) (F.typeCall_enumerate_1 v) (F.newCall_enumerate_1 v) (fun obj => F.args_object_init_2 obj v) F.entry_enumerate_new (enumT1 b) ⟨h1, ?_⟩
  have e1 : (s.heap.push o).objs.size = s.heap.objs.size + 1 := by rw [Heap.size_push]
  have g : ((s.heap.push o).push { cls := Value.type "enumerate", data := Data.fields #[Value.none, Value.bool false, Value.ref s.heap.objs.size, rawInt 0, Value.none, Value.none] }).get? (s.heap.push o).objs.size = some { cls := Value.type "enumerate", data := Data.fields #[Value.none, Value.bool false, Value.ref s.heap.objs.size, rawInt 0, Value.none, Value.none] } := Heap.get?_push_size _ rfl
  refine ⟨?_, ?_⟩
  · rw [e1] at g ⊢
    exact ⟨_, g, rfl⟩
  · rw [e1] at g ⊢
    refine q _ g ?_ (by rw [Heap.size_push, Heap.size_push]) fun b' o' e => Heap.get?_push_of_some _ (Heap.get?_push_of_some _ e)
    exact Heap.get?_push_of_some _ (Heap.get?_push_size _ b.free)
/-- a tuple at a, each item with its number -/
def ItET (K : PySem.W.Frag) (a : Addr) : It where
  go := fun i H => ∃ (xs : List V) (x : V), SqT K H a xs ∧ xs[i]? = some x
  yld := fun i H v H' => ∃ T x, v = .ref T ∧ H T = none ∧ H' = upd H T (.tup [.int (i : Nat), x]) ∧ ∀ xs : List V, SqT K H a xs → xs[i]? = some x
  stop := fun i H => ∃ xs : List V, SqT K H a xs ∧ i = xs.length
theorem turnET {P : Program} {w : World} {K : PySem.W.Frag} {es : List Expr} {k : Nat} {pos : Pos} {a e it : Addr} (d1 : e ≠ it) (d2 : a ≠ it) (d3 : e ≠ a) :
    Turn P w K (.Tuple es k pos) (ItET K a) [e, it] e (fun i h => (∃ old, IsEnum h e it (i : Nat) old) ∧ h.IsTupleIter it a i) where
  mem := List.mem_cons_self
  obj := fun n h st c hc => by
    obtain ⟨⟨old, g1⟩, ⟨o1, e1, _, dd1⟩⟩ := st
    simp only [List.mem_cons, List.not_mem_nil, or_false] at hc
    rcases hc with rfl | rfl
    · exact ⟨_, g1, fun _ e => nomatch e⟩
    · refine ⟨o1, e1, fun x e => ?_⟩
      rw [dd1] at e
      cases e
  keep := fun n h h' st g => by
    obtain ⟨⟨old, g1⟩, g2⟩ := st
    exact ⟨⟨old, g e (by simp) _ g1⟩, g2.at fun ob e => g it (by simp) ob e⟩
  item := by
    intro X hP hw hK hc n pins s σ H E I hf st hg
    subst hP hw hK
    obtain ⟨⟨old, g1⟩, g2⟩ := st
    obtain ⟨us, u, hus, hu⟩ := hg
    obtain ⟨its, r1, p1, _⟩ := I.tuple hus
    obtain ⟨x, hx, rx⟩ := r1.get hu
    have lt1 : n < its.toArray.size := by
      obtain ⟨b, _⟩ := List.getElem?_eq_some_iff.mp hx
      simpa using b
    have hzl : e < s.heap.objs.size := Heap.lt_size g1
    have hil : it < s.heap.objs.size := by
      obtain ⟨_, e1, _⟩ := id g2
      exact Heap.lt_size e1
    have hh : X.A.in1.handled = none := I.ok.hd hc
    refine wpAny_pyNext_enum_itemD (Draws.tuple hh it a d2 its.toArray) g1 ⟨g2, p1⟩ lt1 d1 (by simp [d1, d3]) fun x1 h' tk q1 eo st1 hT hsz hk => ?_
    have ex : x1 = x := by
      have e2 : its[n]? = some x1 := by simpa using q1
      exact Option.some.inj (e2.symm.trans hx)
    subst ex
    refine ⟨_, rfl, wpAny_letOwnedTupleGo_enum (s := { s with heap := h', toks := tk + 1 }) eo fun h2 z2 sb => ?_⟩
    have hT2 : h2.get? s.heap.objs.size = some { cls := .type "tuple", data := .seq #[Value.int (n : Nat) tk, x1] } := (sb.2 _ (Nat.ne_of_gt hzl)).trans hT
    have new : ObjOk X.prog X.w (upd H s.heap.objs.size (.tup [.int (n : Nat), u])) h2 s.heap.objs.size (.tup [.int (n : Nat), u]) :=
      ⟨by show 2 ≤ sizeLine; decide, [Value.int (n : Nat) tk, x1], .cons (by first | exact ⟨tk, rfl⟩ | exact rfl | constructor) (.cons rx .nil), ⟨_, hT2, rfl, _, rfl⟩⟩
    have kept : ∀ c ob, c ∉ [e, it] → s.heap.get? c = some ob → h2.get? c = some ob := fun c ob nc e => by
      simp only [List.mem_cons, List.not_mem_nil, or_false, not_or] at nc
      exact (sb.2 c nc.1).trans (hk c ob nc.1 nc.2 e)
    have I1 : Inv X pins σ (upd H s.heap.objs.size (.tup [.int (n : Nat), u])) { s with heap := h2, toks := tk + 1 } :=
      I.turnedNew (t' := tk + 1) (ch := [e, it]) kept hf (Nat.le_refl _) new
    refine ⟨.ref s.heap.objs.size, _, I1, rfl, ⟨_, u, rfl, I.hok.fresh (Nat.le_refl _), rfl, fun l hl => ?_⟩, ⟨⟨_, z2⟩, ?_⟩, fun c hcm => ?_⟩
    · rw [I.tuple_inj hl hus]
      exact hu
    · exact st1.1.at fun ob e => (sb.2 _ d1.symm).trans e
    · have lt : c < s.heap.objs.size := by
        simp only [List.mem_cons, List.not_mem_nil, or_false] at hcm
        rcases hcm with rfl | rfl
        · exact hzl
        · exact hil
      rw [upd_ne (Nat.ne_of_lt lt)]
      exact (hf c hcm).1
  done := by
    intro X hP hw hK hc n pins s σ H E I hf st hg
    subst hP hw hK
    obtain ⟨⟨old, g1⟩, g2⟩ := st
    obtain ⟨us, hus, rfl⟩ := hg
    obtain ⟨its, r1, p1, _⟩ := I.tuple hus
    have l1 : its.toArray.size = us.length := by rw [List.size_toArray, r1.length]
    have hh : X.A.in1.handled = none := I.ok.hd hc
    refine wpAny_pyNext_enum_endD (Draws.tuple hh it a d2 its.toArray) g1 (by rw [l1]; exact ⟨g2, p1⟩) fun h' hk => ?_
    exact ⟨rfl, I.turnedL (t' := s.toks) (ch := [e, it]) (fun c ob nc e => by
      simp only [List.mem_cons, List.not_mem_nil, or_false, not_or] at nc
      exact hk c ob nc.2 e) hf⟩
  self := fun A n s Q E st h => wpAny_pyIter_enum st.1.choose_spec h
/-- enumerate(e), e a tuple -/
def iET (K : PySem.W.Frag) (ta : TA) : TI := fun σ H R => ta σ H fun vs H1 => ∃ p us, vs = [.ref p] ∧ SqT K H1 p us ∧ R (ItET K p) H1
theorem pi_ET {X : Cx} {e : Expr} {ta : TA} {p1 pos tpos : Pos} {es : List Expr} {k : Nat} (hg : Gl X "enumerate") (hm : X.mg "enumerate" = none) (ha : PA X [e] ta)
    (hs : starEach [e] X.env = [(false, eval e X.env)] := by rfl) (hpl : (backTo pos (starEach [] X.env)).any (·.1) = false := by rfl) :
    PI X (.Tuple es k tpos) (.Call (.Name "enumerate" p1) [e] [] pos) (iET X.K ta) := by
  refine ⟨fun pins s σ H R I h => Call_ (ld_blt I hg hm PyProof.Rows.boot_enumerate (PyProof.Rows.callWith_type1 (thn (ha.run pos pins s σ H _ I h) fun us s1 ⟨vs, H1, I1, r1, q1⟩ => ?_) hs hpl))⟩
  obtain ⟨p, xs, rfl, hx, g⟩ := q1
  have e3 : us = [.ref p] := by
    cases r1 with
    | cons a b =>
      cases b
      cases a
      rfl
  subst e3
  obtain ⟨its, rx, px, _⟩ := I1.tuple hx
  have lp : p < s1.heap.objs.size := by
    obtain ⟨_, e1, _⟩ := id px
    exact Heap.lt_size e1
  refine enum_one (begins_tuple p its.toArray) px fun h' hz h1 hsz hk => wpAny_pyIter_enum hz ?_
  have I2 : Inv X pins σ H1 { s1 with heap := h' } := I1.kept (t' := s1.toks) hk
  refine ⟨s1.heap.objs.size + 1, [s1.heap.objs.size + 1, s1.heap.objs.size], _, _, H1, rfl, I2,
    turnET (Nat.succ_ne_self _) (Nat.ne_of_lt lp) (Nat.ne_of_gt (Nat.lt_succ_of_lt lp)), ⟨⟨_, hz⟩, ⟨_, h1, rfl, rfl⟩⟩, fun c hcm => ?_, g⟩
  have le : s1.heap.objs.size ≤ c := by
    simp only [List.mem_cons, List.not_mem_nil, or_false] at hcm
    rcases hcm with rfl | rfl
    · exact Nat.le_add_right _ _
    · exact Nat.le_refl _
  exact I1.fpOk le (I1.hok.fresh le)
/-- a comprehension over it -/
theorem walkET {K : PySem.W.Frag} {p : Addr} {us : List V} : Walk (ItET K p) us.length (fun H => SqT K H p us) (YPair (fun n => some (.int (n : Nat))) (fun n => us[n]?)) := by
  refine ⟨fun n _ hn g => ?_, fun _ g => ⟨us, g, rfl⟩, fun n H v H' _ g y => ?_⟩
  · exact ⟨us, us[n], g, List.getElem?_eq_getElem hn⟩
  · obtain ⟨T, x, h1, h2, h3, h4⟩ := y
    exact ⟨T, _, x, h1, h2, h3, rfl, h4 us g⟩
end Xk
section
open PySem PySem.Spec PyProof.Rows L2
namespace Xk
variable {K : PySem.W.Frag} {σ : L2.St} {H : Hp} {Q : VK} {te : TE} {g : TG} {t : TT} {X : Cx}
theorem k_ET {e : Expr} {ta : TA} {p1 pos tpos : Pos} {es : List Expr} {k : Nat} (hk : X.K = K) (hg : Gl X "enumerate") (hm : X.mg "enumerate" = none) (ha : PA X [e] ta)
    (hs : starEach [e] X.env = [(false, eval e X.env)] := by rfl) (hpl : (backTo pos (starEach [] X.env)).any (·.1) = false := by rfl) :
    PI X (.Tuple es k tpos) (.Call (.Name "enumerate" p1) [e] [] pos) (iET K ta) := hk ▸ pi_ET hg hm ha hs hpl
def rLcET (K : PySem.W.Frag) (g : TG) (tt : TT) (te : TE) (vs : List Nat) (σ : L2.St) (Q : VK) : List V → Hp → Prop := fun zs H1 => ∃ p us, zs = [.ref p] ∧ SqT K H1 p us ∧ RLc (ItET K p) g tt te vs σ Q H1
theorem x_lcET1 {tr : TA} {vs : List Nat} (q : tr σ H (rLcET K g t te vs σ Q)) : tLc (iET K tr) g t te vs σ H Q := q
theorem x_lcET {a : Addr} {us : List V} {vs : List Nat} (Pv : Addr → Nat → Hp → Prop) (hx : SqT K H a us) (h0 : ∀ Dl, Fr Dl H → Pv Dl 0 (upd H Dl (.lst [])))
    (hl : ∀ Dl i H', Fr Dl H → Pv Dl i H' → SqT K H' a us)
    (hs : ∀ Dl, Fr Dl H → ∀ i x H1 T H', us[i]? = some x → Pv Dl i H1 → Fr T H1 → Same H1 H' → H' T = some (.tup [.int (i : Nat), x]) → g (.ref T) (wipe σ vs) H' fun σ2 H2 => wipe σ2 vs = wipe σ vs ∧ t σ2 H2 fun c H3 =>
      if c = true then te σ2 H3 fun y H4 => ∃ acc, H4 Dl = some (.lst acc) ∧ acc.length < sizeLine ∧ Pv Dl (i + 1) (upd H4 Dl (.lst (acc ++ [y]))) else Pv Dl (i + 1) H3)
    (hd : ∀ Dl H', Fr Dl H → Pv Dl us.length H' → Q (.ref Dl) H') : rLcET K g t te vs σ Q [.ref a] H := ⟨a, us, rfl, hx, fun Dl hD =>
  lc_it walkET (Pv Dl) (h0 Dl ⟨hD⟩) (fun i H' _ p => hl Dl i H' ⟨hD⟩ p) (fun i x H1 H' hi p y => by
    obtain ⟨T, u, v, rfl, hT, rfl, e1, e2⟩ := y
    cases Option.some.inj e1
    exact hs Dl ⟨hD⟩ i v H1 T _ e2 p ⟨hT⟩ (same_new hT) upd_same) (fun H' p => hd Dl H' ⟨hD⟩ p)⟩
end Xk
end
/-! dict comprehensions over a tuple -/
section
open PySem PySem.Spec PyProof.Rows L2
namespace Xk
variable {K : PySem.W.Frag} {σ : L2.St} {H : Hp} {Q : VK} {tk tv : TE} {g : TG} {t : TT}
def RDc (J : It) (g : TG) (tt : TT) (tk tv : TE) (vs : List Nat) (σ : L2.St) (Q : VK) : Hp → Prop := fun H1 => ∀ D, H1 D = none → ∃ W : Nat → Nat → Hp → Prop, (∃ m, W 0 m (upd H1 D (.dK []))) ∧ ∀ i m H, W i m H →
  (J.stop i H ∧ Q (.ref D) H) ∨ (J.go i H ∧ ∃ Nx : Hp → Prop, (∀ H', Nx H' → ∃ m', m' < m ∧ W (i + 1) m' H') ∧ ∀ x H', J.yld i H x H' → g x (wipe σ vs) H' fun σ2 H2 => wipe σ2 vs = wipe σ vs ∧ tt σ2 H2 fun b H3 =>
    if b = true then tk σ2 H3 fun y H4 => tv σ2 H4 fun z H5 => ∃ kvs k, y = kV k ∧ H5 D = some (.dK kvs) ∧ kvs.length < sizeLine ∧ Nx (upd H5 D (.dK (putK kvs k z))) else Nx H3)
def rDcT (K : PySem.W.Frag) (g : TG) (tt : TT) (tk tv : TE) (vs : List Nat) (σ : L2.St) (Q : VK) : VK := fun x H1 => ∃ a, x = .ref a ∧ (∃ xs, SqT K H1 a xs) ∧ RDc (Itt K a) g tt tk tv vs σ Q H1
theorem x_dcT1 {tx : TE} {vs : List Nat} (q : tx σ H (rDcT K g t tk tv vs σ Q)) : tDc (iTup K tx) g t tk tv vs σ H Q := q
theorem x_dcT {a : Addr} {xs : List V} {vs : List Nat} (Pv : Addr → Nat → Hp → Prop) (hx : SqT K H a xs) (h0 : ∀ Dl, Fr Dl H → Pv Dl 0 (upd H Dl (.dK []))) (hl : ∀ Dl i H', Fr Dl H → Pv Dl i H' → SqT K H' a xs)
    (hs : ∀ Dl, Fr Dl H → ∀ i x H', xs[i]? = some x → Pv Dl i H' → g x (wipe σ vs) H' fun σ2 H2 => wipe σ2 vs = wipe σ vs ∧ t σ2 H2 fun b H3 =>
      if b = true then tk σ2 H3 fun y H4 => tv σ2 H4 fun z H5 => ∃ kvs k, y = kV k ∧ H5 Dl = some (.dK kvs) ∧ kvs.length < sizeLine ∧ Pv Dl (i + 1) (upd H5 Dl (.dK (putK kvs k z))) else Pv Dl (i + 1) H3)
    (hd : ∀ Dl H', Fr Dl H → Pv Dl xs.length H' → Q (.ref Dl) H') : rDcT K g t tk tv vs σ Q (.ref a) H := ⟨a, rfl, ⟨xs, hx⟩, fun Dl hD =>
  dc_tup (xs := xs) (Pv Dl) (h0 Dl ⟨hD⟩) (fun i H' _ p => hl Dl i H' ⟨hD⟩ p) (fun i x H' hi p => hs Dl ⟨hD⟩ i x H' hi p) (fun H' p => hd Dl H' ⟨hD⟩ p)⟩
end Xk
end
namespace Xk
open PySem PySem.Spec PyProof.Rows L2
section
variable {X : Cx}
/-- sorted(xs) of a list of data of one shape -/
def rSortX (K : PySem.W.Frag) : List V → Hp → VK → Prop := fun vs H Q => ∃ (a : Addr) (bs : List (V × PyData)), vs = [V.ref a] ∧ SqL K H a (bs.map (·.1)) ∧ (∀ b ∈ bs, Dp K H b.1 b.2 ∧ b.2.depth ≤ 9) ∧
  PySem.W.AllAlike (bs.map (·.2)) ∧ PySem.W.Sortable (bs.map (·.2)) ∧ ∀ p, H p = none → Q (.ref p) (upd H p (.lst ((bs.mergeSort (PySem.W.dataLe false (·.2))).map (·.1))))
theorem eachV {R : Value → PyData → Prop} : ∀ {its : List Value} {bs : List (V × PyData)}, Vals (bs.map (·.1)) its → (∀ b ∈ bs, ∀ u, RelV b.1 u → R u b.2) → PySem.W.EachIs (fun u (b : V × PyData) => RelV b.1 u ∧ R u b.2) its bs
  | its, [], h, _ => by cases h; exact .nil
  | its, b :: r, h, hr => by
    cases h with
    | cons h1 h2 => exact .cons ⟨h1, hr b (List.mem_cons_self ..) _ h1⟩ (eachV h2 fun c hc => hr c (List.mem_cons_of_mem _ hc))
theorem eachB {R : Value → PyData → Prop} : ∀ {its : List Value} {bs : List (V × PyData)}, PySem.W.EachIs (fun u (b : V × PyData) => RelV b.1 u ∧ R u b.2) its bs → Vals (bs.map (·.1)) its
  | _, _, .nil => .nil
  | _, _, .cons h t => .cons h.1 (eachB t)
theorem k_sortX0 (hu : X.A.units + 64 < cLine) : CallR X (.builtin "sorted") (rSortX X.K) := by
  intro pins s σ H vs us Q I r h
  obtain ⟨a, bs, rfl, hs, hd, hal, hk, q⟩ := h
  obtain ⟨its, rv, hl, hz⟩ := I.list hs
  rw [Vals.ref1 r]
  have e := eachV (R := fun u d => ∃ as, Reads s.heap u d as) rv fun b hb u ru => Dp.reads I b.2 b.1 u (hd b hb).1 ru
  have hlen : bs.length ≤ sizeLine := by rw [List.length_map] at hz; exact hz
  refine PySem.W.sorted_data (enc := fun b : V × PyData => b.2) hl.isList e (e.mono fun _ _ h => h.2) hal hk hlen (fun b hb => ?_) fun out ho eo => ?_
  · have := (hd b hb).2
    omega
  · obtain ⟨ep, he'⟩ := PyProof.Rows.sortedAll_at s.heap its out.toArray
    have hlen2 : ((bs.mergeSort (PySem.W.dataLe false (·.2))).map (·.1)).length ≤ sizeLine := by rw [List.length_map, List.length_mergeSort]; exact hlen
    exact ⟨.ref _, upd H (s.heap.objs.size + 1) (.lst ((bs.mergeSort (PySem.W.dataLe false (·.2))).map (·.1))), I.laid (t' := s.toks) (fun _ _ => PyProof.Rows.sortedAll_old) (Nat.le_succ _) ⟨hlen2, out, ep, eachB (R := fun u d => ∃ as, Reads s.heap u d as) eo, he'⟩, rfl, q _ (I.hok.fresh (Nat.le_succ _))⟩
/-- data compared -/
def rLtD (K : PySem.W.Frag) : R2 := fun x y H Q => ∃ d e, Dp K H x d ∧ Dp K H y e ∧ PySem.W.alike d e = true ∧ d ≠ .none ∧ d.depth ≤ 60 ∧ Q (.bl (PySem.W.dataLt d e)) H
def rLeD (K : PySem.W.Frag) : R2 := fun x y H Q => ∃ d e, Dp K H x d ∧ Dp K H y e ∧ PySem.W.alike d e = true ∧ d ≠ .none ∧ d.depth ≤ 60 ∧ Q (.bl (!PySem.W.dataLt e d)) H
theorem k_ltD0 (hu : X.A.units + 64 < cLine) : OpR X (compareOp .Lt) (rLtD X.K) := by
  intro pins s σ H x y v u Q I rx ry h
  obtain ⟨d, e, hd, he, ha, hn, hz, q⟩ := h
  obtain ⟨as, r1⟩ := Dp.reads I d x v hd rx
  obtain ⟨bs, r2⟩ := Dp.reads I e y u he ry
  exact PySem.W.rcLt_alike d e X.A s v u as bs r1 r2 ha hn (by have := Nat.min_le_left d.depth e.depth; omega) X.prog X.w X.xe (EP X pins σ Q) ⟨.bl _, H, I, rfl, q⟩
theorem k_leD0 (hu : X.A.units + 64 < cLine) : OpR X (compareOp .LtE) (rLeD X.K) := by
  intro pins s σ H x y v u Q I rx ry h
  obtain ⟨d, e, hd, he, ha, hn, hz, q⟩ := h
  obtain ⟨as, r1⟩ := Dp.reads I d x v hd rx
  obtain ⟨bs, r2⟩ := Dp.reads I e y u he ry
  exact PySem.W.rcLe_alike d e X.A s v u as bs r1 r2 ha hn (by have := Nat.min_le_left d.depth e.depth; omega) X.prog X.w X.xe (EP X pins σ Q) ⟨.bl _, H, I, rfl, q⟩
theorem k_sortX {K : PySem.W.Frag} (hu : X.A.units + 64 < cLine) (e : X.K = K) : CallR X (.builtin "sorted") (rSortX K) := e ▸ k_sortX0 hu
theorem k_ltD {K : PySem.W.Frag} (hu : X.A.units + 64 < cLine) (e : X.K = K) : OpR X (compareOp .Lt) (rLtD K) := e ▸ k_ltD0 hu
theorem k_leD {K : PySem.W.Frag} (hu : X.A.units + 64 < cLine) (e : X.K = K) : OpR X (compareOp .LtE) (rLeD K) := e ▸ k_leD0 hu
end
end Xk

/-! dicts whose keys are tuples: setdefault, sorted -/
namespace Xk
open PySem PySem.Spec PyProof.Rows L2
section
variable {X : Cx} {pins : List (Addr × Obj)} {σ : L2.St} {H : Hp} {s : Shared} {a b : Addr} {r : Value} {d : V} {k : List Key} {A : Around} {E : Value → Shared → Prop}
theorem d_setdT {kvs : List (List Key × V)} {Q : Value → Shared → Prop} (hu : A.units + 1 < cLine) (I : Inv X pins σ H s) (e : H a = some (.dT kvs)) (eb : H b = some (.tup (k.map kV))) (rd : RelV d r) (hl : kvs.length < sizeLine)
    (h1 : ∀ v, valV kvs k = some v → ∀ (w' : Value) (s' : Shared), Inv X pins σ H s' → RelV v w' → Q w' s') (h2 : valV kvs k = none → ∀ (w' : Value) (s' : Shared), Inv X pins σ (upd H a (.dT (putK kvs k d))) s' → RelV d w' → Q w' s') :
    wpAny (model X.prog X.w) A (call (.builtin "dict.setdefault") [.ref a, .ref b, r]) Q E s := by
  obtain ⟨z, hd, xs, rel, dd⟩ := dt_of I.hok e
  have hz : xs.length ≤ sizeLine := by rw [← Paired.length rel]; exact z
  refine call_setdefault_heap (knd := tupleKind (mixKind X.prog X.w)) (hsz := hz) (tupleKind_room_in1 hu) (key_of I.hok eb) hd dd (fun p hp => ?_) fun hn h' dd' hs => ?_
  · have q := rel.val k
    rw [hp] at q
    cases q0 : valV kvs k with
    | none =>
      rw [q0] at q
      exact (show False from q).elim
    | some v0 =>
      rw [q0] at q
      exact h1 v0 q0 _ _ (I.tok _) q
  · have q := rel.val k
    rw [hn] at q
    cases q0 : valV kvs k with
    | some v0 =>
      rw [q0] at q
      exact (show False from q).elim
    | none =>
      have hl2 : (putK kvs k d).length ≤ sizeLine := by
        have := length_putK kvs k d
        omega
      obtain ⟨q, es, ep, hq, g2, g3, g4, _, g5⟩ := dd'
      refine h2 q0 _ _ (d_write I (by rw [e]; exact True.intro) hs ⟨q, hq⟩ ⟨hl2, hd, _, (rel.put k eb rd).keeps fun c ys ec => ?_, q, es, ep, hq, g2, g3, g4, g5⟩) rd
      rw [upd_ne (ne_of ec e (fun z => nomatch z))]
      exact ec
end
/-- d.setdefault(y, z), tuple keys -/
def rDSetT (a : Addr) (y z : V) (Q : VK) (H3 : Hp) : Prop := ∃ (kvs : List (List Key × V)) (k : List Key) (b : Addr), H3 a = some (.dT kvs) ∧ y = .ref b ∧ H3 b = some (.tup (k.map kV)) ∧ kvs.length < sizeLine ∧
  (∀ v, valV kvs k = some v → Q v H3) ∧ (valV kvs k = none → Q z (upd H3 a (.dT (putK kvs k z))))
def tDSetT (td ty tx : TE) : TE := fun σ H Q => td σ H fun x H1 => ∃ a kvs, x = .ref a ∧ H1 a = some (.dT kvs) ∧ ty σ H1 fun y H2 => tx σ H2 fun z H3 => rDSetT a y z Q H3
section
variable {X : Cx} {o e f : Expr} {td ty tx : TE} {apos cpos : Pos}
theorem pe_dsetT (hu : X.A.units + 1 < cLine) (ho : PE X o td) (he : PE X e ty) (hf : PE X f tx) (m : M2 X o "setdefault" apos e f cpos) : PE X (.Call (.Attribute o "setdefault" apos) [e, f] [] cpos) (tDSetT td ty tx) := by
  refine ⟨fun pins s σ H Q I h => ?_⟩
  refine wpAny_Call_method m.base m.few m.line PySem.F.plainAttrs_dict PySem.F.slot_dict_setdefault PySem.F.type_dict_setdefault (thn (ho.run pins s σ H _ I h) fun u s1 ⟨x, H1, I1, rx, a, kvs, ex, d, q1⟩ => ?_)
  subst ex
  obtain rfl : u = Value.ref a := rx
  have hty : s1.TypeIs (.ref a) "dict" := by
    obtain ⟨_, _, xs, _, dd⟩ := dt_of I1.hok d
    exact dd.typeIs
  have hnd : ∀ b, Value.ref a = .ref b → ∃ ob, s1.heap.get? b = some ob ∧ ob.dict = none := fun b q => by
    cases q
    obtain ⟨_, _, xs, _, ob, _, _, h1, h2, _⟩ := dt_of I1.hok d
    exact ⟨ob, h1, h2.2.1⟩
  refine ⟨hty, hnd, ?_⟩
  rw [m.trees]
  refine Calls.callWith_builtin rfl (Calls.evalArgs_plain (Calls.spliced_cons (thn (he.run pins s1 σ H1 _ I1 q1) fun iv s2 ⟨y, H2, I2, ry, q2⟩ =>
    Calls.spliced_cons (thn (hf.run pins s2 σ H2 _ I2 q2) fun fv s3 ⟨z, H3, I3, rz, kvs, k, b, ea, ey, eb, hl, q3, q4⟩ => Calls.spliced_nil ?_))))
  subst ey
  obtain rfl : iv = Value.ref b := ry
  exact d_setdT hu I3 ea eb rz hl (fun v hv w' s4 I4 rw' => ⟨v, _, I4, rw', q3 v hv⟩) fun hn w' s4 I4 rw' => ⟨z, _, I4, rw', q4 hn⟩
end
/-- sorted(d), the keys tuples of ints: the keys' own tuples, ascending -/
def rSortT (xs : List V) (H : Hp) (Q : VK) : Prop := ∃ (d : Addr) (kvs : List (List Key × V)) (ks : List (List Int)), xs = [.ref d] ∧ H d = some (.dT kvs) ∧ kvs.map (·.1) = ks.map (fun k => k.map Sum.inl) ∧ (∀ k ∈ ks, k ≠ []) ∧ ks.length ≤ 1000 ∧
  ∀ (p : Addr) (zs : List (Addr × List Int)), H p = none → (zs.map (·.2)).Perm ks → (zs.map (·.2)).Pairwise (· ≤ ·) → (∀ z ∈ zs, H z.1 = some (.tup (z.2.map V.int))) → Q (.ref p) (upd H p (.lst (zs.map fun z => V.ref z.1)))
theorem kt_list {H : Hp} : ∀ {kvs : List (List Key × V)} {ts : List (List Key × Addr × Value)} {ks : List (List Int)}, KT H kvs ts → kvs.map (·.1) = ks.map (fun k => k.map Sum.inl) →
    ∃ L : List (Addr × List Int), L.map (·.1) = ts.map (fun x => x.2.1) ∧ L.map (·.2) = ks ∧ ∀ e ∈ L, H e.1 = some (.tup (e.2.map V.int))
  | [], _, ks, r, e => by
    cases r
    cases ks with
    | nil => exact ⟨[], rfl, rfl, fun e he => by cases he⟩
    | cons k r => cases e
  | p :: kvs, _, ks, r, e => by
    cases ks with
    | nil => cases e
    | cons k ks =>
      rw [List.map_cons, List.map_cons] at e
      injection e with e1 e2
      cases r with
      | @cons _ q _ qs h t =>
        obtain ⟨L, h1, h2, h3⟩ := kt_list t e2
        refine ⟨(q.2.1, k) :: L, by rw [List.map_cons, List.map_cons, h1], by rw [List.map_cons, h2], fun x hx => ?_⟩
        rcases List.mem_cons.mp hx with rfl | hx
        · have z := h.2.1
          rw [e1, List.map_map] at z
          exact z
        · exact h3 x hx
theorem reads_ints {h : Heap} : ∀ {ns : List Int} {us : List Value}, Vals (ns.map V.int) us → ReadsAll h us (ns.map PyData.int) []
  | [], _, r => by
    cases r
    exact .nil
  | n :: ns, _, r => by
    cases r with
    | cons r1 r2 =>
      obtain ⟨t, rfl⟩ := r1
      exact ReadsAll.cons (Reads.int n t) (reads_ints r2)
theorem tup_dataLe (x : Addr × List Int → List Int) : PySem.W.dataLe false (fun b : Addr × List Int => PyData.tuple ((x b).map .int)) = fun p q => decide (x p ≤ x q) := by
  rw [PySem.W.dataLe_eq]
  funext p q
  show (!PySem.W.dataLt _ _) = _
  rw [PySem.W.dataLt_tuple]
  have h := PySem.W.dataLt_ints (x q) (x p)
  unfold PySem.W.rowLt at h
  rw [h, ← decide_not]
  exact decide_eq_decide.mpr List.not_lt
section
variable {X : Cx}
theorem k_sortT (hcalm : X.calm = true) (hu : X.A.units + 64 < cLine) : CallR X (.builtin "sorted") rSortT := by
  intro pins s σ H xs us Q I r h
  obtain ⟨d, kvs, ks, rfl, hd, hks, hne, hl, q⟩ := h
  obtain ⟨u, rfl, rx⟩ := vals1 r
  cases rx
  obtain ⟨z, hs, ts, pr, o, es, ep, ho, hx, hdt, he, hn⟩ := (show ObjOk X.prog X.w H s.heap d (.dT kvs) from I.hok d _ hd)
  have l1 : es.size = ts.length := size_of_entries he
  have l2 : kvs.length = ts.length := Paired.length pr
  obtain ⟨L, hL1, hL2, hL3⟩ := kt_list pr hks
  have lL : L.length = ts.length := by
    have z := congrArg List.length hL1
    rw [List.length_map, List.length_map] at z
    exact z
  have lk : L.length ≤ 1000 := by
    have z := congrArg List.length hL2
    rw [List.length_map] at z
    omega
  have h16 : es.size ≤ sizeLine := by rw [l1, ← lL, sizeLine_eq]; omega
  refine Calls.call_function_entry PyProof.Rows.kind_sorted PyProof.Rows.plain_sorted PyProof.Rows.entry_sorted (PyProof.Rows.args_sorted1 _) ?_
  unfold Builtin.«sorted»
  refine wpAny_bind (m := checkCount "sorted" 1 1 _) (wpAny_pure ?_)
  refine wpAny_bind (PySem.W.kdu_collect (A := X.A.in1) (kdl_raw hs hx hdt) (I.ok.hd hcalm) ho h16 fun h' tk acc hk hacc => ?_)
  have ea : acc.toList = L.map fun x => Value.ref x.1 := by
    have hl : acc.toList.length = ts.length := by rw [Array.length_toList, hacc.1]; exact l1
    have e2 : (L.map fun x => Value.ref x.1) = ts.map fun x => Value.ref x.2.1 := by
      have z := congrArg (List.map Value.ref) hL1
      rw [List.map_map, List.map_map] at z
      exact z
    rw [e2]
    apply List.ext_getElem?
    intro j
    rw [List.getElem?_map]
    cases hj : acc.toList[j]? with
    | none =>
      have h1 := List.getElem?_eq_none_iff.mp hj
      rw [List.getElem?_eq_none (by omega)]
      all_goals rfl
    | some v =>
      obtain ⟨en, hen, hv⟩ := hacc.2 j v (by rw [← Array.getElem?_toList]; exact hj)
      have qe := entry_at he j
      rw [hen] at qe
      cases hb : ts[j]? with
      | none =>
        rw [hb] at qe
        exact nomatch (show some en = none from qe)
      | some b =>
        rw [hb] at qe
        have e2 : en = entryOfKey (tupleKind (mixKind X.prog X.w)) b := Option.some.inj qe
        rw [hv, e2]
        all_goals rfl
  have I1 : Inv X pins σ H { s with heap := h', toks := tk } := I.kept hk
  have hal : acc.toList.length = L.length := by rw [ea, List.length_map]
  refine wpAny_bind (wpAny_newList ?_ (by rw [hal, sizeLine_eq]; omega))
  have hoL : (h'.push (seqObj "list" acc.toList.toArray 0)).get? h'.objs.size = some (seqObj "list" acc.toList.toArray 0) := Heap.get?_push_size _ rfl
  show wpAny _ _ _ _ _ { s with heap := h'.push (seqObj "list" acc.toList.toArray 0), toks := tk }
  have er : PySem.W.EachIs (fun (v : Value) (b : Addr × List Int) => v = .ref b.1 ∧ ∃ as, Reads (h'.push (seqObj "list" acc.toList.toArray 0)) v (PyData.tuple (b.2.map .int)) as ∧ h'.objs.size ∉ as) acc.toList L := by
    rw [ea]
    have key : ∀ M : List (Addr × List Int), (∀ e ∈ M, H e.1 = some (.tup (e.2.map V.int))) → PySem.W.EachIs (fun (v : Value) (b : Addr × List Int) => v = .ref b.1 ∧ ∃ as, Reads (h'.push (seqObj "list" (L.map fun x => Value.ref x.1).toArray 0)) v (PyData.tuple (b.2.map .int)) as ∧ h'.objs.size ∉ as) (M.map fun x => Value.ref x.1) M := by
      intro M
      induction M with
      | nil => exact fun _ => .nil
      | cons e M ih =>
        intro hM
        refine .cons ⟨rfl, [], ?_, List.not_mem_nil⟩ (ih fun x hx => hM x (List.mem_cons_of_mem _ hx))
        obtain ⟨_, its, r, o, h1, h2, n, h3⟩ := (show ObjOk X.prog X.w H h' e.1 (.tup (e.2.map V.int)) from I1.hok _ _ (hM e (List.mem_cons_self ..)))
        exact Reads.tuple (Heap.get?_push_of_some _ h1) h2 h3 (by simpa using reads_ints r)
    exact key L hL3
  have enc1 : PySem.W.AllAlike (L.map fun b => PyData.tuple (b.2.map .int)) := PySem.W.AllAlike.of fun b b' => by
    show PySem.W.alikeAll _ _ = true
    exact PySem.W.alike_ints _ _
  have enc2 : PySem.W.Sortable (L.map fun b => PyData.tuple (b.2.map .int)) := .inl fun d hd => by
    obtain ⟨b, hb, rfl⟩ := List.mem_map.mp hd
    have hb2 : b.2 ≠ [] := hne _ (by rw [← hL2]; exact List.mem_map_of_mem (f := fun e : Addr × List Int => e.2) hb)
    cases e : b.2 with
    | nil => exact absurd e hb2
    | cons x r => exact ⟨_, _, rfl⟩
  refine wpAny_bind (wpAny_holding (PySem.W.list_sort_data (s := { s with heap := h'.push (seqObj "list" acc.toList.toArray 0), toks := tk }) (R := fun (v : Value) (b : Addr × List Int) => v = .ref b.1) (enc := fun b => PyData.tuple (b.2.map .int)) hoL (er.mono fun _ _ h => h.1) (er.mono fun _ _ h => h.2) enc1 enc2 (by rw [sizeLine_eq]; omega) (fun b _ => ?_) fun out ho2 eo => ?_))
  · have : (PyData.tuple (b.2.map .int)).depth = 1 := by
      rw [PyData.depth, PySem.W.depth_ints]
    have hA : X.A.in1.units ≤ X.A.units + 2 := by
      show _ ≤ _
      first
        | exact Nat.le_refl _
        | exact Nat.le_succ _
        | simp [Around.in1]
        | omega
    omega
  · obtain ⟨e', he'⟩ := PyProof.Rows.sortedHeap_at (vs := acc.toList) (out := out.toArray) hoL
    rw [tup_dataLe] at eo
    have perm : (L.mergeSort fun p q => decide (p.2 ≤ q.2)).Perm L := List.mergeSort_perm ..
    have ev : out = (L.mergeSort fun p q => decide (p.2 ≤ q.2)).map fun x => Value.ref x.1 := by
      have key : ∀ {o : List Value} {M : List (Addr × List Int)}, PySem.W.EachIs (fun (v : Value) (b : Addr × List Int) => v = .ref b.1) o M → o = M.map fun x => Value.ref x.1 := fun e => by
        induction e with
        | nil => rfl
        | cons h t ih => rw [List.map_cons, ← ih, h]
      exact key eo
    have pw : (L.mergeSort fun p q => decide (p.2 ≤ q.2)).Pairwise fun p q => p.2 ≤ q.2 := by
      refine (List.pairwise_mergeSort (fun a b c h1 h2 => ?_) (fun a b => ?_) L).imp fun h => of_decide_eq_true h
      · exact decide_eq_true (List.le_trans (of_decide_eq_true h1) (of_decide_eq_true h2))
      · rw [Bool.or_eq_true]
        rcases List.le_total a.2 b.2 with h | h
        · exact .inl (decide_eq_true h)
        · exact .inr (decide_eq_true h)
    generalize (L.mergeSort fun p q => decide (p.2 ≤ q.2)) = zs at *
    have lz : (zs.map fun z => V.ref z.1).length ≤ sizeLine := by rw [List.length_map, perm.length_eq, sizeLine_eq]; omega
    have vz : Vals (zs.map fun z => V.ref z.1) out := by
      rw [ev]
      have key := vals_refs (zs.map fun z => z.1)
      rw [List.map_map, List.map_map] at key
      exact key
    refine wpAny_pure ⟨_, rfl, .ref h'.objs.size, upd H h'.objs.size (.lst (zs.map fun z => V.ref z.1)), I1.laid (t' := tk) (fun b u e => ?_) (Nat.le_refl _)
      (show ObjOk X.prog X.w _ _ _ (.lst (zs.map fun z => V.ref z.1)) from ⟨lz, out, e', vz, he'⟩), rfl, q _ zs (I1.hok.fresh (Nat.le_refl _)) (by rw [← hL2]; exact perm.map _) (by rw [List.pairwise_map]; exact pw) fun z hz => hL3 z (perm.mem_iff.mp hz)⟩
    have hb : b < h'.objs.size := Heap.lt_size e
    rw [PyProof.Rows.sortedHeap_old (Nat.ne_of_lt hb) (by rw [size_push']; exact Nat.lt_succ_of_lt hb)]
    exact Heap.get?_push_of_some _ e
end
/-! ### set(xs) of a list of ints -/
abbrev nset (w : World) : Obj := { cls := .type "set", dict := none, data := .set #[] 0 (.fresh 0 0 (!w.params.followText "set-order")) }
section
variable {P : Program} {w : World} {A : Around} {E : Value → Shared → Prop} {s : Shared}
theorem madeI {l : Addr} {items : Array Value} {xs : List Int} {Q : Value → Shared → Prop} (hh : A.handled = none) (hl : s.heap.IsList l items) (hi : IntsAre items.toList xs) (room : xs.length + 1 < scanBound)
    (q : ∀ (h' : Heap) (tk c : Nat), SetR w h' s.heap.objs.size (fun j => decide (j ∈ xs)) c → c ≤ xs.length → (∀ b o, s.heap.get? b = some o → h'.get? b = some o) → Q (.ref s.heap.objs.size) { s with heap := h', toks := tk }) :
    wpAny (model P w) A (call (.type "set") [.ref l]) Q E s := by
  have isz : items.size = xs.length := by rw [← IntsAre.length hi, Array.length_toList]
  obtain ⟨c, tl, hmro⟩ := PySem.F.called_set.mro
  have g1 := PySem.F.called_set.made
  have g2 := PySem.F.called_set.sub
  have g3 := PySem.F.called_set.notType
  have g4 := PySem.F.called_set.canCreate
  have g5 := PySem.F.typeCall_set_1 (.ref l)
  refine wpAny_call (codeAny_of_tree ?_)
  show wpAny _ _ (callAny (.type "set") _) _ _ _
  refine wpAny_pure ⟨Code.quiet_builtin _ (by decide +kernel), codeAny_builtin PySem.F.entry_type_call ?_⟩
  rw [Around.under_plain (weight_type_call_type "set" [.ref l] []) rfl]
  repeat (any_goals (first | assumption | wp_step))
  refine codeAny_mono (code_set_led1 (.ref l) (E := E) (Q₁ := fun ob s₁ => ob = .ref s.heap.objs.size ∧ s₁ = { s with heap := s.heap.push (nset w) }) ⟨rfl, rfl⟩) fun r s₁ hr => ?_
  cases r with
  | error e => exact hr
  | ok fl =>
    cases fl with
    | ret ob =>
      obtain ⟨rfl, rfl⟩ := hr
      have hS : (s.heap.push (nset w)).get? s.heap.objs.size = some (nset w) := Heap.get?_push_size _ rfl
      have hT : Shared.TypeIs { s with heap := s.heap.push (nset w) } (.ref s.heap.objs.size) "set" := ⟨_, hS, rfl⟩
      have g6 := PySem.F.called_set.init.lookup
      have g7 := PySem.F.called_set.init.bind (.ref s.heap.objs.size)
      repeat (any_goals (first | assumption | wp_step))
      refine codeAny_mono (codeAny_call_builtin (R := wants (fun r s₂ => r = .none ∧ ∃ h' tk c, s₂ = { s with heap := h', toks := tk } ∧ SetR w h' s.heap.objs.size (fun j => decide (j ∈ xs)) c ∧ c ≤ xs.length ∧ ∀ b o, s.heap.get? b = some o → h'.get? b = some o) E)
        PySem.F.called_set.init.plain PySem.F.entry_set_init (check_set_init_1 hT ?_)) fun r₂ s₂ hr₂ => ?_
      · obtain ⟨⟨ocls, odict, odata, oslots⟩, hol, hcl, nl, hdl⟩ := hl
        simp only at hcl hdl
        subst hcl hdl
        have hol2 : (s.heap.push (nset w)).get? l = some { cls := .type "list", dict := odict, data := .seq items nl, slots := oslots } := Heap.get?_push_of_some _ hol
        have t1 := PySem.F.sub_list_set
        have t2 := PySem.F.sub_list_frozenset
        have t3 : (Value.type "list" == Value.type "dict") = false := by decide
        have hl1 : (s.heap.push (nset w)).IsList l items := ⟨_, hol2, rfl, nl, rfl⟩
        unfold Builtin.«set.__init__» noKeywords Builtin.Frozenset.updateFrom
        generalize hPI : pyIter = PI
        wp_walk
        subst hPI
        refine wpAny_pyIter_list hl1 (wpAny_bind (wpAny_runValue ?_))
        have lS : l < s.heap.objs.size := Heap.lt_size hol
        have h3 : A.in1.in1.in1.handled = none := by simp [hh]
        have z1 : (s.heap.push (nset w)).objs.size = s.heap.objs.size + 1 := Heap.size_push ..
        have nI : l ≠ (s.heap.push (nset w)).objs.size := by
          rw [z1]
          exact Nat.ne_of_lt (Nat.lt_succ_of_lt lS)
        have nS : s.heap.objs.size ∉ [(s.heap.push (nset w)).objs.size, l] := by
          rw [z1]
          simp only [List.mem_cons, List.not_mem_nil, or_false, not_or]
          exact ⟨Nat.ne_of_lt (Nat.lt_succ_self _), Nat.ne_of_gt lS⟩
        have vl : ∀ (i : Nat) (v : Value), items[i]? = some v → ∃ z u, xs[i]? = some z ∧ v = .int z u := fun i v hv => by
          obtain ⟨u, e⟩ := PyProof.Rows.IntsAre.int_at hi i v (by rw [Array.getElem?_toList]; exact hv)
          have lt : i < xs.length := by
            obtain ⟨b, _⟩ := Array.getElem?_eq_some_iff.mp hv
            omega
          exact ⟨xs.getD i 0, u, by rw [List.getD_eq_getElem?_getD, List.getElem?_eq_getElem lt]; rfl, e⟩
        refine set_update_ints ((Walks.list h3 _ l nI items).toS) s.heap.objs.size nS xs isz (by omega) vl (items.size - 0) 0 _ (by omega) (Nat.zero_le _) ⟨⟨_, Heap.get?_push_size _ rfl, rfl, rfl⟩, (hl1.push _)⟩ ?hS0 ?hR
        case hS0 => exact ⟨0, Nat.le_refl 0, setR_new_at (Heap.get?_push_of_some _ hS)⟩
        case hR =>
          rintro ⟨h', g', d', tk', os'⟩ c mv r2 r1
          obtain rfl : g' = s.gens := mv.gens
          obtain rfl : d' = s.drawn := mv.drawn
          obtain rfl : os' = s.os := mv.os
          show wpAny _ _ _ _ _ _
          refine wpAny_pure (wpAny_pure ⟨rfl, h', tk', c, rfl, r1, isz ▸ r2, fun b o e => ?_⟩)
          have lb := Heap.lt_size e
          refine mv.heap b o ?_ (Heap.get?_push_of_some _ (Heap.get?_push_of_some _ e))
          simp only [List.mem_cons, List.not_mem_nil, or_false, not_or]
          exact ⟨Nat.ne_of_lt lb, by rw [z1]; exact Nat.ne_of_lt (Nat.lt_succ_of_lt lb)⟩
      · cases r₂ with
        | error e => exact hr₂
        | ok fl₂ =>
          cases fl₂ with
          | ret r =>
            obtain ⟨rfl, h', tk, c, rfl, r1, r2, r3⟩ := hr₂
            repeat (any_goals (first | assumption | wp_step))
            exact q _ _ _ r1 r2 r3
          | _ => exact hr₂.elim
    | _ => exact hr.elim
end
def rSetOfL (K : PySem.W.Frag) (w : World) : List V → Hp → VK → Prop := fun vs H Q => ∃ (p : Addr) (ns : List Int), vs = [V.ref p] ∧ SqL K H p (ns.map V.int) ∧ ns.length ≤ 1000 ∧ ∀ a n, H a = none → n ≤ ns.length → Q (.ref a) (upd H a (SetO w a (fun j => decide (j ∈ ns)) n))
theorem cr_setOfL {X : Cx} (hc : X.calm = true) : CallR X (.type "set") (rSetOfL X.K X.w) := by
  intro pins s σ H xs us Q I r h
  obtain ⟨p0, ns, rfl, hq, hl, q⟩ := h
  cases r with
  | cons r rr =>
    cases rr
    cases r
    obtain ⟨its, rv, pt, hz⟩ := I.list hq
    have hi : IntsAre its.toArray.toList ns := ints_of_vals rv
    refine madeI (I.ok.hd hc) pt.isList hi (by unfold scanBound; omega) fun h' tk c R1 hcn k => ?_
    exact ⟨.ref _, upd H s.heap.objs.size (SetO X.w s.heap.objs.size (fun j => decide (j ∈ ns)) c), I.laid (t' := tk) k (Nat.le_refl _) (setO_new R1), rfl, q _ _ (I.hok.fresh (Nat.le_refl _)) hcn⟩
theorem k_setOfL {X : Cx} {K : PySem.W.Frag} {w : World} (hc : X.calm = true) (e : X.K = K) (e' : X.w = w) : CallR X (.type "set") (rSetOfL K w) := e ▸ e' ▸ cr_setOfL hc
theorem x_setOfL {K : PySem.W.Frag} {H : Hp} {Q : VK} {w : World} {p : Addr} {ns : List Int} (h : SqL K H p (ns.map V.int)) (hl : ns.length ≤ 1000) (k : ∀ a H2 n, Fr a H → Same H H2 → H2 a = some (SetO w a (fun j => decide (j ∈ ns)) n) → n ≤ ns.length → Q (.ref a) H2) : rSetOfL K w [.ref p] H Q :=
  ⟨p, ns, rfl, h, hl, fun a n h1 h2 => k a _ n ⟨h1⟩ (same_new h1) upd_same h2⟩
/-! ### list(d.values()) -/
def tListVals (td : TE) : TE := fun σ H Q => td σ H fun x H1 => ∃ a kvs, x = V.ref a ∧ H1 a = some (.dK kvs) ∧ ∀ p, H1 p = none → Q (.ref p) (upd H1 p (.lst (kvs.map (·.2))))
theorem vals_kv : ∀ {kvs : List (L2.Key × V)} {vs : List (L2.Key × Value)}, KV kvs vs → Vals (kvs.map (·.2)) (vs.map (·.2))
  | [], _, r => by
    cases r
    exact .nil
  | p :: kvs, _, r => by
    cases r with
    | cons h t => exact .cons h.2 (vals_kv t)
section
variable {X : Cx} {o : Expr} {p pos apos mpos : Pos} {td : TE}
theorem pe_listVals (hc : X.calm = true) (hg : Gl X "list") (hm : X.mg "list" = none) (hd : PE X o td) (hbase : attributeBase o "values" X.env (eval o X.env) = eval o X.env := by rfl) (hline : (apos.endLine == mpos.line) = true := by rfl)
    (hse : starEach [Expr.Call (.Attribute o "values" apos) [] [] mpos] X.env = [(false, eval (Expr.Call (.Attribute o "values" apos) [] [] mpos) X.env)] := by rfl) :
    PE X (.Call (.Name "list" p) [.Call (.Attribute o "values" apos) [] [] mpos] [] pos) (tListVals td) := by
  refine ⟨fun pins s σ H Q I h => ?_⟩
  refine wpAny_Call_Name_kw (ld_blt I hg hm (u := .type "list") (by first | rfl | decide +kernel) ?_ (by first | decide +kernel | decide) (by first | decide +kernel | decide))
  rw [hse]
  refine PySem.callWith_type1 (wpAny_Call_method0_late hbase hline (thn (hd.run pins s σ H _ I h) fun v s1 ⟨x, H1, I1, r1, a, kvs, ex, ha, q⟩ => ?_))
  subst ex
  obtain rfl : v = Value.ref a := r1
  obtain ⟨hz, hsys, vs, rel, dof⟩ := dk_of I1.hok ha
  obtain ⟨ep, dat⟩ := dof.dictAt
  have dat' := dat
  obtain ⟨ob, es, ho, ex, hdat, hko, hpr, hnd⟩ := dat'
  refine ⟨"dict", "dict.values", PySem.F.plainAttrs_dict, PySem.F.slot_dict_values, PySem.F.type_dict_values, ⟨ob, ho, ex.1⟩, fun b e => ?_, Calls.callWith_builtin rfl (PySem.evalArgs_none ?_)⟩
  · cases e
    exact ⟨ob, ho, ex.2.1⟩
  refine call_meetsIn PySem.F.slot_dict_values ⟨ob, ho, ex.1⟩ PySem.F.entry_dict_values (PySem.F.args_dict_values_1 _) (meets_dict_values (mixKind X.prog X.w) a hsys) ⟨⟨vs, dof⟩, ?_⟩
  have k1 : ∀ b u, s1.heap.get? b = some u → (s1.heap.push { cls := .type "dict_values", data := .fields #[.ref a] }).get? b = some u := fun b u e => Heap.get?_push_of_some _ e
  have dat1 : (s1.heap.push { cls := .type "dict_values", data := .fields #[.ref a] }).DictAt (mixKind X.prog X.w) a vs ep := dat.keep k1
  have hlv : vs.length = kvs.length := (KV.length rel).symm
  have hlt : a < s1.heap.objs.size := Heap.lt_size ho
  refine PySem.W.kdl_call (s := { s1 with heap := s1.heap.push { cls := .type "dict_values", data := .fields #[.ref a] } }) (PySem.W.kdl_values (knd := mixKind X.prog X.w) (r := s1.heap.objs.size) (d := a) (kvs := vs) (ep := ep)) (I.ok.hd hc) ⟨⟨_, Heap.get?_push_size _ rfl, rfl, rfl⟩, dat1⟩ (by rw [hlv]; exact hz) fun h' tk acc' c' kp e it => ?_
  have ea : acc'.toList = vs.map (·.2) := by
    have hl : acc'.toList.length = vs.length := by rw [Array.length_toList, it.1]
    apply List.ext_getElem?
    intro j
    rw [List.getElem?_map]
    cases hj : acc'.toList[j]? with
    | none =>
      have h1 := List.getElem?_eq_none_iff.mp hj
      rw [List.getElem?_eq_none (by omega)]
      rfl
    | some v =>
      obtain ⟨k, hk⟩ := it.2 j v (by rw [← Array.getElem?_toList]; exact hj)
      rw [hk]
      rfl
  have hsz : (s1.heap.push { cls := .type "dict_values", data := .fields #[.ref a] }).objs.size = s1.heap.objs.size + 1 := Heap.size_push _ _
  have rv : Vals (kvs.map (·.2)) acc'.toList := by
    rw [ea]
    exact vals_kv rel
  refine ⟨.ref _, upd H1 (s1.heap.push { cls := .type "dict_values", data := .fields #[.ref a] }).objs.size (.lst (kvs.map (·.2))), I1.laid (t' := tk) (fun b u e => kp b u (k1 b u e)) (by rw [hsz]; exact Nat.le_succ _) ⟨by rw [List.length_map]; exact hz, acc'.toList, c', rv, by rw [Array.toArray_toList]; exact e⟩, rfl, q _ (I1.hok.fresh (by rw [hsz]; exact Nat.le_succ _))⟩
end
end Xk

namespace Xk
open PySem PySem.Spec PyProof.Rows L2
section
variable {X : Cx}
/-- max(xs) of a list of data of one shape, not empty: an item whose data is the greatest -/
def rMaxX (K : PySem.W.Frag) : List V → Hp → VK → Prop := fun vs H Q => ∃ (a : Addr) (b : V × PyData) (bs : List (V × PyData)), vs = [V.ref a] ∧ SqL K H a ((b :: bs).map (·.1)) ∧ (∀ c ∈ b :: bs, Dp K H c.1 c.2 ∧ c.2.depth ≤ 9) ∧
  PySem.W.AlikeAll ((b :: bs).map (·.2)) ∧ ∀ c ∈ b :: bs, c.2 = PySem.W.maxD b.2 (bs.map (·.2)) → Q c.1 H
theorem readsAll_of {h : Heap} : ∀ {its : List Value} {bs : List (V × PyData)}, PySem.W.EachIs (fun u (b : V × PyData) => RelV b.1 u ∧ ∃ as, Reads h u b.2 as) its bs → ∃ as, ReadsAll h its (bs.map (·.2)) as
  | _, _, .nil => ⟨_, .nil⟩
  | _, _, .cons h t => by
    obtain ⟨_, _, r⟩ := h
    obtain ⟨_, rs⟩ := readsAll_of t
    exact ⟨_, .cons r rs⟩
theorem each_at {R : Value → V × PyData → Prop} : ∀ {its : List Value} {bs : List (V × PyData)} {i : Nat} {u : Value}, PySem.W.EachIs R its bs → its[i]? = some u → ∃ b ∈ bs, R u b
  | _, _, _, _, .nil, e => by cases e
  | _, _, 0, _, .cons h _, e => ⟨_, List.mem_cons_self .., Option.some.inj (show some _ = some _ from e) ▸ h⟩
  | _, _, i + 1, _, .cons _ t, e => by
    obtain ⟨b, hb, r⟩ := each_at (i := i) t (by simpa using e)
    exact ⟨b, List.mem_cons_of_mem _ hb, r⟩
theorem depth9 : ∀ {bs : List (V × PyData)}, (∀ c ∈ bs, c.2.depth ≤ 9) → PyData.depthAll (bs.map (·.2)) ≤ 9
  | [], _ => Nat.zero_le _
  | b :: r, h => Nat.max_le.mpr ⟨h b (List.mem_cons_self ..), depth9 fun c hc => h c (List.mem_cons_of_mem _ hc)⟩
theorem k_maxX0 (hc : X.calm = true) (hu : X.A.units + 64 < cLine) : CallR X (.builtin "max") (rMaxX X.K) := by
  intro pins s σ H vs us Q I r h
  obtain ⟨a, b, bs, rfl, hs, hd, hal, q⟩ := h
  obtain ⟨its, rv, hl, hz⟩ := I.list hs
  rw [Vals.ref1 r]
  have e := eachV (R := fun u d => ∃ as, Reads s.heap u d as) rv fun c hc u ru => Dp.reads I c.2 c.1 u (hd c hc).1 ru
  obtain ⟨as, ra⟩ := readsAll_of e
  have dp := depth9 fun c hc => (hd c hc).2
  refine PySem.W.max_list_data (I.ok.hd hc) hl.isList (x := b.2) (xs := bs.map fun c : V × PyData => c.2) (as := as) (by simpa using ra) hal (by have dp' : PyData.depthAll (b.2 :: bs.map (·.2)) ≤ 9 := dp; omega) fun i v h' tk bs' hv rd hk => ?_
  obtain ⟨c, hc', r1, as1, r2⟩ := each_at e (by simpa using hv)
  have ed := (PyProof.Rows.reads_det (fun b o e _ => hk b o e) r2 rd).1
  exact ⟨c.1, H, I.kept hk, r1, q c hc' ed.symm⟩
theorem k_maxX {K : PySem.W.Frag} (hc : X.calm = true) (hu : X.A.units + 64 < cLine) (e : X.K = K) : CallR X (.builtin "max") (rMaxX K) := e ▸ k_maxX0 hc hu
theorem k_slT {K : PySem.W.Frag} (e : X.K = K) : SlR X (rSlA K) := e ▸ sl_tupA
theorem k_catT {K : PySem.W.Frag} (e : X.K = K) : OpR X (binaryOp .Add) (rCatA K) := e ▸ op_catA
end
end Xk


local macro_rules | `(tactic| wtm_at "key") => `(tactic| (first | assumption | exact rfl | fail "key"))
local macro_rules | `(tactic| wtm_at "few") => `(tactic| (first | assumption | exact Nat.le_of_ble_eq_true rfl | fail "few"))
local macro_rules | `(tactic| wtm_at "cls") => `(tactic| (first | assumption | fail "cls"))
local macro_rules | `(tactic| wtm_at "neq") => `(tactic| (first | assumption | exact Ne.symm (by assumption) | exact Xk.ne_new (by assumption) (by wtm_at "hx") | exact (Xk.ne_new (by assumption) (by wtm_at "hx")).symm | fail "neq"))
local macro_rules | `(tactic| wtm_at "hx") => `(tactic| (first | assumption | exact L2.upd_same | ((refine' (L2.upd_ne ?un).trans ?uh); (case un => wtm_at "neq"); (case uh => wtm_at "hx")) | ((refine' Xk.same_at ?ue ?uh); (case ue => assumption); (case uh => wtm_at "hx")) | ((refine' Xk.but_at ?ue ?un ?uh); (case ue => assumption); (case un => wtm_at "neq"); (case uh => wtm_at "hx")) | fail "hx"))
local macro_rules | `(tactic| wtm_at "free") => `(tactic| (first | assumption | ((refine' Xk.free_back ?uh ?ue); (case uh => assumption); (case ue => wtm_at "sm")) | ((refine' Xk.free_back ?uh ?ue); (case uh => (refine' Xk.fr_upd ?uf; case uf => assumption)); (case ue => wtm_at "sm")) | fail "free"))
local macro_rules | `(tactic| wtm_at "sm") => `(tactic| (first | assumption | exact L2.Same.refl _ | ((refine' Xk.same_mut ?ue ?uh); (case ue => wtm_at "sm"); (case uh => wtm_at "free")) | ((refine' L2.Same.trans ?ue ?uh); (case uh => assumption); (case ue => wtm_at "sm")) | ((refine' Xk.same_but ?ue ?uh ?us); (case ue => assumption); (case uh => wtm_at "free"); (case us => wtm_at "sm")) | fail "sm"))
local macro_rules | `(tactic| wtm_at "bm") => `(tactic| (first | assumption | exact Xk.But.refl _ _ | ((refine' Xk.but_mut ?ue); (case ue => wtm_at "bm")) | ((refine' Xk.but_new ?ue ?uh); (case ue => wtm_at "bm"); (case uh => wtm_at "free")) | ((refine' Xk.but_trans ?ue ?uh); (case uh => assumption); (case ue => wtm_at "bm")) | ((refine' Xk.but_trans ?ue (Xk.but_same ?uh)); (case uh => assumption); (case ue => wtm_at "bm")) | fail "bm"))
local macro_rules | `(tactic| wtm_at "sq") => `(tactic| (first | assumption | exact Xk.sq_of (by wtm_at "hx") | ((refine' Xk.sq_same ?uh ?ue); (case uh => assumption); (case ue => wtm_at "sm")) | fail "sq"))
local macro_rules | `(tactic| wtm_at "st") => `(tactic| (first | assumption | exact Xk.st_of (by wtm_at "hx") | ((refine' Xk.st_same ?uh ?ue); (case uh => assumption); (case ue => wtm_at "sm")) | fail "st"))
local macro_rules | `(tactic| wtm_at "side") => `(tactic| (first | assumption | decide | omega | (refine Or.inr ?_; omega) | (refine Or.inl ?_; omega) | (refine ⟨?_, ?_⟩ <;> omega) | (refine ⟨?_, ?_, ?_⟩ <;> first | omega | decide) | fail "side"))
local macro_rules | `(tactic| wtm_at "len") => `(tactic| (first | omega | (simp only [List.length_map, List.length_append, List.length_cons, List.length_nil, List.length_set, List.length_replicate] at *; omega) | exact Nat.le_of_ble_eq_true rfl | fail "len"))
local macro_rules | `(tactic| wtm_at "x") => `(tactic| (first
  | ((with_reducible refine' Xk.x_var ?a1 ?_); (case a1 => exact rfl))
  | (with_reducible refine Xk.x_c ?_)
  | (with_reducible refine Xk.x_op ?_)
  | (with_reducible refine Xk.x_I0 ?_)
  | ((with_reducible refine' Xk.x_I ?a1 ?_); (case a1 => wtm_at "side"))
  | (with_reducible refine Xk.x_cons ?_)
  | (with_reducible refine Xk.x_nil ?_)
  | (with_reducible refine Xk.x_cb ?_)
  | (with_reducible refine Xk.x_call ?_)
  | (with_reducible refine Xk.x_sasg ?_)
  | (with_reducible refine Xk.x_asg ?_)
  | (with_reducible refine Xk.x_ret ?_)
  | (with_reducible refine Xk.x_test ?_)
  | (with_reducible refine Xk.x_bl ?_)
  | (with_reducible refine Xk.x_isI ?_)
  | (with_reducible refine Xk.x_sif ?_)
  | (with_reducible refine Xk.x_ifS ?_)
  | (with_reducible refine Xk.x_and ?_)
  | (with_reducible refine Xk.x_or ?_)
  | (with_reducible refine Xk.x_not ?_)
  | (with_reducible refine Xk.x_B ?_)
  | (with_reducible refine Xk.x_nInt ?_)
  | (with_reducible refine Xk.x_nIntB ?_)
  | ((with_reducible refine' Xk.x_lenL ?a1 ?_); (case a1 => wtm_at "sq"))
  | ((with_reducible refine' Xk.x_lenT ?a1 ?_); (case a1 => wtm_at "st"))
  | (with_reducible refine Xk.x_un ?_)
  | (with_reducible refine Xk.x_U ?_)
  | ((with_reducible refine' Xk.x_eq ?a1 ?_); (case a1 => exact rfl))
  | ((with_reducible refine' Xk.x_ne ?a1 ?_); (case a1 => exact rfl))
  | ((with_reducible refine' Xk.x_ixL ?a1 ?a2 ?_); (case a1 => wtm_at "sq"); (case a2 => first | exact rfl | assumption | exact Xk.at_nat rfl (Xk.map_at (by assumption)) | exact Xk.at_nat rfl (by assumption)))
  | ((with_reducible refine' Xk.x_ixT ?a1 ?a2 ?_); (case a1 => wtm_at "st"); (case a2 => first | exact rfl | assumption | exact Xk.at_nat rfl (Xk.map_at (by assumption)) | exact Xk.at_nat rfl (by assumption)))
  | (with_reducible refine Xk.x_lst ?_)
  | (with_reducible refine Xk.x_tup ?_)
  | ((with_reducible refine' Xk.x_new ?a1 ?_); (case a1 => wtm_at "len"))
  | ((with_reducible refine' Xk.x_listL ?a1 ?_); (case a1 => wtm_at "sq"))
  | ((with_reducible refine' Xk.x_listT ?a1 ?_); (case a1 => wtm_at "st"))
  | ((with_reducible refine' Xk.x_tupleL ?a1 ?_); (case a1 => wtm_at "sq"))
  | ((with_reducible refine' Xk.x_tupleT ?a1 ?_); (case a1 => wtm_at "st"))
  | (with_reducible refine Xk.x_seq ?_)
  | (with_reducible refine Xk.x_next ?_)
  | (with_reducible refine Xk.x_sdrop ?_)
  | (with_reducible refine Xk.x_drop ?_)
  | (with_reducible refine Xk.x_bm ?_)
  | (with_reducible refine Xk.x_bm0 ?_)
  | ((with_reducible refine' Xk.x_tyL ?a1 ?_); (case a1 => wtm_at "sq"))
  | ((with_reducible refine' Xk.x_app ?a1 ?a2 ?_); (case a1 => wtm_at "hx"); (case a2 => wtm_at "len"))
  | (with_reducible refine Xk.x_sasgG ?_)
  | (with_reducible refine Xk.x_asgG ?_)
  | (with_reducible refine Xk.x_gName ?_)
  | ((with_reducible refine' Xk.x_gTup ?a1 ?a2 ?_); (case a1 => wtm_at "st"); (case a2 => exact rfl))
  | ((with_reducible refine' Xk.x_gLst ?a1 ?a2 ?_); (case a1 => wtm_at "sq"); (case a2 => exact rfl))
  | (with_reducible refine Xk.x_gCons ?_)
  | (with_reducible refine Xk.x_gNil ?_)
  | (with_reducible refine Xk.x_gSub ?_)
  | (with_reducible refine Xk.x_if ?_)
  | (with_reducible refine Xk.x_andV ?_)
  | (with_reducible refine Xk.x_orV ?_)
  | (with_reducible refine Xk.x_notV ?_)
  | (with_reducible refine Xk.x_chain ?_)
  | (with_reducible refine Xk.x_yes ?_)
  | (with_reducible refine Xk.x_sl ?_)
  | (with_reducible refine Xk.x_nopart ?_)
  | (with_reducible refine Xk.x_part ?_)
  | ((with_reducible refine' Xk.x_slL ?a1 ?_); (case a1 => wtm_at "sq"))
  | ((with_reducible refine' Xk.x_saug ?a1 ?_); (case a1 => exact rfl))
  | ((with_reducible refine' Xk.x_aug ?a1 ?_); (case a1 => exact rfl))
  | (with_reducible refine Xk.x_ipI ?_)
  | ((with_reducible refine' Xk.x_isiInt ?a1 ?_); (case a1 => first | exact Xk.kit_T (by decide +kernel) | exact Xk.kit_F (by decide +kernel)))
  | ((with_reducible refine' Xk.x_isiBl ?a1 ?_); (case a1 => first | exact Xk.kit_T (by decide +kernel) | exact Xk.kit_F (by decide +kernel)))
  | ((with_reducible refine' Xk.x_isiStr ?a1 ?_); (case a1 => first | exact Xk.kit_T (by decide +kernel) | exact Xk.kit_F (by decide +kernel)))
  | ((with_reducible refine' Xk.x_isiNon ?a1 ?_); (case a1 => first | exact Xk.kit_T (by decide +kernel) | exact Xk.kit_F (by decide +kernel)))
  | ((with_reducible refine' Xk.x_isiLst ?a1 ?a2 ?_); (case a1 => wtm_at "hx"); (case a2 => first | exact Xk.kit_T (by decide +kernel) | exact Xk.kit_F (by decide +kernel)))
  | ((with_reducible refine' Xk.x_isiTup ?a1 ?a2 ?_); (case a1 => wtm_at "hx"); (case a2 => first | exact Xk.kit_T (by decide +kernel) | exact Xk.kit_F (by decide +kernel)))
  | (with_reducible refine Xk.x_forR1 ?_)
  | (with_reducible refine Xk.x_forL1 ?_)
  | (with_reducible refine Xk.x_forT1 ?_)
  | (with_reducible refine Xk.x_brk ?_)
  | (with_reducible refine Xk.x_ct ?_)
  | (with_reducible refine Xk.x_retN ?_)
  | (with_reducible refine Xk.x_lcL1 ?_)
  | (with_reducible refine Xk.x_lcT1 ?_)
  | (with_reducible refine Xk.x_lcR1 ?_)
  | (with_reducible refine Xk.x_lcE1 ?_)
  | (with_reducible refine Xk.x_nocutW ?_)
  | (with_reducible refine Xk.x_nIsN ?_)
  | (with_reducible refine Xk.x_nNotN ?_)
  | (with_reducible refine Xk.x_and255 ?_)
  | (with_reducible refine Xk.x_wT ?_)
  | (with_reducible refine Xk.x_wF ?_)
  | (with_reducible refine Xk.x_lstRg ?_)
  | (with_reducible refine Xk.x_rg1 ?_)
  | ((with_reducible refine' Xk.x_nRg ?a1 ?_); (case a1 => omega))
  | (with_reducible refine L2.iteT ?_)
  | (with_reducible refine L2.iteF ?_)
  | (with_reducible refine Xk.x_nT ?_)
  | (with_reducible refine Xk.x_nF ?_)
  | ((with_reducible refine' Xk.x_dY ?a1 ?_); (case a1 => first | exact rfl | assumption | omega))
  | ((with_reducible refine' Xk.x_dN ?a1 ?_); (case a1 => first | assumption | omega | (intro z; cases z; done)))
  | ((with_reducible refine' Xk.x_ndY ?a1 ?_); (case a1 => first | exact rfl | assumption | omega))
  | ((with_reducible refine' Xk.x_ndN ?a1 ?_); (case a1 => first | assumption | omega | (intro z; cases z; done)))
  | (with_reducible refine Xk.x_lc2 ?_)
  | (with_reducible refine Xk.x_fld1 ?_)
  | ((with_reducible refine' Xk.x_rFld ?a1 ?a2 ?a3 ?a4 ?_); (case a1 => wtm_at "hx"); (case a2 => wtm_at "cls"); (case a3 => wtm_at "cls"); (case a4 => exact rfl))
  | (with_reducible refine Xk.x_ssfld ?_)
  | (with_reducible refine Xk.x_sfld ?_)
  | ((with_reducible refine' Xk.x_rSetF ?a1 ?a2 ?a3 ?a4 ?_); (case a1 => wtm_at "hx"); (case a2 => wtm_at "cls"); (case a3 => wtm_at "cls"); (case a4 => exact Nat.le_of_ble_eq_true rfl))
  | (with_reducible refine Xk.x_prop ?_)
  | ((with_reducible refine' Xk.x_rProp ?a1 ?_); (case a1 => wtm_at "hx"))
  | (with_reducible refine Xk.x_meth ?_)
  | ((with_reducible refine' Xk.x_rMeth ?a1 ?a2 ?_); (case a1 => wtm_at "hx"); (case a2 => exact rfl))
  | (with_reducible refine Xk.x_make ?_)
  | (with_reducible refine Xk.x_sdelT ?_)
  | (with_reducible refine Xk.x_delT ?_)
  | (with_reducible refine Xk.x_nMax2 ?_)
  | (with_reducible refine Xk.x_nMin2 ?_)
  | ((with_reducible refine' Xk.x_nRepS ?a1 ?a2 ?_); (case a1 => wtm_at "side"); (case a2 => decide))
  | (with_reducible refine Xk.x_inS ?_)
  | (with_reducible refine Xk.x_notInS ?_)
  | ((with_reducible refine' Xk.x_nAddS ?a1 ?_); (case a1 => wtm_at "len"))
  | ((with_reducible refine' Xk.x_nLenS ?a1 ?_); (case a1 => wtm_at "len"))
  | ((with_reducible refine' Xk.x_slS ?a1 ?_); (case a1 => wtm_at "len"))
  | (with_reducible refine Xk.x_lcS1 ?_)
  | (with_reducible refine Xk.x_forS1 ?_)
  | (with_reducible refine Xk.x_ord ?_)
  | (with_reducible refine Xk.x_dget1 ?_)
  | ((with_reducible refine' Xk.x_rGetD ?a1 ?_); (case a1 => wtm_at "hx"))
  | ((with_reducible refine' Xk.x_rGet1 ?a1 ?_); (case a1 => wtm_at "hx"))
  | (with_reducible refine Xk.x_dget2 ?_)
  | ((with_reducible refine' Xk.x_rGetE ?a1 ?_); (case a1 => wtm_at "hx"))
  | ((with_reducible refine' Xk.x_rGet2 ?a1 ?_); (case a1 => wtm_at "hx"))
  | (with_reducible refine Xk.x_dpop1 ?_)
  | ((with_reducible refine' Xk.x_rPopD ?a1 ?_); (case a1 => wtm_at "hx"))
  | (with_reducible refine Xk.x_dpop2 ?_)
  | ((with_reducible refine' Xk.x_rPopE ?a1 ?_); (case a1 => wtm_at "hx"))
  | (with_reducible refine Xk.x_din ?_)
  | ((with_reducible refine' Xk.x_rDInK ?a1 ?_); (case a1 => wtm_at "hx"))
  | (with_reducible refine Xk.x_dnew ?_)
  | (with_reducible refine Xk.x_notBl ?_)
  | (with_reducible refine Xk.x_isBl ?_)
  | (with_reducible refine Xk.x_dget ?_)
  | ((with_reducible refine' Xk.x_rDG ?a1 ?a2 ?_); (case a1 => wtm_at "hx"); (case a2 => wtm_at "key"))
  | (with_reducible refine Xk.x_sdput ?_)
  | (with_reducible refine Xk.x_dput ?_)
  | ((with_reducible refine' Xk.x_rDP ?a1 ?a2 ?a3 ?_); (case a1 => wtm_at "hx"); (case a2 => wtm_at "few"); (case a3 => wtm_at "key"))
  | (with_reducible refine Xk.x_pcons ?_)
  | (with_reducible refine Xk.x_pnil ?_)
  | (with_reducible refine Xk.x_forRev1 ?_)
  | (with_reducible refine Xk.x_forR2 ?_)
  | ((with_reducible refine' Xk.x_geP ?a1 ?a2 ?_); (case a1 => wtm_at "st"); (case a2 => wtm_at "st"))
  | ((with_reducible refine' Xk.x_ltP ?a1 ?a2 ?_); (case a1 => wtm_at "st"); (case a2 => wtm_at "st"))
  | (with_reducible refine Xk.x_lcZ1 ?_)
  | (with_reducible refine Xk.x_lcET1 ?_)
  | (with_reducible refine Xk.x_dcT1 ?_)
  | (with_reducible refine Xk.x_nLtS ?_)
  | (with_reducible refine Xk.x_nLeS ?_)
  | (with_reducible refine Xk.x_nGeS ?_)
  | (with_reducible refine Xk.x_spar ?_)
  | (with_reducible refine Xk.x_par ?_)
  | (with_reducible refine Xk.x_rPar ?_)
  | (with_reducible refine Xk.x_gSubSl ?_)
  | fail "x"))
local macro_rules | `(tactic| wtm_at "xs") => `(tactic| ((repeat wtm_at "x"); try dsimp only [L2.wipe, List.set, List.append_nil, List.cons_append, List.nil_append]))
local macro_rules | `(tactic| wtm_at "x0") => `(tactic| (dsimp only [L2.cxOf, L2.start, List.map, List.length, List.replicate, Nat.reduceAdd, Nat.reduceSub, List.cons_append, List.nil_append]))
local macro_rules | `(tactic| wtm_at "xc") => `(tactic| (dsimp only [L2.wipe, List.set, List.append_nil, List.cons_append, List.nil_append]))

namespace K47
open PySem PySem.Spec PyProof.Rows L2
def topS (i : Nat) : Stmt := PySem.Challenge.pw_crosskeep_k47_a_tally.main.body.getD i (.Pass ⟨0, 0, 0, 0⟩)
abbrev s_members_of_slot : Stmt := topS 2
abbrev N_members_of_slot : List Str := ["first_members", "row", "slot", "place", "word", "told"]
theorem sc_members_of_slot : FnScope ["first_members", "row", "slot", "place", "word", "told"] ["first_members", "row", "slot"] (defScope s_members_of_slot) := ⟨rfl, rfl, rfl, by decide +kernel, rfl, by decide +kernel, by decide +kernel⟩
abbrev s_more_than_half : Stmt := topS 4
abbrev N_more_than_half : List Str := ["members", "indexes", "member"]
theorem sc_more_than_half : FnScope ["members", "indexes", "member"] ["members", "indexes"] (defScope s_more_than_half) := ⟨rfl, rfl, rfl, by decide +kernel, rfl, by decide +kernel, by decide +kernel⟩
abbrev s_choice_of : Stmt := topS 6
abbrev N_choice_of : List Str := ["members", "votes", "grounds"]
theorem sc_choice_of : FnScope ["members", "votes", "grounds"] ["members", "votes"] (defScope s_choice_of) := ⟨rfl, rfl, rfl, by decide +kernel, rfl, by decide +kernel, by decide +kernel⟩
abbrev s_grounds_of : Stmt := topS 7
abbrev N_grounds_of : List Str := ["members", "votes", "told", "ballot", "_", "entry", "voters", "index", "other"]
theorem sc_grounds_of : FnScope ["members", "votes", "told", "ballot", "_", "entry", "voters", "index", "other"] ["members", "votes"] (defScope s_grounds_of) := ⟨rfl, rfl, rfl, by decide +kernel, rfl, by decide +kernel, by decide +kernel⟩
abbrev s__by_ballot : Stmt := topS 8
abbrev N__by_ballot : List Str := ["members", "votes", "told", "index", "ballot", "entry"]
theorem sc__by_ballot : FnScope ["members", "votes", "told", "index", "ballot", "entry"] ["members", "votes"] (defScope s__by_ballot) := ⟨rfl, rfl, rfl, by decide +kernel, rfl, by decide +kernel, by decide +kernel⟩
abbrev s_Tally___init__ : Stmt := inClass (topS 10) 0
abbrev N_Tally___init__ : List Str := ["self", "first_members"]
theorem sc_Tally___init__ : FnScope ["self", "first_members"] ["self", "first_members"] (defScope s_Tally___init__) := ⟨rfl, rfl, rfl, by decide +kernel, rfl, by decide +kernel, by decide +kernel⟩
abbrev s_Tally_add : Stmt := inClass (topS 10) 1
abbrev N_Tally_add : List Str := ["self", "slot", "index", "ballot", "entry", "before"]
theorem sc_Tally_add : FnScope ["self", "slot", "index", "ballot", "entry", "before"] ["self", "slot", "index", "ballot", "entry"] (defScope s_Tally_add) := ⟨rfl, rfl, rfl, by decide +kernel, rfl, by decide +kernel, by decide +kernel⟩
abbrev s_Tally__count : Stmt := inClass (topS 10) 2
abbrev N_Tally__count : List Str := ["self", "entry"]
theorem sc_Tally__count : FnScope ["self", "entry"] ["self"] (defScope s_Tally__count) := ⟨rfl, rfl, rfl, by decide +kernel, rfl, by decide +kernel, by decide +kernel⟩
abbrev s_Tally__next_choice : Stmt := inClass (topS 10) 3
abbrev N_Tally__next_choice : List Str := ["self", "slot"]
theorem sc_Tally__next_choice : FnScope ["self", "slot"] ["self"] (defScope s_Tally__next_choice) := ⟨rfl, rfl, rfl, by decide +kernel, rfl, by decide +kernel, by decide +kernel⟩
abbrev s_Tally_members_of : Stmt := inClass (topS 10) 4
abbrev N_Tally_members_of : List Str := ["self", "slot"]
theorem sc_Tally_members_of : FnScope ["self", "slot"] ["self", "slot"] (defScope s_Tally_members_of) := ⟨rfl, rfl, rfl, by decide +kernel, rfl, by decide +kernel, by decide +kernel⟩
abbrev s_Tally_votes_of : Stmt := inClass (topS 10) 5
abbrev N_Tally_votes_of : List Str := ["self", "slot"]
theorem sc_Tally_votes_of : FnScope ["self", "slot"] ["self", "slot"] (defScope s_Tally_votes_of) := ⟨rfl, rfl, rfl, by decide +kernel, rfl, by decide +kernel, by decide +kernel⟩
abbrev s_Tally_fork : Stmt := inClass (topS 10) 6
abbrev N_Tally_fork : List Str := ["self", "twin", "slot", "votes"]
theorem sc_Tally_fork : FnScope ["self", "twin", "slot", "votes"] ["self"] (defScope s_Tally_fork) := ⟨rfl, rfl, rfl, by decide +kernel, rfl, by decide +kernel, by decide +kernel⟩
abbrev s__law_row : Stmt := topS 12
abbrev N__law_row : List Str := ["script", "k", "cell", "first", "second"]
theorem sc__law_row : FnScope ["script", "k", "cell", "first", "second"] ["script", "k"] (defScope s__law_row) := ⟨rfl, rfl, rfl, by decide +kernel, rfl, by decide +kernel, by decide +kernel⟩
abbrev s__law_take : Stmt := topS 13
abbrev N__law_take : List Str := ["box", "size", "digit"]
theorem sc__law_take : FnScope ["box", "size", "digit"] ["box", "size"] (defScope s__law_take) := ⟨rfl, rfl, rfl, by decide +kernel, rfl, by decide +kernel, by decide +kernel⟩
abbrev s__law_members : Stmt := topS 14
abbrev N__law_members : List Str := ["box", "size", "members", "index"]
theorem sc__law_members : FnScope ["box", "size", "members", "index"] ["box", "size"] (defScope s__law_members) := ⟨rfl, rfl, rfl, by decide +kernel, rfl, by decide +kernel, by decide +kernel⟩
abbrev s__law_entry : Stmt := topS 15
abbrev N__law_entry : List Str := ["box", "slot", "ballot"]
theorem sc__law_entry : FnScope ["box", "slot", "ballot"] ["box", "slot", "ballot"] (defScope s__law_entry) := ⟨rfl, rfl, rfl, by decide +kernel, rfl, by decide +kernel, by decide +kernel⟩
abbrev s__law_members_at : Stmt := topS 16
abbrev N__law_members_at : List Str := ["first", "row", "slot", "found", "entry"]
theorem sc__law_members_at : FnScope ["first", "row", "slot", "found", "entry"] ["first", "row", "slot"] (defScope s__law_members_at) := ⟨rfl, rfl, rfl, by decide +kernel, rfl, by decide +kernel, by decide +kernel⟩
abbrev s__law_choice : Stmt := topS 17
abbrev N__law_choice : List Str := ["members", "votes", "turn", "index", "vote", "voters", "member"]
theorem sc__law_choice : FnScope ["members", "votes", "turn", "index", "vote", "voters", "member"] ["members", "votes"] (defScope s__law_choice) := ⟨rfl, rfl, rfl, by decide +kernel, rfl, by decide +kernel, by decide +kernel⟩
abbrev s__law_added : Stmt := topS 18
abbrev N__law_added : List Str := ["first", "row", "votes", "found", "k", "slot", "choice", "vote"]
theorem sc__law_added : FnScope ["first", "row", "votes", "found", "k", "slot", "choice", "vote"] ["first", "row", "votes"] (defScope s__law_added) := ⟨rfl, rfl, rfl, by decide +kernel, rfl, by decide +kernel, by decide +kernel⟩
abbrev s__law_agrees : Stmt := topS 19
abbrev N__law_agrees : List Str := ["tally", "first", "row", "votes", "slot", "vote"]
theorem sc__law_agrees : FnScope ["tally", "first", "row", "votes", "slot", "vote"] ["tally", "first", "row", "votes"] (defScope s__law_agrees) := ⟨rfl, rfl, rfl, by decide +kernel, rfl, by decide +kernel, by decide +kernel⟩
abbrev s_law : Stmt := topS 20
abbrev N_law : List Str := ["script", "box", "first", "tally", "row", "votes", "moment", "k", "left", "known", "slot", "ballot", "members", "index", "entry", "due", "told"]
theorem sc_law : FnScope ["script", "box", "first", "tally", "row", "votes", "moment", "k", "left", "known", "slot", "ballot", "members", "index", "entry", "due", "told"] ["script"] (defScope s_law) := ⟨rfl, rfl, rfl, by decide +kernel, rfl, by decide +kernel, by decide +kernel⟩
structure Txt (K : PySem.W.Frag) (mg : Str → Option Value) where
  C_Tally : Addr
  Cls_Tally : Cls K C_Tally
  g_Tally : mg "Tally" = some (.ref C_Tally)
  A_Tally_first_members : NoAttr K C_Tally "first_members"
  A_Tally_row : NoAttr K C_Tally "row"
  A_Tally_votes : NoAttr K C_Tally "votes"
  A_Tally__by_slot : NoAttr K C_Tally "_by_slot"
  t_MEMBERS : Tok
  g_MEMBERS : mg "MEMBERS" = some (.str "members" t_MEMBERS)
  f_members_of_slot : Addr
  d_members_of_slot : FuncData
  F_members_of_slot : Fun K "members_of_slot" "members_of_slot" s_members_of_slot f_members_of_slot d_members_of_slot
  b_members_of_slot : Binds K d_members_of_slot ["first_members", "row", "slot"] []
  g_members_of_slot : mg "members_of_slot" = some (.ref f_members_of_slot)
  f_more_than_half : Addr
  d_more_than_half : FuncData
  F_more_than_half : Fun K "more_than_half" "more_than_half" s_more_than_half f_more_than_half d_more_than_half
  b_more_than_half : Binds K d_more_than_half ["members", "indexes"] []
  g_more_than_half : mg "more_than_half" = some (.ref f_more_than_half)
  f_choice_of : Addr
  d_choice_of : FuncData
  F_choice_of : Fun K "choice_of" "choice_of" s_choice_of f_choice_of d_choice_of
  b_choice_of : Binds K d_choice_of ["members", "votes"] []
  g_choice_of : mg "choice_of" = some (.ref f_choice_of)
  f_grounds_of : Addr
  d_grounds_of : FuncData
  F_grounds_of : Fun K "grounds_of" "grounds_of" s_grounds_of f_grounds_of d_grounds_of
  b_grounds_of : Binds K d_grounds_of ["members", "votes"] []
  g_grounds_of : mg "grounds_of" = some (.ref f_grounds_of)
  f__by_ballot : Addr
  d__by_ballot : FuncData
  F__by_ballot : Fun K "_by_ballot" "_by_ballot" s__by_ballot f__by_ballot d__by_ballot
  b__by_ballot : Binds K d__by_ballot ["members", "votes"] []
  g__by_ballot : mg "_by_ballot" = some (.ref f__by_ballot)
  f_Tally___init__ : Addr
  d_Tally___init__ : FuncData
  F_Tally___init__ : Fun K "__init__" "Tally.__init__" s_Tally___init__ f_Tally___init__ d_Tally___init__
  b_Tally___init__ : Binds K d_Tally___init__ ["self", "first_members"] []
  Mk_Tally : Mk K C_Tally f_Tally___init__
  f_Tally_add : Addr
  d_Tally_add : FuncData
  F_Tally_add : Fun K "add" "Tally.add" s_Tally_add f_Tally_add d_Tally_add
  b_Tally_add : Binds K d_Tally_add ["self", "slot", "index", "ballot", "entry"] []
  M_Tally_add : Meth K C_Tally "add" f_Tally_add
  f_Tally__count : Addr
  d_Tally__count : FuncData
  F_Tally__count : Fun K "_count" "Tally._count" s_Tally__count f_Tally__count d_Tally__count
  b_Tally__count : Binds K d_Tally__count ["self"] []
  M_Tally__count : Meth K C_Tally "_count" f_Tally__count
  f_Tally__next_choice : Addr
  d_Tally__next_choice : FuncData
  F_Tally__next_choice : Fun K "_next_choice" "Tally._next_choice" s_Tally__next_choice f_Tally__next_choice d_Tally__next_choice
  b_Tally__next_choice : Binds K d_Tally__next_choice ["self"] []
  M_Tally__next_choice : Meth K C_Tally "_next_choice" f_Tally__next_choice
  f_Tally_members_of : Addr
  d_Tally_members_of : FuncData
  F_Tally_members_of : Fun K "members_of" "Tally.members_of" s_Tally_members_of f_Tally_members_of d_Tally_members_of
  b_Tally_members_of : Binds K d_Tally_members_of ["self", "slot"] []
  M_Tally_members_of : Meth K C_Tally "members_of" f_Tally_members_of
  f_Tally_votes_of : Addr
  d_Tally_votes_of : FuncData
  F_Tally_votes_of : Fun K "votes_of" "Tally.votes_of" s_Tally_votes_of f_Tally_votes_of d_Tally_votes_of
  b_Tally_votes_of : Binds K d_Tally_votes_of ["self", "slot"] []
  M_Tally_votes_of : Meth K C_Tally "votes_of" f_Tally_votes_of
  f_Tally_fork : Addr
  d_Tally_fork : FuncData
  F_Tally_fork : Fun K "fork" "Tally.fork" s_Tally_fork f_Tally_fork d_Tally_fork
  b_Tally_fork : Binds K d_Tally_fork ["self"] []
  M_Tally_fork : Meth K C_Tally "fork" f_Tally_fork
  f__law_row : Addr
  d__law_row : FuncData
  F__law_row : Fun K "_law_row" "_law_row" s__law_row f__law_row d__law_row
  b__law_row : Binds K d__law_row ["script", "k"] []
  g__law_row : mg "_law_row" = some (.ref f__law_row)
  f__law_take : Addr
  d__law_take : FuncData
  F__law_take : Fun K "_law_take" "_law_take" s__law_take f__law_take d__law_take
  b__law_take : Binds K d__law_take ["box", "size"] []
  g__law_take : mg "_law_take" = some (.ref f__law_take)
  f__law_members : Addr
  d__law_members : FuncData
  F__law_members : Fun K "_law_members" "_law_members" s__law_members f__law_members d__law_members
  b__law_members : Binds K d__law_members ["box", "size"] []
  g__law_members : mg "_law_members" = some (.ref f__law_members)
  f__law_entry : Addr
  d__law_entry : FuncData
  F__law_entry : Fun K "_law_entry" "_law_entry" s__law_entry f__law_entry d__law_entry
  b__law_entry : Binds K d__law_entry ["box", "slot", "ballot"] []
  g__law_entry : mg "_law_entry" = some (.ref f__law_entry)
  f__law_members_at : Addr
  d__law_members_at : FuncData
  F__law_members_at : Fun K "_law_members_at" "_law_members_at" s__law_members_at f__law_members_at d__law_members_at
  b__law_members_at : Binds K d__law_members_at ["first", "row", "slot"] []
  g__law_members_at : mg "_law_members_at" = some (.ref f__law_members_at)
  f__law_choice : Addr
  d__law_choice : FuncData
  F__law_choice : Fun K "_law_choice" "_law_choice" s__law_choice f__law_choice d__law_choice
  b__law_choice : Binds K d__law_choice ["members", "votes"] []
  g__law_choice : mg "_law_choice" = some (.ref f__law_choice)
  f__law_added : Addr
  d__law_added : FuncData
  F__law_added : Fun K "_law_added" "_law_added" s__law_added f__law_added d__law_added
  b__law_added : Binds K d__law_added ["first", "row", "votes"] []
  g__law_added : mg "_law_added" = some (.ref f__law_added)
  f__law_agrees : Addr
  d__law_agrees : FuncData
  F__law_agrees : Fun K "_law_agrees" "_law_agrees" s__law_agrees f__law_agrees d__law_agrees
  b__law_agrees : Binds K d__law_agrees ["tally", "first", "row", "votes"] []
  g__law_agrees : mg "_law_agrees" = some (.ref f__law_agrees)
  f_law : Addr
  d_law : FuncData
  F_law : Fun K "law" "law" s_law f_law d_law
  b_law : Binds K d_law ["script"] []
  g_law : mg "law" = some (.ref f_law)
  m_int : mg "int" = none
  m_isinstance : mg "isinstance" = none
  m_len : mg "len" = none
  m_list : mg "list" = none
  m_max : mg "max" = none
  m_min : mg "min" = none
  m_range : mg "range" = none
  m_reversed : mg "reversed" = none
  m_set : mg "set" = none
  m_sorted : mg "sorted" = none
  m_tuple : mg "tuple" = none
section
variable {P : Program} {w : World} {K : PySem.W.Frag} {mg : Str → Option Value} {base : Heap}
def sp__law_row (K : PySem.W.Frag) : Sp := fun vs H Q _ => ∃ (a : Addr) (k : Int) (ns : List Int), vs = [.ref a, .int k] ∧ SqL K H a (ns.map V.int) ∧ ns.length ≤ 63 ∧ 0 ≤ k ∧ k ≤ 1000 ∧ ∀ n : Int, 0 ≤ n → Q (.int n) H
theorem ok__law_row (T : Txt K mg) : FnOk P w K mg base CX0 1 T.f__law_row T.d__law_row ["script", "k"] (sp__law_row K) := by
  refine T.F__law_row.ok sc__law_row (fun vs H Q E h => ?_) (fun cdv A outer s H vs Q E hr h => ?_)
  · obtain ⟨a, k, ns, rfl, _⟩ := h
    rfl
  obtain ⟨a, k, ns, rfl, hS, hl, hk, hk2, q⟩ := h
  refine ⟨_, (pss_cons (ps_set (i := 2) sc__law_row.nd rfl (Or.inl rfl) (pe_int))
      (Evl.pss_cut (ps_if (pt_cmpR op_gt (pe_callB (Xk.k_len (K := K) (by rfl)) (by rfl) T.m_len PySem.boot_len (pa_cons (pv 0) pa_nil)) (pe_int) (nomark _)) (pss_one (ps_set (i := 2) sc__law_row.nd rfl (Or.inl rfl) (pe_ix (Xk.k_ixL (K := K) (by rfl)) (pv 0) (pe_op op_mod (pe_callTy Xk.call_nInt (by rfl) T.m_int (by decide +kernel) (pa_cons (pv 1) pa_nil)) (pe_callB (Xk.k_len (K := K) (by rfl)) (by rfl) T.m_len PySem.boot_len (pa_cons (pv 0) pa_nil))) (fun _ _ => rfl)))) pss_nil)
      (Evl.pss_cut (ps_if (pt_cmpR op_lt (pv 2) (pe_int) (nomark _)) (pss_one (ps_set (i := 2) sc__law_row.nd rfl (Or.inl rfl) (pe_op op_sub (pe_int) (pe_op op_mul (pe_int) (pv 2))))) pss_nil)
      (Evl.pss_cut (ps_if (PW.pt (pw_and (pt_cmpR op_ge (pv 2) (pe_op op_pow (pe_int) (pe_int)) (nomark _)) (pw_and1 (pt_cmpR op_lt (pv 1) (pe_callB (Xk.k_len (K := K) (by rfl)) (by rfl) T.m_len PySem.boot_len (pa_cons (pv 0) pa_nil)) (nomark _))))) (pss_one (ps_ret (pv 2))) pss_nil)
      (pss_cons (ps_set (i := 3) sc__law_row.nd rfl (Or.inl rfl) (pe_op op_mod (pe_callTy Xk.call_nInt (by rfl) T.m_int (by decide +kernel) (pa_cons (pe_op op_add (pe_op op_add (pe_op op_mul (pv 2) (pe_int)) (pe_op op_mul (pe_op op_add (pv 1) (pe_int)) (pe_int))) (pe_callB (Xk.k_len (K := K) (by rfl)) (by rfl) T.m_len PySem.boot_len (pa_cons (pv 0) pa_nil))) pa_nil)) (pe_int)))
      (pss_cons (ps_set (i := 4) sc__law_row.nd rfl (Or.inl rfl) (pe_op op_mod (pe_callTy Xk.call_nInt (by rfl) T.m_int (by decide +kernel) (pa_cons (pe_op op_add (pe_op op_add (pe_op op_mul (pv 3) (pv 3)) (pe_op op_mul (pv 2) (pe_int))) (pv 1)) pa_nil)) (pe_int)))
      (pss_one (ps_ret (pe_op op_add (pe_op op_mul (pv 4) (pe_int)) (pe_op op_mod (pe_callTy Xk.call_nInt (by rfl) T.m_int (by decide +kernel) (pa_cons (pe_op op_mul (pv 3) (pe_int)) pa_nil)) (pe_int))))))))))), ?_⟩
  wtm_at "x0"
  wtm_at "xs"
  refine Xk.x_cut (fun σ' H' => H = H' ∧ ∃ c : Int, σ' = [some (.ref a), some (.int k), some (.int c), none, none]) ?_ ?_
  · wtm_at "xs"
    refine Xk.x_itd (fun h => ?_) (fun h => ?_)
    · wtm_at "xs"
      rw [List.length_map] at h ⊢
      have h1 : k % (ns.length : Int) < ns.length := Int.emod_lt_of_pos _ h
      have h2 : 0 ≤ k % (ns.length : Int) := Int.emod_nonneg _ (by omega)
      obtain ⟨j, hj⟩ := Int.eq_ofNat_of_zero_le h2
      rw [hj] at h1 ⊢
      have h3 : j < ns.length := by omega
      refine Xk.x_ixL hS (atI_nat (j := j) (by rw [List.getElem?_map, List.getElem?_eq_getElem h3]; rfl)) ?_
      exact ⟨rfl, _, rfl⟩
    · wtm_at "xs"
      exact ⟨rfl, _, rfl⟩
  rintro σ' H' ⟨rfl, c, rfl⟩
  refine Xk.x_cut (fun σ' H' => H = H' ∧ ∃ c : Int, 0 ≤ c ∧ σ' = [some (.ref a), some (.int k), some (.int c), none, none]) ?_ ?_
  · wtm_at "xs"
    refine Xk.x_itd (fun h => ?_) (fun h => ?_)
    · wtm_at "xs"
      exact ⟨rfl, _, by omega, rfl⟩
    · wtm_at "xs"
      exact ⟨rfl, _, by omega, rfl⟩
  rintro σ' H' ⟨rfl, c, hc, rfl⟩
  refine Xk.x_cut (fun σ' H' => H = H' ∧ σ' = [some (.ref a), some (.int k), some (.int c), none, none]) ?_ ?_
  · wtm_at "xs"
    refine Xk.x_itd (fun h => ?_) (fun h => ?_)
    · wtm_at "xs"
      refine Xk.x_itd (fun h => ?_) (fun h => ?_)
      · wtm_at "xs"
        exact q _ hc
      · wtm_at "xs"
        exact ⟨rfl, rfl⟩
    · wtm_at "xs"
      exact ⟨rfl, rfl⟩
  rintro σ' H' ⟨rfl, rfl⟩
  wtm_at "xs"
  exact q _ (by omega)
def sp__law_take (K : PySem.W.Frag) : Sp := fun vs H Q _ => ∃ (a : Addr) (z n : Int), vs = [.ref a, .int z] ∧ H a = some (.lst [.int n]) ∧ 0 < z ∧ z < 1073741824 ∧ (0 ≤ n % z → n % z < z → Q (.int (n % z)) (upd H a (.lst [.int (n / z)])))
theorem ok__law_take (T : Txt K mg) : FnOk P w K mg base CX0 1 T.f__law_take T.d__law_take ["box", "size"] (sp__law_take K) := by
  refine T.F__law_take.ok sc__law_take (fun vs H Q E h => ?_) (fun cdv A outer s H vs Q E hr h => ?_)
  · obtain ⟨a, z, n, rfl, _⟩ := h
    rfl
  obtain ⟨a, z, n, rfl, hb, h0, h1, q⟩ := h
  refine ⟨_, (pss_cons (ps_set (i := 2) sc__law_take.nd rfl (Or.inl rfl) (pe_op op_mod (pe_callTy Xk.call_nInt (by rfl) T.m_int (by decide +kernel) (pa_cons (pe_ix (Xk.k_ixL (K := K) (by rfl)) (pv 0) (pe_int) (fun _ _ => rfl)) pa_nil)) (pv 1)))
      (pss_cons (ps_asg (pe_op op_fdiv (pe_ix (Xk.k_ixL (K := K) (by rfl)) (pv 0) (pe_int) (fun _ _ => rfl)) (pv 1)) (pg_sub (pv 0) (pe_int) set_list))
      (pss_one (ps_ret (pv 2))))), ?_⟩
  wtm_at "x0"
  wtm_at "xs"
  refine Xk.x_setL (j := 0) hb rfl ?_
  wtm_at "xs"
  exact q (Int.emod_nonneg _ (by omega)) (Int.emod_lt_of_pos _ h0)
def sp__law_members (K : PySem.W.Frag) : Sp := fun vs H Q _ => ∃ (b : Addr) (z n : Int), vs = [.ref b, .int z] ∧ H b = some (.lst [.int n]) ∧ 1 ≤ z ∧ z ≤ 7 ∧
  ∀ p H' (ms : List Int) m, Xk.Fr p H → Xk.But b H H' → H' b = some (.lst [.int m]) → H' p = some (.tup (ms.map V.int)) → ms.length ≤ 5 → 1 ≤ ms.length → ms.Pairwise (· < ·) → Q (.ref p) H'
theorem ok__law_members (T : Txt K mg) : FnOk P w K mg base CX0 2 T.f__law_members T.d__law_members ["box", "size"] (sp__law_members K) := by
  refine T.F__law_members.ok sc__law_members (fun vs H Q E h => ?_) (fun cdv A outer s H vs Q E hr h => ?_)
  · obtain ⟨b, z, n, rfl, _⟩ := h
    rfl
  obtain ⟨b, z, n, rfl, hb, h0, h1, q⟩ := h
  refine ⟨_, (pss_cons (ps_set (i := 2) sc__law_members.nd rfl (Or.inl rfl) (pe_slice (Xk.k_slL (K := K) (by rfl)) (pe_lc (own := [("index", 3)]) (g := gName 3) rfl sc__law_members.nd  (pi_range1 (by rfl) T.m_range (pa_cons (pv 1) pa_nil)) (blkOk_by (N := N__law_members) (sc := defScope s__law_members) (own := [("index", 3)]) (by decide +kernel)) (fun _ _ _ _ _ => pg_name (i := 3) sc__law_members.nd rfl (Or.inl rfl)) (fun _ _ _ _ _ => pts_one (pt_cmpR op_gt (pe_call (ok__law_take T) (hr.mono (by decide)) (by rfl) T.g__law_take T.F__law_take.kp T.b__law_take .nil pass0 (pa_cons (pv 0) (pa_cons (pe_int) pa_nil))) (pe_int) (nomark _))) (fun _ _ _ _ _ => (pv 3))) po_none (po_some (pe_int))))
      (Evl.pss_cut (ps_if (pt_cmpR op_eq (pe_callB (Xk.k_len (K := K) (by rfl)) (by rfl) T.m_len PySem.boot_len (pa_cons (pv 2) pa_nil)) (pe_int) (nomark _)) (pss_one (ps_set (i := 2) sc__law_members.nd rfl (Or.inl rfl) (pe_lst (pa_cons (pe_call (ok__law_take T) (hr.mono (by decide)) (by rfl) T.g__law_take T.F__law_take.kp T.b__law_take .nil pass0 (pa_cons (pv 0) (pa_cons (pv 1) pa_nil))) pa_nil)))) pss_nil)
      (pss_one (ps_ret (pe_callTy (Xk.k_tuple (K := K) (by rfl)) (by rfl) T.m_tuple (by decide +kernel) (pa_cons (pv 2) pa_nil)))))), ?_⟩
  wtm_at "x0"
  wtm_at "xs"
  refine Xk.x_lcR (fun Dl i H' => Xk.But b H H' ∧ (∃ m : Int, H' b = some (.lst [.int m])) ∧ ∃ ys : List Int, H' Dl = some (.lst (ys.map V.int)) ∧ ys.length ≤ i ∧ ys.Pairwise (· < ·) ∧ ∀ y ∈ ys, y < (i : Int)) ⟨by omega, by omega⟩ ?_ ?_ ?_
  · intro Dl hD
    exact ⟨Xk.but_same (Xk.same_fr hD), ⟨_, by wtm_at "hx"⟩, [], upd_same, Nat.le_refl _, .nil, fun y hy => by cases hy⟩
  · rintro Dl hD i H' hi ⟨s2, ⟨m, hm⟩, ys, h2, hy, hnd, hlt⟩
    wtm_at "xs"
    refine ⟨rfl, ?_⟩
    wtm_at "xs"
    refine ⟨_, 3, m, rfl, hm, by decide, by decide, fun e1 e2 => ?_⟩
    wtm_at "xs"
    refine Xk.x_itd (fun h => ?_) (fun h => ?_)
    · wtm_at "xs"
      refine ⟨_, by wtm_at "hx", Xk.size_lt (by wtm_at "len"), by wtm_at "bm", ⟨_, by wtm_at "hx"⟩, ys ++ [(i : Int)], ?_, by wtm_at "len", ?_, ?_⟩
      · rw [upd_same, Xk.snoc_map]
      · refine List.pairwise_append.mpr ⟨hnd, List.pairwise_singleton .., fun x hx y hy => ?_⟩
        have h5 := hlt x hx
        rw [List.mem_singleton.mp hy]
        exact h5
      · intro y hy
        rcases List.mem_append.mp hy with hy | hy
        · have := hlt y hy
          omega
        · rw [List.mem_singleton.mp hy]
          omega
    · wtm_at "xs"
      exact ⟨by wtm_at "bm", ⟨_, by wtm_at "hx"⟩, ys, by wtm_at "hx", by omega, hnd, fun y hy => by have := hlt y hy; omega⟩
  · rintro Dl H1 hD ⟨s2, ⟨m, hm⟩, ys, h2, hy, hnd, hlt⟩
    wtm_at "xs"
    intro p H2 hp s3 h3
    have hne : b ≠ p := Xk.ne_new hp hm
    rw [Xk.cut_take (k := 5) (n := 5) rfl, ← List.map_take] at h3
    have hzl : (ys.take 5).length ≤ 5 := by rw [List.length_take]; omega
    have hzn : (ys.take 5).Pairwise (· < ·) := hnd.sublist (List.take_sublist _ _)
    generalize ys.take 5 = zs at *
    wtm_at "xs"
    refine Xk.x_cut (fun σ' H' => ∃ (c : Addr) (ms : List Int) (m : Int), σ' = [some (.ref b), some (.int z), some (.ref c), none] ∧ Xk.But b H H' ∧ H' b = some (.lst [.int m]) ∧ H' c = some (.lst (ms.map V.int)) ∧ ms.length ≤ 5 ∧ 1 ≤ ms.length ∧ ms.Pairwise (· < ·)) ?_ ?_
    · wtm_at "xs"
      refine Xk.x_itd (fun h => ?_) (fun h => ?_)
      · wtm_at "xs"
        refine ⟨_, _, m, rfl, by wtm_at "hx", by omega, by omega, fun e1 e2 => ?_⟩
        wtm_at "xs"
        intro c H3 hc s4 h4
        wtm_at "xs"
        exact ⟨_, [m % z], _, rfl, by wtm_at "bm", by wtm_at "hx", h4, by simp, by simp, by simp⟩
      · wtm_at "xs"
        have hz1 : 1 ≤ zs.length := by
          rcases Nat.eq_zero_or_pos zs.length with e | e
          · exact absurd (by rw [List.length_map, e]; rfl) h
          · exact e
        exact ⟨_, zs, _, rfl, by wtm_at "bm", by wtm_at "hx", h3, hzl, hz1, hzn⟩
    · rintro σ' H3 ⟨c, ms, m2, rfl, s4, h4, h5, hl, hl1, hl2⟩
      wtm_at "xs"
      intro t H4 ht s5 h6
      wtm_at "xs"
      exact q t H4 ms m2 (Xk.none_but hb s4 h4 ht) (by wtm_at "bm") (by wtm_at "hx") h6 hl hl1 hl2
def sp_more_than_half (K : PySem.W.Frag) : Sp := fun vs H Q _ => ∃ (a c : Addr) (ms is : List Int), vs = [.ref a, .ref c] ∧ SqT K H a (ms.map V.int) ∧ (SqL K H c (is.map V.int) ∨ SqT K H c (is.map V.int)) ∧ ms.length ≤ 50 ∧
  ∀ H', Same H H' → Q (.bl (decide ((ms.length : Int) < 2 * ((ms.filter fun m => decide (m ∈ is)).length : Int)))) H'
theorem ok_more_than_half (T : Txt K mg) : FnOk P w K mg base CX0 1 T.f_more_than_half T.d_more_than_half ["members", "indexes"] (sp_more_than_half K) := by
  refine T.F_more_than_half.ok sc_more_than_half (fun vs H Q E h => ?_) (fun cdv A outer s H vs Q E hr h => ?_)
  · obtain ⟨a, c, ms, is, rfl, _⟩ := h
    rfl
  obtain ⟨a, c, ms, is, rfl, hS, hI, hl, q⟩ := h
  refine ⟨_, (pss_one (ps_ret (pe_cmpR op_gt (pe_op op_mul (pe_int) (pe_callB (Xk.k_len (K := K) (by rfl)) (by rfl) T.m_len PySem.boot_len (pa_cons (pe_lc (own := [("member", 2)]) (g := gName 2) rfl sc_more_than_half.nd  (pi_tup (pv 0)) (blkOk_by (N := N_more_than_half) (sc := defScope s_more_than_half) (own := [("member", 2)]) (by decide +kernel)) (fun _ _ _ _ _ => pg_name (i := 2) sc_more_than_half.nd rfl (Or.inl rfl)) (fun _ _ _ _ _ => pts_one (pt_cmpR (Xk.k_in (K := K) (by rfl)) (pv 2) (pv 1) (by rfl))) (fun _ _ _ _ _ => (pv 2))) pa_nil))) (pe_callB (Xk.k_len (K := K) (by rfl)) (by rfl) T.m_len PySem.boot_len (pa_cons (pv 0) pa_nil)) (nomark _)))), ?_⟩
  wtm_at "x0"
  wtm_at "xs"
  refine Xk.x_lcT (xs := ms.map V.int) (fun Dl i H' => Same H H' ∧ H' Dl = some (.lst (((ms.take i).filter fun m => decide (m ∈ is)).map V.int))) hS ?_ ?_ ?_ ?_
  · intro Dl hD
    exact ⟨Xk.same_fr hD, upd_same⟩
  · rintro Dl i H' hD ⟨s2, _⟩
    wtm_at "st"
  · rintro Dl hD i x H' hi ⟨s2, h2⟩
    obtain ⟨m, hm, rfl⟩ := Xk.of_map_at hi
    have hi2 := Xk.at_lt hm
    wtm_at "xs"
    refine ⟨rfl, ?_⟩
    wtm_at "xs"
    have hin : ∀ R : VK, R (.bl (decide (m ∈ is))) H' → rIn K false (.int m) (.ref c) H' R := fun R r => by
      have r2 : R (.bl (inV (.int m) (is.map V.int))) H' := by
        rw [Xk.in_ints]
        exact r
      rcases hI with h | h
      · exact Xk.x_inL (Xk.sq_same h s2) rfl (Xk.flat_ints _) r2
      · exact Xk.x_inT (Xk.st_same h s2) rfl (Xk.flat_ints _) r2
    refine hin _ ?_
    wtm_at "xs"
    refine Xk.x_itd (fun h3 => ?_) (fun h3 => ?_)
    · wtm_at "xs"
      refine ⟨_, h2, Xk.size_lt ?_, by wtm_at "sm", ?_⟩
      · have := List.length_filter_le (fun m => decide (m ∈ is)) (ms.take i)
        have h5 := List.length_take_le i ms
        rw [List.length_map]
        omega
      · rw [upd_same, List.take_add_one, hm, List.filter_append, Xk.snoc_map]
        simp [h3]
    · wtm_at "xs"
      refine ⟨s2, ?_⟩
      rw [h2, List.take_add_one, hm, List.filter_append]
      simp [h3]
  · rintro Dl H' hD ⟨s2, h2⟩
    rw [List.length_map, List.take_length] at h2
    wtm_at "xs"
    rw [List.length_map, List.length_map]
    exact q _ s2
--CUT--
theorem fr_back {p : Addr} {H H' : Hp} (h : Xk.Fr p H') (s : Same H H') : Xk.Fr p H := ⟨by
  cases e : H p with
  | none => rfl
  | some o =>
    have z := s _ _ e
    rw [h.is] at z
    cases z⟩
/-! ### votes -/
/-- the entries that come -/
inductive En
  | oth (n : Int)
  | wt (n t : Int)
  | wn (n : Int)
  | mem (l : List Int)
deriving DecidableEq
instance : LT En := ⟨fun _ _ => True⟩
instance : OfNat En 6 := ⟨.oth 0⟩
def ent : En → PyData
  | .oth n => .tuple [.str "batch", .tuple [.tuple [.str "other", .int n]]]
  | .wt n t => .tuple [.str "batch", .tuple [.tuple [.str "w", .int n, .int t]]]
  | .wn n => .tuple [.str "batch", .tuple [.tuple [.str "w", .int n]]]
  | .mem l => .tuple [.str "members", .tuple (Xk.dInts l)]
theorem str_ne {x y : Str} (h : (x == y) = false) : PyData.eqv (.str x) (.str y) = false := h
theorem ent_eqv {j k : En} (hj : j < 6) (hk : k < 6) : PyData.eqv (ent j) (ent k) = decide (j = k) := by
  cases j <;> cases k <;> simp only [ent, PyData.eqv, PyData.eqvAll, Xk.eqv_ints]
  all_goals
    have c1 : (Str.ofString "w" == Str.ofString "other") = false := by decide +kernel
    have c2 : (Str.ofString "other" == Str.ofString "w") = false := by decide +kernel
    have c3 : (Str.ofString "batch" == Str.ofString "members") = false := by decide +kernel
    have c4 : (Str.ofString "members" == Str.ofString "batch") = false := by decide +kernel
    have c5 : (Str.ofString "batch" == Str.ofString "batch") = true := by decide +kernel
    have c6 : (Str.ofString "w" == Str.ofString "w") = true := by decide +kernel
    have c7 : (Str.ofString "other" == Str.ofString "other") = true := by decide +kernel
    have c8 : (Str.ofString "members" == Str.ofString "members") = true := by decide +kernel
    rw [Bool.eq_iff_iff]
    simp [c1, c2, c3, c4, c5, c6, c7, c8]
/-- tuples stay -/
structure Tu (K : PySem.W.Frag) (H H' : Hp) : Prop where
  st : Xk.St K H H'
  tp : ∀ a xs, H a = some (.tup xs) → H' a = some (.tup xs)
theorem Tu.same {H H' : Hp} (s : Same H H') : Tu K H H' := ⟨Xk.tt_same s, fun a xs h => s _ _ h⟩
theorem Tu.trans {H H' H'' : Hp} (s : Tu K H H') (t : Tu K H' H'') : Tu K H H'' := ⟨s.st.trans t.st, fun a xs h => t.tp _ _ (s.tp _ _ h)⟩
theorem tu_but {H H' : Hp} {b : Addr} {o : HO} (hi : H b = some o) (h1 : ∀ xs, o ≠ .tup xs) (h2 : ∀ u xs, o ≠ .frz u (.tup xs)) (e : Xk.But b H H') : Tu K H H' :=
  ⟨Xk.tt_but hi h1 h2 e, fun a xs h => e _ _ (fun z => by rw [z, hi] at h; exact h1 xs (Option.some.inj h)) h⟩
theorem tu_butL {H H' : Hp} {b : Addr} {ys : List V} (hi : H b = some (.lst ys)) (e : Xk.But b H H') : Tu K H H' := tu_but hi (fun _ z => by cases z) (fun _ _ z => by cases z) e
theorem tu_butT {H H' : Hp} {b : Addr} {ys : List (List Key × V)} (hi : H b = some (.dT ys)) (e : Xk.But b H H') : Tu K H H' := tu_but hi (fun _ z => by cases z) (fun _ _ z => by cases z) e
theorem tu_mutL {H : Hp} {b : Addr} {o : HO} {ys : List V} (hi : H b = some (.lst ys)) : Tu K H (upd H b o) := tu_butL hi (Xk.but_mut (Xk.But.refl _ _))
theorem tu_mutT {H : Hp} {b : Addr} {o : HO} {ys : List (List Key × V)} (hi : H b = some (.dT ys)) : Tu K H (upd H b o) := tu_butT hi (Xk.but_mut (Xk.But.refl _ _))
structure Vt where
  a : Addr
  b : Addr
  ix : Int
  t : Int
  x : Int
  e : V
  k : En
/-- a vote in memory -/
structure VtAt (K : PySem.W.Frag) (H : Hp) (v : Vt) : Prop where
  tp : SqT K H v.a [.int v.ix, .ref v.b, v.e]
  bl : H v.b = some (.tup [.int v.t, .int v.x])
  en : Xk.Pk K H 4 v.e (ent v.k)
  kl : v.k < 6
theorem VtAt.tu {H H' : Hp} {v : Vt} (h : VtAt K H v) (s : Tu K H H') : VtAt K H' v := ⟨s.st.t _ _ h.tp, s.tp _ _ h.bl, h.en.st s.st, h.kl⟩
theorem VtAt.same {H H' : Hp} {v : Vt} (h : VtAt K H v) (s : Same H H') : VtAt K H' v := h.tu (.same s)
def VsAt (K : PySem.W.Frag) (H : Hp) (p : Addr) (vs : List Vt) : Prop := SqL K H p (vs.map fun v => V.ref v.a) ∧ ∀ v ∈ vs, VtAt K H v
theorem VsAt.same {H H' : Hp} {p : Addr} {vs : List Vt} (h : VsAt K H p vs) (s : Same H H') : VsAt K H' p vs := ⟨Xk.sq_same h.1 s, fun v hv => (h.2 v hv).same s⟩
/-- votes for the same with the same ballot -/
def alk (u v : Vt) : Bool := decide (u.t = v.t) && (decide (u.x = v.x) && decide (u.k = v.k))
def vot (ms : List Int) (vs : List Vt) (v : Vt) : List Int := ms.filter fun m => vs.any fun u => decide (u.ix = m) && alk u v
def hit (ms : List Int) (vs : List Vt) (v : Vt) : Bool := decide (v.ix ∈ ms) && decide (ms.length < 2 * (vot ms vs v).length)
/-- ballots in their order -/
def blt (u v : Vt) : Prop := u.t < v.t ∨ (u.t = v.t ∧ u.x < v.x)
/-- the vote that tells the choice -/
structure First (ms : List Int) (vs : List Vt) (i : Nat) (v : Vt) : Prop where
  at_ : vs[i]? = some v
  ht : hit ms vs v = true
  ls : ∀ j u, vs[j]? = some u → hit ms vs u = true → blt v u ∨ (v.t = u.t ∧ v.x = u.x ∧ i ≤ j)
theorem First.uniq {ms : List Int} {vs : List Vt} {i j : Nat} {u v : Vt} (h : First ms vs i u) (g : First ms vs j v) : u = v := by
  have h1 := h.ls j v g.at_ g.ht
  have h2 := g.ls i u h.at_ h.ht
  unfold blt at h1 h2
  have e : i = j := by omega
  subst e
  exact Option.some.inj (h.at_.symm.trans g.at_)
theorem alk_k {u v w : Vt} (h : alk u v = true) : alk w u = alk w v := by
  unfold alk at *
  simp only [Bool.and_eq_true, decide_eq_true_eq] at h
  rw [h.1, h.2.1, h.2.2]
--CUT--
def ky (t x : Int) : List Key := [Sum.inl t, Sum.inl x]
theorem ky_inj {t x t' x' : Int} (h : ky t x = ky t' x') : t = t' ∧ x = x' := by
  unfold ky at h
  injection h with h1 h2
  injection h2 with h2 _
  exact ⟨Sum.inl.inj h1, Sum.inl.inj h2⟩
def grp (ms : List Int) (vs : List Vt) (t x : Int) : List Vt := vs.filter fun v => decide (v.ix ∈ ms) && (decide (v.t = t) && decide (v.x = x))
theorem grp_yes {ms : List Int} {vs : List Vt} {v : Vt} (h : v.ix ∈ ms) : grp ms (vs ++ [v]) v.t v.x = grp ms vs v.t v.x ++ [v] := by
  unfold grp
  rw [List.filter_append]
  simp [h]
theorem grp_no {ms : List Int} {vs : List Vt} {v : Vt} {t x : Int} (h : ¬ (v.ix ∈ ms ∧ v.t = t ∧ v.x = x)) : grp ms (vs ++ [v]) t x = grp ms vs t x := by
  unfold grp
  rw [List.filter_append]
  have e : (decide (v.ix ∈ ms) && (decide (v.t = t) && decide (v.x = x))) = false := by
    rw [Bool.eq_false_iff]
    intro z
    simp only [Bool.and_eq_true, decide_eq_true_eq] at z
    exact h z
  simp [e]
/-- what is told ballot by ballot -/
structure TdOk (K : PySem.W.Frag) (H0 H : Hp) (d : Addr) (ms : List Int) (vs : List Vt) (kvs : List (List Key × V)) (n : Nat) : Prop where
  hd : H d = some (.dT kvs)
  fd : Xk.Fr d H0
  nd : (kvs.map (·.1)).Nodup
  ks : ∃ ks : List (List Int), kvs.map (·.1) = ks.map (fun k => k.map Sum.inl) ∧ (∀ k ∈ ks, ∃ t x, k = [t, x]) ∧ ks.length ≤ n
  at_ : ∀ t x, (valV kvs (ky t x) = none ∧ grp ms vs t x = []) ∨ ∃ (l : Addr) (ps : List (Addr × Vt)), valV kvs (ky t x) = some (.ref l) ∧ Xk.Fr l H0 ∧ H l = some (.lst (ps.map fun p : Addr × Vt => V.ref p.1)) ∧ (∀ p ∈ ps, SqT K H p.1 [.int p.2.ix, p.2.e]) ∧ ps.map (·.2) = grp ms vs t x
  inj : ∀ t x t' x' l, valV kvs (ky t x) = some (.ref l) → valV kvs (ky t' x') = some (.ref l) → t = t' ∧ x = x'
theorem TdOk.same {H0 H H' : Hp} {d : Addr} {ms : List Int} {vs : List Vt} {kvs : List (List Key × V)} {n : Nat} (h : TdOk K H0 H d ms vs kvs n) (s : Same H H') : TdOk K H0 H' d ms vs kvs n :=
  ⟨s _ _ h.hd, h.fd, h.nd, h.ks, fun t x => (h.at_ t x).imp_right fun ⟨l, ps, h1, h2, h3, h4, h5⟩ => ⟨l, ps, h1, h2, s _ _ h3, fun p hp => Xk.st_same (h4 p hp) s, h5⟩, h.inj⟩
theorem TdOk.skip {H0 H : Hp} {d : Addr} {ms : List Int} {vs : List Vt} {kvs : List (List Key × V)} {n : Nat} (h : TdOk K H0 H d ms vs kvs n) {v : Vt} (hv : v.ix ∉ ms) : TdOk K H0 H d ms (vs ++ [v]) kvs n :=
  ⟨h.hd, h.fd, h.nd, h.ks, fun t x => by
    rw [grp_no (fun z => hv z.1)]
    exact h.at_ t x, h.inj⟩
theorem TdOk.key {H0 H H' : Hp} {d z : Addr} {ms : List Int} {vs : List Vt} {kvs : List (List Key × V)} {n : Nat} (h : TdOk K H0 H d ms vs kvs n) {t x : Int} (hn : valV kvs (ky t x) = none) (s0 : Same H0 H) (hz : Xk.Fr z H) (s : Same H H') (hz' : H' z = some (.lst [])) :
    TdOk K H0 (upd H' d (.dT (putK kvs (ky t x) (.ref z)))) d ms vs (putK kvs (ky t x) (.ref z)) (n + 1) := by
  have hd := h.hd
  have nzd : z ≠ d := (Xk.ne_new hz hd).symm
  have tt : Tu K H' (upd H' d (.dT (putK kvs (ky t x) (.ref z)))) := tu_mutT (s _ _ hd)
  refine ⟨upd_same, h.fd, nd_putK _ h.nd hn, ?_, fun t' x' => ?_, fun t1 x1 t2 x2 l h1 h2 => ?_⟩
  · obtain ⟨ks, h1, h2, h3⟩ := h.ks
    refine ⟨ks ++ [[t, x]], ?_, fun k hk => ?_, ?_⟩
    · rw [putK_new _ hn, List.map_append, List.map_append, h1]
      rfl
    · rcases List.mem_append.mp hk with hk | hk
      · exact h2 k hk
      · exact ⟨t, x, List.mem_singleton.mp hk⟩
    · rw [List.length_append]
      exact Nat.add_le_add_right h3 1
  · by_cases e : ky t' x' = ky t x
    · obtain ⟨rfl, rfl⟩ := ky_inj e
      refine .inr ⟨z, [], by rw [valV_put, if_pos rfl], fr_back hz s0, (upd_ne nzd).trans hz', fun p hp => (by cases hp), ?_⟩
      rcases h.at_ t' x' with ⟨_, g⟩ | ⟨l, ps, g, _⟩
      · exact g.symm
      · rw [hn] at g
        cases g
    · rcases h.at_ t' x' with ⟨g1, g2⟩ | ⟨l, ps, g1, g2, g3, g4, g5⟩
      · exact .inl ⟨by rw [valV_put, if_neg e]; exact g1, g2⟩
      · refine .inr ⟨l, ps, by rw [valV_put, if_neg e]; exact g1, g2, ?_, fun p hp => tt.st.t _ _ (Xk.st_same (g4 p hp) s), g5⟩
        exact (upd_ne (fun z => by rw [z, hd] at g3; cases g3)).trans (s _ _ g3)
  · have nz : ∀ t x, valV kvs (ky t x) ≠ some (.ref z) := fun t x e => by
      rcases h.at_ t x with ⟨g, _⟩ | ⟨l, ps, g1, _, g3, _⟩
      · rw [g] at e
        cases e
      · rw [g1] at e
        cases e
        rw [hz.is] at g3
        cases g3
    rw [valV_put] at h1 h2
    by_cases e1 : ky t1 x1 = ky t x
    · by_cases e2 : ky t2 x2 = ky t x
      · exact ky_inj (e1.trans e2.symm)
      · rw [if_pos e1] at h1
        rw [if_neg e2] at h2
        cases h1
        exact absurd h2 (nz _ _)
    · by_cases e2 : ky t2 x2 = ky t x
      · rw [if_neg e1] at h1
        rw [if_pos e2] at h2
        cases h2
        exact absurd h1 (nz _ _)
      · rw [if_neg e1] at h1
        rw [if_neg e2] at h2
        exact h.inj _ _ _ _ _ h1 h2
theorem TdOk.add {H0 H : Hp} {d l q : Addr} {ms : List Int} {vs : List Vt} {kvs : List (List Key × V)} {n : Nat} (h : TdOk K H0 H d ms vs kvs n) {v : Vt} (hv : v.ix ∈ ms) (hl : valV kvs (ky v.t v.x) = some (.ref l)) {ps : List (Addr × Vt)} (hp : H l = some (.lst (ps.map fun p : Addr × Vt => V.ref p.1)))
    (h4 : ∀ p ∈ ps, SqT K H p.1 [.int p.2.ix, p.2.e]) (h5 : ps.map (·.2) = grp ms vs v.t v.x) (hq : SqT K H q [.int v.ix, v.e]) :
    TdOk K H0 (upd H l (.lst (ps.map (fun p : Addr × Vt => V.ref p.1) ++ [.ref q]))) d ms (vs ++ [v]) kvs n := by
  have tt : Tu K H (upd H l (.lst (ps.map (fun p : Addr × Vt => V.ref p.1) ++ [.ref q]))) := tu_mutL hp
  refine ⟨(upd_ne (fun z => by have := h.hd; rw [z, hp] at this; cases this)).trans h.hd, h.fd, h.nd, h.ks, fun t x => ?_, h.inj⟩
  by_cases e : v.t = t ∧ v.x = x
  · obtain ⟨rfl, rfl⟩ := e
    refine .inr ⟨l, ps ++ [(q, v)], hl, ?_, by rw [upd_same, List.map_append]; rfl, fun p hp => ?_, by rw [List.map_append, h5, grp_yes hv]; rfl⟩
    · rcases h.at_ v.t v.x with ⟨g, _⟩ | ⟨l', ps', g1, g2, _⟩
      · rw [g] at hl
        cases hl
      · rw [g1] at hl
        cases hl
        exact g2
    · rcases List.mem_append.mp hp with hp | hp
      · exact tt.st.t _ _ (h4 p hp)
      · rw [List.mem_singleton.mp hp]
        exact tt.st.t _ _ hq
  · rw [grp_no (fun z => e z.2)]
    rcases h.at_ t x with g | ⟨l', ps', g1, g2, g3, g4, g5⟩
    · exact .inl g
    · refine .inr ⟨l', ps', g1, g2, (upd_ne (fun z => ?_)).trans g3, fun p hp => tt.st.t _ _ (g4 p hp), g5⟩
      rw [z] at g1
      exact e (h.inj _ _ _ _ _ hl g1)
def Ne (ms : List Int) (vs : List Vt) (kvs : List (List Key × V)) : Prop := ∀ t x w, valV kvs (ky t x) = some w → grp ms vs t x ≠ []
theorem Ne.snoc {ms : List Int} {vs : List Vt} {kvs : List (List Key × V)} (h : Ne ms vs kvs) (v : Vt) : Ne ms (vs ++ [v]) kvs := fun t x w e g => by
  unfold grp at g
  rw [List.filter_append, List.append_eq_nil_iff] at g
  exact h t x w e g.1
theorem Ne.key {ms : List Int} {vs : List Vt} {kvs : List (List Key × V)} (h : Ne ms vs kvs) {v : Vt} (hv : v.ix ∈ ms) (z : V) : Ne ms (vs ++ [v]) (putK kvs (ky v.t v.x) z) := fun t x w e => by
  rw [valV_put] at e
  by_cases c : ky t x = ky v.t v.x
  · obtain ⟨rfl, rfl⟩ := ky_inj c
    rw [grp_yes hv]
    exact fun z => by simp at z
  · rw [if_neg c] at e
    exact h.snoc v t x w e
def sp__by_ballot (K : PySem.W.Frag) : Sp := fun vs' H Q _ => ∃ m p ms vs, vs' = [.ref m, .ref p] ∧ SqT K H m (ms.map V.int) ∧ VsAt K H p vs ∧ vs.length ≤ 60 ∧
  ∀ H' d kvs n, Same H H' → TdOk K H H' d ms vs kvs n → n ≤ 60 → Ne ms vs kvs → Q (.ref d) H'
theorem ok__by_ballot (T : Txt K mg) : FnOk P w K mg base CX0 1 T.f__by_ballot T.d__by_ballot ["members", "votes"] (sp__by_ballot K) := by
  refine T.F__by_ballot.ok sc__by_ballot (fun vs H Q E h => ?_) (fun cdv A outer s H vs Q E hr h => ?_)
  · obtain ⟨m, p, ms, vs, rfl, _⟩ := h
    rfl
  obtain ⟨m, p, ms, vs, rfl, hm, hv, hl, q⟩ := h
  refine ⟨_, (pss_cons (ps_set (i := 2) sc__by_ballot.nd rfl (Or.inl rfl) (pe_dnewT))
      (pss_cons (ps_for PassesOwn.never rfl (pi_list (pv 1)) (pg_tup rfl (pgs_cons (pg_name (i := 3) sc__by_ballot.nd rfl (Or.inl rfl)) (pgs_cons (pg_name (i := 4) sc__by_ballot.nd rfl (Or.inl rfl)) (pgs_cons (pg_name (i := 5) sc__by_ballot.nd rfl (Or.inl rfl)) pgs_nil)))) (pss_one (ps_if (pt_cmpR (Xk.k_in (K := K) (by rfl)) (pv 3) (pv 0) (by rfl)) (pss_one (ps_expr (pe_bm PySem.F.plainAttrs_list PySem.F.slot_list_append PySem.F.type_list_append mt_append (Xk.pe_dsetT (hu_of hr) (pv 2) (pv 4) (pe_lst pa_nil) ⟨by rfl, by rfl, by rfl, by rfl⟩) (pa_cons (pe_tup (pa_cons (pv 3) (pa_cons (pv 5) pa_nil))) pa_nil)))) pss_nil)))
      (pss_one (ps_ret (pv 2))))), ?_⟩
  wtm_at "x0"
  wtm_at "xs"
  intro d hd
  have T0 : TdOk K H (upd H d (.dT [])) d ms [] [] 0 := ⟨upd_same, ⟨hd⟩, .nil, ⟨[], rfl, fun k hk => (by cases hk), Nat.le_refl _⟩, fun t x => .inl ⟨rfl, rfl⟩, fun t x t' x' l h => (by cases h)⟩
  have s0 : Same H (upd H d (.dT [])) := Xk.same_new hd
  generalize upd H d (.dT []) = H1 at *
  clear hd
  wtm_at "xs"
  refine Xk.x_forL (xs := vs.map fun v => V.ref v.a) (fun i σ' H' => ∃ (y3 y4 y5 : Option V) (kvs : List (List Key × V)) (n : Nat), σ' = [some (.ref m), some (.ref p), some (.ref d), y3, y4, y5] ∧ Same H H' ∧ TdOk K H H' d ms (vs.take i) kvs n ∧ n ≤ i ∧ Ne ms (vs.take i) kvs) (Xk.sq_same hv.1 s0)
    ⟨_, _, _, [], 0, rfl, s0, T0, Nat.le_refl _, fun t x w e => (by cases e)⟩ (fun i σ' H' _ ⟨_, _, _, _, _, _, s, _⟩ => Xk.sq_same hv.1 s) ?_ ?_
  · clear T0 s0
    rintro i a σ' H2 hi ⟨y3, y4, y5, kvs, n, rfl, s2, T2, hn, hne⟩
    obtain ⟨v, hvi, rfl⟩ := Xk.of_map_at hi
    have hva := (hv.2 v (List.mem_of_getElem? hvi)).same s2
    have hil := Xk.at_lt hvi
    have hvt := hva.tp
    have hm2 := Xk.st_same hm s2
    have et : vs.take (i + 1) = vs.take i ++ [v] := by
      rw [List.take_add_one, hvi]
      rfl
    wtm_at "xs"
    refine Xk.x_inT hm2 rfl (Xk.flat_ints _) ?_
    rw [Xk.in_ints]
    wtm_at "xs"
    refine Xk.x_itd (fun h3 => ?_) (fun h3 => ?_)
    · have fin : ∀ (H3 : Hp) (kvs3 : List (List Key × V)) (n3 : Nat) (w : V) (R : VK), Same H H3 → TdOk K H H3 d ms (vs.take i) kvs3 n3 → valV kvs3 (ky v.t v.x) = some w → (∀ H4, Same H H4 → TdOk K H H4 d ms (vs.take (i + 1)) kvs3 n3 → R .non H4) →
          tyV K "list" w H3 ∧ tCons (tTup (tCons (tVar 3) (tCons (tVar 5) tNil))) tNil [some (.ref m), some (.ref p), some (.ref d), some (.int v.ix), some (.ref v.b), some v.e] H3 fun xs H4 => rAppend w xs H4 R := fun H3 kvs3 n3 w R s3 T3 hw r => by
        rcases T3.at_ v.t v.x with ⟨g, _⟩ | ⟨l, ps, g1, g2, g3, g4, g5⟩
        · rw [g] at hw
          cases hw
        · rw [g1] at hw
          cases hw
          have hpl : ps.length ≤ 60 := by
            have z := congrArg List.length g5
            rw [List.length_map] at z
            unfold grp at z
            have z2 := List.length_filter_le (fun u : Vt => decide (u.ix ∈ ms) && (decide (u.t = v.t) && decide (u.x = v.x))) (vs.take i)
            rw [List.length_take] at z2
            omega
          refine Xk.x_tyL (Xk.sq_of g3) ?_
          wtm_at "xs"
          intro q1 H4 hq1 s4 hq4
          have T4 := T3.same s4
          have hl4 := s4 _ _ g3
          wtm_at "xs"
          refine r _ (Xk.same_mut (s3.trans s4) g2) ?_
          rw [et]
          exact T4.add h3 g1 hl4 (fun p hp => Xk.st_same (g4 p hp) s4) g5 (Xk.st_of hq4)
      wtm_at "xs"
      refine ⟨.ref d, rfl, d, kvs, rfl, T2.hd, .ref v.b, rfl, ?_⟩
      wtm_at "xs"
      intro z H3 hz s3 hz3
      refine ⟨kvs, ky v.t v.x, v.b, s3 _ _ T2.hd, rfl, s3 _ _ hva.bl, ?_, fun w hw => ?_, fun hnn => ?_⟩
      · obtain ⟨ks, k1, _, k3⟩ := T2.ks
        have z := congrArg List.length k1
        rw [List.length_map, List.length_map] at z
        rw [sizeLine_eq]
        omega
      · exact fin H3 kvs n w _ (s2.trans s3) (T2.same s3) hw fun H4 s4 T4 => ⟨_, _, _, kvs, n, rfl, s4, T4, by omega, by rw [et]; exact hne.snoc v⟩
      · have T3 := T2.key hnn s2 hz s3 hz3
        have s3' : Same H (upd H3 d (.dT (putK kvs (ky v.t v.x) (.ref z)))) := Xk.same_mut (s2.trans s3) T2.fd
        exact fin _ _ _ _ _ s3' T3 (by rw [valV_put, if_pos rfl]) fun H4 s4 T4 => ⟨_, _, _, _, _, rfl, s4, T4, by omega, by rw [et]; exact hne.key h3 _⟩
    · wtm_at "xs"
      exact ⟨_, _, _, kvs, n, rfl, s2, by rw [et]; exact T2.skip h3, by omega, by rw [et]; exact hne.snoc v⟩
  · rintro σ' H2 ⟨y3, y4, y5, kvs, n, rfl, s2, T2, hn, hne⟩
    rw [List.length_map] at T2 hn hne
    rw [List.take_length] at T2 hne
    wtm_at "xs"
    exact q H2 d kvs n s2 T2 (by omega) hne
--CUT--
theorem filt_ix {α : Type} {f : α → Bool} : ∀ {vs : List α} {j : Nat} {v : α}, (vs.filter f)[j]? = some v → ∃ i, vs[i]? = some v ∧ (vs.take i).filter f = (vs.filter f).take j
  | [], j, v, h => by cases h
  | u :: r, j, v, h => by
    by_cases c : f u = true
    · rw [List.filter_cons, if_pos c] at h ⊢
      cases j with
      | zero =>
        refine ⟨0, ?_, rfl⟩
        exact h
      | succ j =>
        obtain ⟨i, h1, h2⟩ := filt_ix (vs := r) (j := j) h
        refine ⟨i + 1, h1, ?_⟩
        rw [List.take_succ_cons, List.take_succ_cons, List.filter_cons, if_pos c, h2]
    · rw [List.filter_cons, if_neg c] at h ⊢
      obtain ⟨i, h1, h2⟩ := filt_ix (vs := r) (j := j) h
      refine ⟨i + 1, h1, ?_⟩
      rw [List.take_succ_cons, List.filter_cons, if_neg c, h2]
theorem in_grp {ms : List Int} {vs : List Vt} {t x : Int} {v : Vt} : v ∈ grp ms vs t x ↔ v ∈ vs ∧ v.ix ∈ ms ∧ v.t = t ∧ v.x = x := by
  unfold grp
  rw [List.mem_filter]
  simp only [Bool.and_eq_true, decide_eq_true_eq]
theorem in_vot {ms : List Int} {vs : List Vt} {v : Vt} {m : Int} : m ∈ vot ms vs v ↔ m ∈ ms ∧ ∃ u ∈ vs, u.ix = m ∧ u.t = v.t ∧ u.x = v.x ∧ u.k = v.k := by
  unfold vot alk
  rw [List.mem_filter, List.any_eq_true]
  simp only [Bool.and_eq_true, decide_eq_true_eq]
theorem asc_eq {a b : List Int} (ha : a.Pairwise (· < ·)) (hb : b.Pairwise (· < ·)) (h : ∀ k, k ∈ a ↔ k ∈ b) : a = b := by
  have p : a.Perm b := (List.perm_ext_iff_of_nodup (ha.imp fun h => Int.ne_of_lt h) (hb.imp fun h => Int.ne_of_lt h)).mpr h
  exact p.eq_of_pairwise (fun x y _ _ h1 h2 => absurd h1 (Int.lt_asymm h2)) ha hb
theorem filt_in {ms : List Int} {p : Int → Bool} : (ms.filter fun m => decide (m ∈ ms.filter p)) = ms.filter p := by
  refine List.filter_congr fun m hm => ?_
  cases e : p m with
  | true => exact decide_eq_true (List.mem_filter.mpr ⟨hm, e⟩)
  | false => exact decide_eq_false fun z => Bool.noConfusion (e.symm.trans (List.mem_filter.mp z).2)
theorem ky_of {k : List Int} {t x : Int} (h : k.map Sum.inl = ky t x) : k = [t, x] := by
  match k, h with
  | [], h => cases h
  | [a], h => cases h
  | a :: b :: [], h =>
    injection h with h1 h2
    injection h2 with h2 _
    rw [Sum.inl.inj h1, Sum.inl.inj h2]
  | a :: b :: c :: r, h => cases h
theorem vmem {kvs : List (List Key × V)} {k : List Key} {v : V} (h : valV kvs k = some v) : (k, v) ∈ kvs := by
  unfold valV at h
  obtain ⟨p, hp, rfl⟩ := Option.map_eq_some_iff.mp h
  have h1 := List.mem_of_find?_eq_some hp
  have h2 := List.find?_some hp
  have h3 : p.1 = k := of_decide_eq_true h2
  rw [← h3]
  exact h1
theorem vhas {kvs : List (List Key × V)} {k : List Key} (h : k ∈ kvs.map (·.1)) : ∃ v, valV kvs k = some v := by
  cases c : valV kvs k with
  | some v => exact ⟨v, rfl⟩
  | none =>
    exfalso
    obtain ⟨p, hp, e2⟩ := List.mem_map.mp h
    unfold valV at c
    rw [Option.map_eq_none_iff, List.find?_eq_none] at c
    exact c p hp (decide_eq_true e2)
theorem key_zs {H0 H : Hp} {d : Addr} {ms : List Int} {vs : List Vt} {kvs : List (List Key × V)} {n : Nat} (T : TdOk K H0 H d ms vs kvs n) {ks : List (List Int)} (h1 : kvs.map (·.1) = ks.map fun k => k.map Sum.inl) {zs : List (Addr × List Int)} (hp : (zs.map (·.2)).Perm ks) {v : Vt} (hv : v ∈ vs) (hm : v.ix ∈ ms) : ∃ (i : Nat) (z : Addr × List Int), zs[i]? = some z ∧ z.2 = [v.t, v.x] := by
  rcases T.at_ v.t v.x with ⟨_, g⟩ | ⟨l, ps, g, _⟩
  · have z := in_grp (t := v.t) (x := v.x) |>.mpr ⟨hv, hm, rfl, rfl⟩
    rw [g] at z
    cases z
  · have m1 : ky v.t v.x ∈ kvs.map (·.1) := List.mem_map.mpr ⟨_, vmem g, rfl⟩
    rw [h1] at m1
    obtain ⟨k, hk, e⟩ := List.mem_map.mp m1
    have e2 := ky_of e
    subst e2
    obtain ⟨z, hz, e3⟩ := List.mem_map.mp (hp.mem_iff.mpr hk)
    obtain ⟨i, hi⟩ := List.mem_iff_getElem?.mp hz
    exact ⟨i, z, hi, e3⟩
theorem le_pair {t x t' x' : Int} (h : [t, x] ≤ [t', x']) : t < t' ∨ (t = t' ∧ x ≤ x') := by
  have h := List.not_lt.mpr h
  rw [List.cons_lt_cons_iff, List.cons_lt_cons_iff] at h
  have h2 : ¬ (([] : List Int) < []) := List.not_lt_nil _
  omega
theorem first_of {ms : List Int} {vs : List Vt} {zs : List (Addr × List Int)} {i j : Nat} {z : Addr × List Int} {v : Vt} (hz : zs[i]? = some z) (e : z.2 = [v.t, v.x]) (pw : (zs.map (·.2)).Pairwise (· ≤ ·)) (hall : ∀ u ∈ vs, u.ix ∈ ms → ∃ (i : Nat) (z : Addr × List Int), zs[i]? = some z ∧ z.2 = [u.t, u.x])
    (hj : (grp ms vs v.t v.x)[j]? = some v) (hit_ : hit ms vs v = true) (h1 : ∀ (i' : Nat) (z' : Addr × List Int), i' < i → zs[i']? = some z' → ∀ u ∈ vs, z'.2 = [u.t, u.x] → hit ms vs u = false) (h2 : ∀ (j' : Nat) (u : Vt), j' < j → (grp ms vs v.t v.x)[j']? = some u → hit ms vs u = false) : ∃ i0, First ms vs i0 v := by
  obtain ⟨i0, g1, g2⟩ := filt_ix hj
  refine ⟨i0, g1, hit_, fun j2 u hu hh => ?_⟩
  have hum := List.mem_of_getElem? hu
  have hix : u.ix ∈ ms := by
    unfold hit at hh
    rw [Bool.and_eq_true, decide_eq_true_eq] at hh
    exact hh.1
  obtain ⟨i2, z2, hz2, e2⟩ := hall u hum hix
  have hle : v.t < u.t ∨ (v.t = u.t ∧ v.x ≤ u.x) := by
    rcases Nat.lt_trichotomy i2 i with c | c | c
    · rw [h1 i2 z2 c hz2 u hum e2] at hh
      cases hh
    · subst c
      rw [hz] at hz2
      cases hz2
      rw [e] at e2
      injection e2 with a1 a2
      injection a2 with a2 _
      exact .inr ⟨a1, Int.le_of_eq a2⟩
    · have a1 : (zs.map (·.2))[i]? = some [v.t, v.x] := by rw [List.getElem?_map, hz, ← e]; rfl
      have a2 : (zs.map (·.2))[i2]? = some [u.t, u.x] := by rw [List.getElem?_map, hz2, ← e2]; rfl
      obtain ⟨l1, q1⟩ := List.getElem?_eq_some_iff.mp a1
      obtain ⟨l2, q2⟩ := List.getElem?_eq_some_iff.mp a2
      have q := List.pairwise_iff_getElem.mp pw i i2 l1 l2 c
      rw [q1, q2] at q
      exact le_pair q
  by_cases same : v.t = u.t ∧ v.x = u.x
  · refine .inr ⟨same.1, same.2, ?_⟩
    rcases Nat.lt_or_ge j2 i0 with c | c
    · exfalso
      have mu : u ∈ (vs.take i0).filter fun w => decide (w.ix ∈ ms) && (decide (w.t = v.t) && decide (w.x = v.x)) := by
        refine List.mem_filter.mpr ⟨List.mem_of_getElem? (i := j2) (by rw [List.getElem?_take_of_lt c]; exact hu), ?_⟩
        simp [hix, same.1, same.2]
      rw [g2] at mu
      obtain ⟨j', hj'⟩ := List.mem_iff_getElem?.mp mu
      have lj : j' < j := by
        have := Xk.at_lt hj'
        rw [List.length_take] at this
        omega
      rw [List.getElem?_take_of_lt lj] at hj'
      rw [h2 j' u lj hj'] at hh
      cases hh
    · exact c
  · unfold blt
    omega
--CUT--
theorem x_eqEnt {H : Hp} {Q : VK} {a b : V} {j k : En} (h : Xk.Pk K H 4 a (ent j)) (h' : Xk.Pk K H 4 b (ent k)) (hj : j < 6) (hk : k < 6) (q : Q (.bl (decide (j = k))) H) : rEqD K a b H Q := by
  refine ⟨_, _, h.1, h'.1, Xk.shaped_of h.lay (Nat.le_trans h.2.2 (by decide)), Xk.shaped_of h'.lay (Nat.le_trans h'.2.2 (by decide)), ?_⟩
  rw [ent_eqv hj hk]
  exact q
/-! ### what lawful votes are -/
def l2 (a b : Int × Int) : Prop := a.1 < b.1 ∨ (a.1 = b.1 ∧ a.2 < b.2)
def bp (v : Vt) : Int × Int := (v.t, v.x)
theorem l2_irr {a : Int × Int} (h : l2 a a) : False := by
  unfold l2 at h
  omega
theorem l2_tr {a b c : Int × Int} (h : l2 a b) (g : l2 b c) : l2 a c := by
  unfold l2 at *
  omega
theorem l2_eq {a b : Int × Int} (h : ¬ l2 a b) (g : ¬ l2 b a) : a = b := by
  unfold l2 at *
  exact Prod.ext (by omega) (by omega)
theorem l2_not {a b c : Int × Int} (h : ¬ l2 b a) (g : l2 b c) : l2 a c := by
  unfold l2 at *
  omega
theorem l2_nn {a b c : Int × Int} (h : ¬ l2 a b) (g : ¬ l2 b c) : ¬ l2 a c := by
  unfold l2 at *
  omega
def One (ms : List Int) (vs : List Vt) (B : Int × Int) : Prop := ∀ u ∈ vs, ∀ v ∈ vs, u.ix ∈ ms → v.ix ∈ ms → bp u = B → bp v = B → u.k = v.k
def Maj (ms S : List Int) : Prop := ms.length < 2 * (ms.filter fun m => decide (m ∈ S)).length
def Lets (vs : List Vt) (S : List Int) (B : Int × Int) (k : En) : Prop := ∀ u ∈ vs, u.ix ∈ S → l2 (bp u) B → (∀ w ∈ vs, w.ix ∈ S → l2 (bp w) B → ¬ l2 (bp u) (bp w)) → u.k = k
def May (ms : List Int) (vs : List Vt) (B : Int × Int) (k : En) : Prop := ∃ S : List Int, (∀ m ∈ S, m ∈ ms) ∧ Maj ms S ∧ Lets vs S B k
def Gd (ms : List Int) (vs : List Vt) (B : Int × Int) : Prop := One ms vs B ∧ ∀ u ∈ vs, u.ix ∈ ms → bp u = B → May ms vs B u.k
structure Least (ms : List Int) (vs : List Vt) (B : Int × Int) : Prop where
  at_ : ∃ v ∈ vs, v.ix ∈ ms ∧ bp v = B
  bad : ¬ Gd ms vs B
  low : ∀ v ∈ vs, v.ix ∈ ms → l2 (bp v) B → Gd ms vs (bp v)
theorem Least.uniq {ms : List Int} {vs : List Vt} {B C : Int × Int} (h : Least ms vs B) (g : Least ms vs C) : B = C := by
  obtain ⟨u, h1, h2, h3⟩ := h.at_
  obtain ⟨v, g1, g2, g3⟩ := g.at_
  refine l2_eq (fun z => ?_) fun z => ?_
  · exact h.bad (h3 ▸ g.low u h1 h2 (h3 ▸ z))
  · exact g.bad (g3 ▸ h.low v g1 g2 (g3 ▸ z))
theorem Maj.mono {ms S T : List Int} (h : Maj ms S) (hs : ∀ m ∈ ms, m ∈ S → m ∈ T) : Maj ms T := by
  unfold Maj at *
  have z : (ms.filter fun m => decide (m ∈ S)).length ≤ (ms.filter fun m => decide (m ∈ T)).length := by
    clear h
    induction ms with
    | nil => exact Nat.le_refl _
    | cons m r ih =>
      have i2 := ih fun x hx => hs x (List.mem_cons_of_mem _ hx)
      rw [List.filter_cons, List.filter_cons]
      by_cases c : m ∈ S
      · rw [if_pos (decide_eq_true c), if_pos (decide_eq_true (hs m (List.mem_cons_self ..) c))]
        exact Nat.succ_le_succ i2
      · rw [if_neg (by rw [decide_eq_false c]; decide)]
        split
        · exact Nat.le_succ_of_le i2
        · exact i2
  omega
theorem ex_max : ∀ L : List (Int × Int), L ≠ [] → ∃ c ∈ L, ∀ d ∈ L, ¬ l2 c d
  | [], h => absurd rfl h
  | [a], _ => ⟨a, List.mem_cons_self .., fun d hd => by
    rw [List.mem_singleton.mp hd]
    exact l2_irr⟩
  | a :: b :: r, _ => by
    obtain ⟨c, h1, h2⟩ := ex_max (b :: r) (fun z => by cases z)
    by_cases g : l2 c a
    · refine ⟨a, List.mem_cons_self .., fun d hd => ?_⟩
      rcases List.mem_cons.mp hd with rfl | hd
      · exact l2_irr
      · exact fun z => h2 d hd (l2_tr g z)
    · refine ⟨c, List.mem_cons_of_mem _ h1, fun d hd => ?_⟩
      rcases List.mem_cons.mp hd with rfl | hd
      · exact g
      · exact h2 d hd
/-- the last vote of each below a ballot -/
structure La (ms : List Int) (vs : List Vt) (B : Int × Int) (f : Int → Option (Int × Int)) : Prop where
  no : ∀ m ∈ ms, f m = none → ∀ u ∈ vs, u.ix = m → ¬ l2 (bp u) B
  yes : ∀ m C, f m = some C → m ∈ ms ∧ l2 C B ∧ (∃ u ∈ vs, u.ix = m ∧ bp u = C) ∧ ∀ u ∈ vs, u.ix = m → l2 (bp u) B → ¬ l2 C (bp u)
theorem La.case1 {ms : List Int} {vs : List Vt} {B : Int × Int} {f : Int → Option (Int × Int)} (h : La ms vs B f) {k : En} (g : Maj ms (ms.filter fun m => (f m).isNone)) : May ms vs B k := by
  refine ⟨_, fun m hm => (List.mem_filter.mp hm).1, g, fun u hu hs hl _ => ?_⟩
  obtain ⟨h1, h2⟩ := List.mem_filter.mp hs
  exact absurd hl (h.no _ h1 (Option.isNone_iff_eq_none.mp h2) u hu rfl)
def upto (f : Int → Option (Int × Int)) (C : Int × Int) (m : Int) : Prop := f m = none ∨ ∃ D, f m = some D ∧ ¬ l2 C D
theorem La.case2 {ms : List Int} {vs : List Vt} {B C : Int × Int} {f : Int → Option (Int × Int)} (h : La ms vs B f) (ho : ∀ D, l2 D B → One ms vs D) {k : En} {m0 : Int} (h0 : f m0 = some C) {S : List Int} (hS : ∀ m, m ∈ S ↔ m ∈ ms ∧ upto f C m) (g : Maj ms S) (hk : ∀ u ∈ vs, u.ix ∈ ms → bp u = C → u.k = k) : May ms vs B k := by
  refine ⟨S, fun m hm => ((hS m).mp hm).1, g, fun u hu hs hl hmax => ?_⟩
  obtain ⟨y1, y2, ⟨u0, y3, y4, y5⟩, y6⟩ := h.yes _ _ h0
  obtain ⟨h1, h2⟩ := (hS _).mp hs
  have hm0 : m0 ∈ S := (hS _).mpr ⟨y1, .inr ⟨C, h0, l2_irr⟩⟩
  have n1 := hmax u0 y3 (by rw [y4]; exact hm0) (by rw [y5]; exact y2)
  rw [y5] at n1
  have n2 : ¬ l2 C (bp u) := by
    rcases h2 with h2 | ⟨D, h2, h3⟩
    · exact absurd hl (h.no _ h1 h2 u hu rfl)
    · exact l2_nn h3 ((h.yes _ _ h2).2.2.2 u hu rfl hl)
  exact hk u hu h1 (l2_eq n1 n2)
theorem La.back {ms : List Int} {vs : List Vt} {B : Int × Int} {f : Int → Option (Int × Int)} (h : La ms vs B f) {k : En} (g : May ms vs B k) : Maj ms (ms.filter fun m => (f m).isNone) ∨ ∃ m0 C, f m0 = some C ∧ (∃ u ∈ vs, u.ix ∈ ms ∧ bp u = C ∧ u.k = k) ∧ ∀ S : List Int, (∀ m, m ∈ S ↔ m ∈ ms ∧ upto f C m) → Maj ms S := by
  obtain ⟨S, g1, g2, g3⟩ := g
  by_cases c : ∀ m ∈ S, f m = none
  · exact .inl (g2.mono fun m hm hs => List.mem_filter.mpr ⟨hm, by rw [c m hs]; rfl⟩)
  · obtain ⟨m1, c1, c2⟩ : ∃ m, m ∈ S ∧ f m ≠ none := by
      apply Classical.byContradiction
      intro z
      exact c fun m hm => Classical.byContradiction fun w => z ⟨m, hm, w⟩
    obtain ⟨C1, c3⟩ := Option.ne_none_iff_exists'.mp c2
    obtain ⟨C, d1, d2⟩ := ex_max (S.filterMap f) (fun z => by
      have : C1 ∈ S.filterMap f := List.mem_filterMap.mpr ⟨m1, c1, c3⟩
      rw [z] at this
      cases this)
    obtain ⟨m0, e1, e2⟩ := List.mem_filterMap.mp d1
    obtain ⟨y1, y2, ⟨u0, y3, y4, y5⟩, y6⟩ := h.yes _ _ e2
    refine .inr ⟨m0, C, e2, ⟨u0, y3, by rw [y4]; exact y1, y5, ?_⟩, fun T hT => g2.mono fun m hm hs => (hT m).mpr ⟨hm, ?_⟩⟩
    · refine g3 u0 y3 (by rw [y4]; exact e1) (by rw [y5]; exact y2) fun w hw hws hwl => ?_
      rw [y5]
      cases ef : f w.ix with
      | none => exact absurd hwl (h.no _ (g1 _ hws) ef w hw rfl)
      | some D => exact l2_nn (d2 D (List.mem_filterMap.mpr ⟨_, hws, ef⟩)) ((h.yes _ _ ef).2.2.2 w hw rfl hwl)
    · cases ef : f m with
      | none => exact .inl ef
      | some D => exact .inr ⟨D, ef, d2 D (List.mem_filterMap.mpr ⟨_, hs, ef⟩)⟩
theorem maj_iff {ms S : List Int} : decide ((ms.length : Int) < 2 * ((ms.filter fun m => decide (m ∈ S)).length : Int)) = true ↔ Maj ms S := by
  rw [decide_eq_true_iff]
  unfold Maj
  omega
theorem nmem {kvs : List (Key × V)} {k : Key} {v : V} (h : valV kvs k = some v) : (k, v) ∈ kvs := by
  unfold valV at h
  obtain ⟨p, hp, rfl⟩ := Option.map_eq_some_iff.mp h
  have h1 := List.mem_of_find?_eq_some hp
  have h2 := List.find?_some hp
  have h3 : p.1 = k := of_decide_eq_true h2
  rw [← h3]
  exact h1
--CUT--
def GrOk (K : PySem.W.Frag) (H : Hp) (q : Addr) (ms : List Int) (vs : List Vt) (v : Vt) : Prop := ∃ b e w, H q = some (.tup [.ref b, e, .ref w]) ∧ H b = some (.tup [.int v.t, .int v.x]) ∧ Xk.Pk K H 4 e (ent v.k) ∧ v.k < 6 ∧ H w = some (.tup ((vot ms vs v).map V.int))
def sp_grounds_of (K : PySem.W.Frag) : Sp := fun vs' H Q _ => ∃ m p ms vs, vs' = [.ref m, .ref p] ∧ SqT K H m (ms.map V.int) ∧ ms.Pairwise (· < ·) ∧ ms.length ≤ 10 ∧ VsAt K H p vs ∧ vs.length ≤ 60 ∧
  (∀ H', Same H H' → (∀ v ∈ vs, hit ms vs v = false) → Q .non H') ∧ ∀ H' q i v, Same H H' → GrOk K H' q ms vs v → First ms vs i v → Q (.ref q) H'
theorem ok_grounds_of (T : Txt K mg) : FnOk P w K mg base CX0 2 T.f_grounds_of T.d_grounds_of ["members", "votes"] (sp_grounds_of K) := by
  refine T.F_grounds_of.ok sc_grounds_of (fun vs H Q E h => ?_) (fun cdv A outer s H vs Q E hr h => ?_)
  · obtain ⟨m, p, ms, vs, rfl, _⟩ := h
    rfl
  obtain ⟨m, p, ms, vs, rfl, hm, hasc, hml, hv, hl, q1, q2⟩ := h
  refine ⟨_, (pss_cons (ps_set (i := 2) sc_grounds_of.nd rfl (Or.inl rfl) (pe_call (ok__by_ballot T) (hr.mono (by decide)) (by rfl) T.g__by_ballot T.F__by_ballot.kp T.b__by_ballot .nil pass0 (pa_cons (pv 0) (pa_cons (pv 1) pa_nil))))
      (pss_cons (ps_for PassesOwn.never rfl (pi_list (pe_callB (Xk.k_sortT rfl hr.units) (by rfl) T.m_sorted (by decide +kernel) (pa_cons (pv 2) pa_nil))) (pg_name (i := 3) sc_grounds_of.nd rfl (Or.inl rfl)) (pss_one (ps_for PassesOwn.never rfl (pi_list (pe_dget (hu_of hr) (pv 2) (pv 3) (fun _ _ => rfl))) (pg_tup rfl (pgs_cons (pg_name (i := 4) sc_grounds_of.nd rfl (Or.inl rfl)) (pgs_cons (pg_name (i := 5) sc_grounds_of.nd rfl (Or.inr rfl)) pgs_nil))) (pss_cons (ps_set (i := 6) sc_grounds_of.nd rfl (Or.inl rfl) (pe_callB (Xk.k_sortedSet (w := w) rfl (by rfl)) (by rfl) T.m_sorted (by decide +kernel) (pa_cons (pe_callTy (Xk.k_setOfL (K := K) (w := w) rfl (by rfl) (by rfl)) (by rfl) T.m_set (by decide +kernel) (pa_cons (pe_lc (own := [("index", 7), ("other", 8)]) (g := gTup K 2 (gCons (gName 7) (gCons (gName 8) gNil))) rfl sc_grounds_of.nd  (pi_list (pe_dget (hu_of hr) (pv 2) (pv 3) (fun _ _ => rfl))) (blkOk_by (N := N_grounds_of) (sc := defScope s_grounds_of) (own := [("index", 7), ("other", 8)]) (by decide +kernel)) (fun _ _ _ _ _ => Xk.k_gtup (K := K) (by rfl) rfl (pgs_cons (pg_name (i := 7) sc_grounds_of.nd rfl (Or.inl rfl)) (pgs_cons (pg_name (i := 8) sc_grounds_of.nd rfl (Or.inl rfl)) pgs_nil))) (fun _ _ _ _ _ => pts_one (pt_cmpR (Xk.k_eqD (K := K) hr.units (by rfl)) (pv 8) (pv 5) (nomark _))) (fun _ _ _ _ _ => (pv 7))) pa_nil)) pa_nil)))
      (pss_one (ps_if (pt_val (pe_call (ok_more_than_half T) (hr.mono (by decide)) (by rfl) T.g_more_than_half T.F_more_than_half.kp T.b_more_than_half .nil pass0 (pa_cons (pv 0) (pa_cons (pv 6) pa_nil)))) (pss_one (ps_ret (pe_tup (pa_cons (pv 3) (pa_cons (pv 5) (pa_cons (pe_callTy (Xk.k_tuple (K := K) (by rfl)) (by rfl) T.m_tuple (by decide +kernel) (pa_cons (pv 6) pa_nil)) pa_nil)))))) pss_nil))))))
      (pss_one (ps_ret (pe_non))))), ?_⟩
  wtm_at "x0"
  wtm_at "xs"
  refine ⟨m, p, ms, vs, rfl, hm, hv, hl, fun H1 d kvs n s1 T hn _ => ?_⟩
  obtain ⟨ks, k1, k2, k3⟩ := T.ks
  wtm_at "xs"
  refine ⟨d, kvs, ks, rfl, T.hd, k1, fun k hk => ?_, by omega, fun sp zs hsp hperm hpw hz => ?_⟩
  · obtain ⟨t, x, rfl⟩ := k2 k hk
    exact fun z => by cases z
  have s2 : Same H1 (upd H1 sp (.lst (zs.map fun z => V.ref z.1))) := Xk.same_new hsp
  have hsl : upd H1 sp (.lst (zs.map fun z => V.ref z.1)) sp = some (.lst (zs.map fun z => V.ref z.1)) := upd_same
  generalize upd H1 sp (.lst (zs.map fun z => V.ref z.1)) = H2 at *
  have T2 := T.same s2
  have hz2 : ∀ z ∈ zs, H2 z.1 = some (.tup (z.2.map V.int)) := fun z h => s2 _ _ (hz z h)
  have hall : ∀ u ∈ vs, u.ix ∈ ms → ∃ (i : Nat) (z : Addr × List Int), zs[i]? = some z ∧ z.2 = [u.t, u.x] := fun u hu hm => key_zs T k1 hperm hu hm
  have hv2 := hv.same (s1.trans s2)
  have hm2 := Xk.st_same hm (s1.trans s2)
  have s02 := s1.trans s2
  clear T hz hsp s1 s2 hv hm
  refine Xk.x_forL (xs := zs.map fun z => V.ref z.1) (fun i σ' H' => ∃ y3 y4 y5 y6 y7 y8 : Option V, σ' = [some (.ref m), some (.ref p), some (.ref d), y3, y4, y5, y6, y7, y8] ∧ Same H2 H' ∧ ∀ i' z', i' < i → zs[i']? = some z' → ∀ u ∈ vs, z'.2 = [u.t, u.x] → hit ms vs u = false) (Xk.sq_of hsl)
    ⟨_, _, _, _, _, _, rfl, Same.refl _, fun i' z' h => absurd h (Nat.not_lt_zero _)⟩ (fun i σ' H' _ ⟨_, _, _, _, _, _, _, s, _⟩ => Xk.sq_of (s _ _ hsl)) ?_ ?_
  · rintro i a σ' H3 hi ⟨y3, y4, y5, y6, y7, y8, rfl, s3, hbef⟩
    obtain ⟨z, hzi, rfl⟩ := Xk.of_map_at hi
    have hzm := List.mem_of_getElem? hzi
    obtain ⟨t, x, etx⟩ := k2 z.2 (hperm.mem_iff.mp (List.mem_map_of_mem (f := fun z : Addr × List Int => z.2) hzm))
    have hb3 := s3 _ _ (hz2 z hzm)
    rw [etx] at hb3
    have T3 := T2.same s3
    obtain ⟨w, hw⟩ : ∃ w, valV kvs (ky t x) = some w := vhas (by
      rw [k1]
      refine List.mem_map.mpr ⟨z.2, hperm.mem_iff.mp (List.mem_map_of_mem (f := fun z : Addr × List Int => z.2) hzm), ?_⟩
      rw [etx]
      rfl)
    obtain ⟨l, ps, g1, g2, g3, g4, g5⟩ : ∃ (l : Addr) (ps : List (Addr × Vt)), valV kvs (ky t x) = some (.ref l) ∧ Xk.Fr l H ∧ H3 l = some (.lst (ps.map fun p : Addr × Vt => V.ref p.1)) ∧ (∀ p ∈ ps, SqT K H3 p.1 [.int p.2.ix, p.2.e]) ∧ ps.map (·.2) = grp ms vs t x := by
      rcases T3.at_ t x with ⟨g, _⟩ | g
      · rw [g] at hw
        cases hw
      · exact g
    have hget : DGet H3 d (.ref z.1) (some (.ref l)) := by
      rw [← g1]
      exact DGet.t (k := ky t x) T3.hd hb3
    wtm_at "xs"
    refine ⟨d, .ref l, rfl, hget, ?_⟩
    have hv3 : ∀ v ∈ vs, VtAt K H3 v := fun v hv => (hv2.2 v hv).same s3
    have hgv : ∀ (j : Nat) (u : Vt), (grp ms vs t x)[j]? = some u → u ∈ vs ∧ u.ix ∈ ms ∧ u.t = t ∧ u.x = x := fun j u h => in_grp.mp (List.mem_of_getElem? h)
    refine Xk.x_forL (xs := ps.map fun p : Addr × Vt => V.ref p.1) (fun j σ' H' => ∃ y4 y5 y6 y7 y8 : Option V, σ' = [some (.ref m), some (.ref p), some (.ref d), some (.ref z.1), y4, y5, y6, y7, y8] ∧ Same H3 H' ∧ ∀ j' u, j' < j → (grp ms vs t x)[j']? = some u → hit ms vs u = false) (Xk.sq_of g3)
      ⟨_, _, _, _, _, rfl, Same.refl _, fun j' u h => absurd h (Nat.not_lt_zero _)⟩ (fun j σ' H' _ ⟨_, _, _, _, _, _, s, _⟩ => Xk.sq_of (s _ _ g3)) ?_ ?_
    · rintro j a σ' H4 hj ⟨y4, y5, y6, y7, y8, rfl, s4, hbefj⟩
      obtain ⟨pr, hpj, rfl⟩ := Xk.of_map_at hj
      obtain ⟨pa, v⟩ := pr
      have hgj : (grp ms vs t x)[j]? = some v := by
        rw [← g5, List.getElem?_map, hpj]
        rfl
      obtain ⟨hvm, hvi, rfl, rfl⟩ := hgv j v hgj
      have hpv := Xk.st_same (g4 _ (List.mem_of_getElem? hpj)) s4
      replace hpv : SqT K H4 pa [.int v.ix, v.e] := hpv
      have hve := (hv3 v hvm).same s4
      have hget4 : DGet H4 d (.ref z.1) (some (.ref l)) := by
        rw [← g1]
        exact DGet.t (k := ky v.t v.x) ((T3.same s4).hd) (s4 _ _ hb3)
      have hm4 := Xk.st_same hm2 (s3.trans s4)
      have hz4 := s4 _ _ hb3
      have g34 := s4 _ _ g3
      have hvs4 : ∀ u ∈ vs, VtAt K H4 u := fun u hu => (hv3 u hu).same s4
      wtm_at "xs"
      refine ⟨d, .ref l, rfl, hget4, ?_⟩
      refine Xk.x_lcL (xs := ps.map fun p : Addr × Vt => V.ref p.1) (fun Dl i2 H' => Same H4 H' ∧ H' Dl = some (.lst ((((ps.take i2).filter fun p : Addr × Vt => decide (p.2.k = v.k)).map fun p => p.2.ix).map V.int))) (Xk.sq_of g34) ?_ ?_ ?_ ?_
      · intro Dl hD
        exact ⟨Xk.same_fr hD, upd_same⟩
      · rintro Dl i2 H' hD ⟨s5, _⟩
        exact Xk.sq_of (s5 _ _ g34)
      · rintro Dl hD i2 a H5 ha ⟨s5, h5⟩
        obtain ⟨pu, hpu, rfl⟩ := Xk.of_map_at ha
        have hpu5 := Xk.st_same (g4 _ (List.mem_of_getElem? hpu)) (s4.trans s5)
        have hil := Xk.at_lt hpu
        have hgu : (grp ms vs v.t v.x)[i2]? = some pu.2 := by
          rw [← g5, List.getElem?_map, hpu]
          rfl
        have hum := (hgv i2 pu.2 hgu).1
        have hue := (hvs4 pu.2 hum).same s5
        have hve5 := hve.same s5
        have lsz : (((ps.take i2).filter fun p : Addr × Vt => decide (p.2.k = v.k)).map fun p => p.2.ix).length ≤ ps.length := by
          rw [List.length_map]
          refine Nat.le_trans (List.length_filter_le ..) ?_
          rw [List.length_take]
          exact Nat.min_le_right ..
        have hpl : ps.length ≤ 60 := by
          have z := congrArg List.length g5
          rw [List.length_map] at z
          unfold grp at z
          have z2 := List.length_filter_le (fun u : Vt => decide (u.ix ∈ ms) && (decide (u.t = v.t) && decide (u.x = v.x))) vs
          omega
        wtm_at "xs"
        refine ⟨rfl, ?_⟩
        wtm_at "xs"
        refine x_eqEnt hue.en hve5.en hue.kl hve5.kl ?_
        wtm_at "xs"
        refine Xk.x_itd (fun h8 => ?_) (fun h8 => ?_)
        · wtm_at "xs"
          refine ⟨_, h5, Xk.size_lt (by rw [List.length_map]; omega), Xk.same_mut s5 hD, ?_⟩
          rw [upd_same, List.take_add_one, hpu, List.filter_append]
          simp [h8]
        · wtm_at "xs"
          refine ⟨s5, ?_⟩
          rw [h5, List.take_add_one, hpu, List.filter_append]
          simp [h8]
      · rintro Dl H5 hD ⟨s5, h5⟩
        rw [List.length_map, List.take_length] at h5
        have hpl : ps.length ≤ 60 := by
          have z := congrArg List.length g5
          rw [List.length_map] at z
          unfold grp at z
          have z2 := List.length_filter_le (fun u : Vt => decide (u.ix ∈ ms) && (decide (u.t = v.t) && decide (u.x = v.x))) vs
          omega
        have lsz : ((ps.filter fun p : Addr × Vt => decide (p.2.k = v.k)).map fun p => p.2.ix).length ≤ 60 := by
          rw [List.length_map]
          exact Nat.le_trans (List.length_filter_le ..) hpl
        wtm_at "xs"
        refine Xk.x_setOfL (Xk.sq_of h5) (by omega) fun e H6 n6 he s6 h6 hn6 => ?_
        wtm_at "xs"
        refine Xk.x_sortedSet h6 (by omega) fun wp H7 ws hp1 hp2 hp3 hwp s7 h7 => ?_
        have hws : ws = vot ms vs v := asc_eq hp1 (hasc.filter _) fun k => by
          rw [hp2, decide_eq_true_iff, List.mem_map, in_vot]
          constructor
          · rintro ⟨pu, hpu, rfl⟩
            obtain ⟨hm1, hm2⟩ := List.mem_filter.mp hpu
            have hg : pu.2 ∈ grp ms vs v.t v.x := by
              rw [← g5]
              exact List.mem_map_of_mem (f := fun p : Addr × Vt => p.2) hm1
            obtain ⟨a1, a2, a3, a4⟩ := in_grp.mp hg
            exact ⟨a2, pu.2, a1, rfl, a3, a4, of_decide_eq_true hm2⟩
          · rintro ⟨a1, u, a2, rfl, a3, a4, a5⟩
            have hg : u ∈ ps.map (·.2) := by
              rw [g5]
              exact in_grp.mpr ⟨a2, a1, a3, a4⟩
            obtain ⟨pu, hpu, rfl⟩ := List.mem_map.mp hg
            exact ⟨pu, List.mem_filter.mpr ⟨hpu, decide_eq_true a5⟩, rfl⟩
        subst hws
        have s47 := s5.trans (s6.trans s7)
        have hm7 := Xk.st_same hm4 s47
        have hz7 := s47 _ _ hz4
        have hve7 := hve.same s47
        clear h5 h6 s5 s6 s7 he hwp hD
        wtm_at "xs"
        refine ⟨m, wp, ms, vot ms vs v, rfl, hm7, .inl (Xk.sq_of h7), by omega, fun H8 s8 => ?_⟩
        have hfi : (ms.filter fun m => decide (m ∈ vot ms vs v)) = vot ms vs v := filt_in
        rw [hfi]
        have hhit : hit ms vs v = decide (ms.length < 2 * (vot ms vs v).length) := by
          unfold hit
          rw [decide_eq_true hvi, Bool.true_and]
        have h78 := s8 _ _ h7
        have hz8 := s8 _ _ hz7
        have hve8 := hve7.same s8
        clear h7 hz7 hve7
        wtm_at "xs"
        refine Xk.x_itd (fun hc => ?_) (fun hc => ?_)
        · wtm_at "xs"
          intro w1 H9 hw1 s9 h9
          wtm_at "xs"
          intro q1 H10 hq1 s10 h10
          have s410 := s4.trans (s47.trans (s8.trans (s9.trans s10)))
          obtain ⟨i0, hF⟩ := first_of hzi etx hpw hall hgj (by rw [hhit]; exact decide_eq_true (by omega)) hbef hbefj
          exact q2 H10 q1 i0 v (s02.trans (s3.trans s410)) ⟨z.1, v.e, w1, h10, (s9.trans s10) _ _ hz8, (hve8.en).same (s9.trans s10), hve8.kl, s10 _ _ h9⟩ hF
        · wtm_at "xs"
          refine ⟨_, _, _, _, _, rfl, s4.trans (s47.trans s8), fun j' u hj' hu => ?_⟩
          rcases Nat.lt_succ_iff_lt_or_eq.mp hj' with c | c
          · exact hbefj j' u c hu
          · subst c
            rw [hgj] at hu
            cases hu
            rw [hhit]
            exact decide_eq_false (by omega)
    · rintro σ' H4 ⟨y4, y5, y6, y7, y8, rfl, s4, hbefj⟩
      refine ⟨_, _, _, _, _, _, rfl, s3.trans s4, fun i' z' hi' hz' u hu e => ?_⟩
      rcases Nat.lt_succ_iff_lt_or_eq.mp hi' with c | c
      · exact hbef i' z' c hz' u hu e
      · subst c
        rw [hzi] at hz'
        cases hz'
        rw [etx] at e
        injection e with e1 e2
        injection e2 with e2 _
        cases eh : hit ms vs u with
        | false => rfl
        | true =>
          have hix : u.ix ∈ ms := by
            unfold hit at eh
            rw [Bool.and_eq_true, decide_eq_true_eq] at eh
            exact eh.1
          obtain ⟨j, hj⟩ := List.mem_iff_getElem?.mp (in_grp.mpr ⟨hu, hix, e1.symm, e2.symm⟩)
          have := Xk.at_lt hj
          rw [hbefj j u (by rw [← g5] at this; rw [List.length_map] at this ⊢; exact this) hj] at eh
          cases eh
  · rintro σ' H3 ⟨y3, y4, y5, y6, y7, y8, rfl, s3, hbef⟩
    rw [List.length_map] at hbef
    wtm_at "xs"
    refine q1 H3 (s02.trans s3) fun v hv => ?_
    cases e : hit ms vs v with
    | false => rfl
    | true =>
      have hix : v.ix ∈ ms := by
        unfold hit at e
        rw [Bool.and_eq_true, decide_eq_true_eq] at e
        exact e.1
      obtain ⟨i, z, hz, e2⟩ := hall v hv hix
      rw [hbef i z (Xk.at_lt hz) hz v hv e2] at e
      cases e
--CUT--
def sp_choice_of (K : PySem.W.Frag) : Sp := fun vs' H Q _ => ∃ m p ms vs, vs' = [.ref m, .ref p] ∧ SqT K H m (ms.map V.int) ∧ ms.Pairwise (· < ·) ∧ ms.length ≤ 10 ∧ VsAt K H p vs ∧ vs.length ≤ 60 ∧
  (∀ H', Same H H' → (∀ v ∈ vs, hit ms vs v = false) → Q .non H') ∧ ∀ H' e i v, Same H H' → Xk.Pk K H' 4 e (ent v.k) → v.k < 6 → First ms vs i v → Q e H'
theorem ok_choice_of (T : Txt K mg) : FnOk P w K mg base CX0 3 T.f_choice_of T.d_choice_of ["members", "votes"] (sp_choice_of K) := by
  refine T.F_choice_of.ok sc_choice_of (fun vs H Q E h => ?_) (fun cdv A outer s H vs Q E hr h => ?_)
  · obtain ⟨m, p, ms, vs, rfl, _⟩ := h
    rfl
  obtain ⟨m, p, ms, vs, rfl, hm, hasc, hml, hv, hl, q1, q2⟩ := h
  refine ⟨_, (pss_cons (ps_set (i := 2) sc_choice_of.nd rfl (Or.inl rfl) (pe_call (ok_grounds_of T) (hr.mono (by decide)) (by rfl) T.g_grounds_of T.F_grounds_of.kp T.b_grounds_of .nil pass0 (pa_cons (pv 0) (pa_cons (pv 1) pa_nil))))
      (pss_one (ps_ret (pe_ifExp (pt_cmpR Xk.op_nIsN (pv 2) (pe_non) (nomark _)) (pe_non) (pe_ix (Xk.k_ixT (K := K) (by rfl)) (pv 2) (pe_int) (fun _ _ => rfl)))))), ?_⟩
  wtm_at "x0"
  wtm_at "xs"
  refine ⟨m, p, ms, vs, rfl, hm, hasc, hml, hv, hl, fun H1 s1 hno => ?_, fun H1 g i v s1 hG hF => ?_⟩
  · wtm_at "xs"
    exact q1 H1 s1 hno
  · obtain ⟨b, e, w, g1, g2, g3, g4, g5⟩ := hG
    wtm_at "xs"
    exact q2 H1 e i v s1 g3 g4 hF
def vd (v : Vt) : PyData := .tuple [.int v.ix, .tuple [.int v.t, .int v.x], ent v.k]
theorem vd_eqv {m : Int} {u v : Vt} (hu : u.k < 6) (hv : v.k < 6) : PyData.eqv (vd u) (.tuple [.int m, .tuple [.int v.t, .int v.x], ent v.k]) = (decide (u.ix = m) && alk u v) := by
  have h : PyData.eqv (vd u) (.tuple [.int m, .tuple [.int v.t, .int v.x], ent v.k]) = ((u.ix == m) && ((u.t == v.t && (u.x == v.x && true)) && (PyData.eqv (ent u.k) (ent v.k) && true))) := by
    unfold vd
    simp only [PyData.eqv, PyData.eqvAll]
  rw [h, ent_eqv hu hv]
  unfold alk
  rw [Bool.eq_iff_iff]
  simp only [Bool.and_eq_true, beq_iff_eq, decide_eq_true_eq, and_true, and_assoc]
theorem vd_in {m : Int} {v : Vt} (hv : v.k < 6) : ∀ vs : List Vt, (∀ u ∈ vs, u.k < 6) → Xk.inD (.tuple [.int m, .tuple [.int v.t, .int v.x], ent v.k]) (vs.map vd) = vs.any fun u => decide (u.ix = m) && alk u v := fun vs h => by
  unfold Xk.inD
  rw [List.any_map]
  induction vs with
  | nil => rfl
  | cons u r ih =>
    rw [List.any_cons, List.any_cons, ih fun w hw => h w (List.mem_cons_of_mem _ hw)]
    congr 1
    exact vd_eqv (h u (List.mem_cons_self ..)) hv
theorem VtAt.pk {H : Hp} {v : Vt} (h : VtAt K H v) : Xk.Pk K H 6 (.ref v.a) (vd v) := Xk.pk_tup3 (n := 5) h.tp Xk.pk_int ((Xk.pk_tup2 (n := 4) (Xk.st_of h.bl) Xk.pk_int Xk.pk_int)) (h.en.mono (by decide))
theorem pk_vts {H : Hp} : ∀ vs : List Vt, (∀ v ∈ vs, VtAt K H v) → Xk.PkAll K H 6 (vs.map fun v => V.ref v.a) (vs.map vd)
  | [], _ => Xk.pk_nil
  | v :: r, h => Xk.pk_cons (h v (List.mem_cons_self ..)).pk (pk_vts r fun u hu => h u (List.mem_cons_of_mem _ hu))
--CUT--
/-- the members after rows of entries -/
def memAt (fm : List Int) (ks : List En) : List Int := ks.foldl (fun a k => match k with
  | .mem l => l
  | _ => a) fm
theorem memAt_snoc {fm : List Int} {ks : List En} {k : En} : memAt fm (ks ++ [k]) = match k with
  | .mem l => l
  | _ => memAt fm ks := by
  unfold memAt
  rw [List.foldl_append]
  rfl
theorem dp_of_ints {H : Hp} : ∀ (l : List Int) {xs : List V}, DpAll K H xs (Xk.dInts l) → xs = l.map V.int
  | [], _, h => by
    cases h
    rfl
  | i :: r, _, h => by
    cases h with
    | cons h1 h2 =>
      cases h1
      rw [List.map_cons, dp_of_ints r h2]
/-- an entry in the heap: a word and what is told -/
theorem ent_at {H : Hp} {v : V} {k : En} (h : Xk.Pk K H 4 v (ent k)) : ∃ (a : Addr) (x y : V), v = .ref a ∧ SqT K H a [x, y] ∧ ((∃ l b, k = .mem l ∧ x = .str (Str.ofString "members") ∧ y = .ref b ∧ SqT K H b (l.map V.int)) ∨ ((∀ l, k ≠ .mem l) ∧ x = .str (Str.ofString "batch"))) := by
  have h1 := h.1
  cases k with
  | mem l =>
    cases h1 with
    | tup hs ha =>
      cases ha with
      | cons h2 h3 =>
        cases h2
        cases h3 with
        | cons h4 h5 =>
          cases h5
          cases h4 with
          | tup hs2 ha2 =>
            refine ⟨_, _, _, rfl, hs, .inl ⟨l, _, rfl, rfl, rfl, ?_⟩⟩
            rw [← dp_of_ints l ha2]
            exact hs2
  | _ =>
    cases h1 with
    | tup hs ha =>
      cases ha with
      | cons h2 h3 =>
        cases h2
        cases h3 with
        | cons h4 h5 =>
          cases h5
          exact ⟨_, _, _, rfl, hs, .inr ⟨fun l z => (by cases z), rfl⟩⟩
def sp_members_of_slot (K : PySem.W.Frag) : Sp := fun vs' H Q _ => ∃ (f r : Addr) (fm : List Int) (xs : List V) (ks : List En) (slot : Int), vs' = [.ref f, .ref r, .int slot] ∧ SqT K H f (fm.map V.int) ∧ SqL K H r xs ∧ Xk.PkAll K H 4 xs (ks.map ent) ∧ 1 ≤ slot ∧ slot ≤ (ks.length : Int) + 1 ∧ ks.length ≤ 100 ∧
  ∀ p, SqT K H p ((memAt fm (ks.take (slot - 1).toNat)).map V.int) → Q (.ref p) H
theorem ok_members_of_slot (T : Txt K mg) : FnOk P w K mg base CX0 1 T.f_members_of_slot T.d_members_of_slot ["first_members", "row", "slot"] (sp_members_of_slot K) := by
  refine T.F_members_of_slot.ok sc_members_of_slot (fun vs H Q E h => ?_) (fun cdv A outer s H vs Q E hr h => ?_)
  · obtain ⟨f, r, fm, xs, ks, slot, rfl, _⟩ := h
    rfl
  obtain ⟨f, r, fm, xs, ks, slot, rfl, hf, hr, hpk, h1, h2, hkl, q⟩ := h
  refine ⟨_, (pss_cons (ps_for PassesOwn.never rfl (pi_revR (by rfl) T.m_reversed (prg_1 (by rfl) T.m_range (pe_op op_sub (pv 2) (pe_int)))) (pg_name (i := 3) sc_members_of_slot.nd rfl (Or.inl rfl)) (pss_cons (ps_asg (pe_ix (Xk.k_ixL (K := K) (by rfl)) (pv 1) (pv 3) (fun _ _ => rfl)) (pg_tup rfl (pgs_cons (pg_name (i := 4) sc_members_of_slot.nd rfl (Or.inl rfl)) (pgs_cons (pg_name (i := 5) sc_members_of_slot.nd rfl (Or.inl rfl)) pgs_nil))))
      (pss_one (ps_if (pt_cmpR op_eq (pv 4) (pe_glob (by rfl) T.g_MEMBERS Xk.rel_str) (nomark _)) (pss_one (ps_ret (pv 5))) pss_nil))))
      (pss_one (ps_ret (pv 0)))), ?_⟩
  wtm_at "x0"
  wtm_at "xs"
  obtain ⟨n, hn⟩ := Int.eq_ofNat_of_zero_le (show 0 ≤ slot - 1 by omega)
  have hnl : n ≤ ks.length := by omega
  rw [hn] at q ⊢
  rw [show ((n : Int)).toNat = n by omega] at q
  have hxl : xs.length = ks.length := by
    have z := hpk.len
    rw [List.length_map] at z
    exact z
  refine Xk.x_forRev (fun j σ' H' => ∃ y3 y4 y5 : Option V, σ' = [some (.ref f), some (.ref r), some (.int slot), y3, y4, y5] ∧ H' = H ∧ memAt fm (ks.take n) = memAt fm (ks.take (n - j))) ⟨by omega, by omega⟩ ⟨_, _, _, rfl, rfl, rfl⟩ ?_ ?_
  · rintro j σ' H' hj ⟨y3, y4, y5, rfl, e, hme⟩
    subst e
    obtain ⟨x, hx⟩ := Xk.lt_at (xs := xs) (j := n - 1 - j) (by omega)
    obtain ⟨d, hd, hxp⟩ := hpk.at hx
    rw [List.getElem?_map] at hd
    obtain ⟨k, hk, rfl⟩ := Option.map_eq_some_iff.mp hd
    obtain ⟨a, wd, tl, rfl, hat, hc⟩ := ent_at hxp
    have et : ks.take (n - j) = ks.take (n - 1 - j) ++ [k] := by
      rw [show n - j = (n - 1 - j) + 1 by omega, List.take_add_one, hk]
      rfl
    rw [et, memAt_snoc] at hme
    have ei : (n : Int) - 1 - (j : Int) = ((n - 1 - j : Nat) : Int) := by omega
    rw [ei]
    wtm_at "xs"
    rcases hc with ⟨l, b, rfl, rfl, rfl, hb⟩ | ⟨hnm, rfl⟩
    · wtm_at "xs"
      refine q b ?_
      rw [hme]
      exact hb
    · wtm_at "xs"
      refine ⟨_, _, _, rfl, rfl, ?_⟩
      rw [hme, show n - (j + 1) = n - 1 - j by omega]
      cases k with
      | mem l => exact absurd rfl (hnm l)
      | _ => rfl
  · rintro σ' H' ⟨y3, y4, y5, rfl, e, hme⟩
    subst e
    rw [show ((n : Int)).toNat = n by omega, Nat.sub_self, List.take_zero] at hme
    wtm_at "xs"
    refine q f ?_
    rw [hme]
    exact hf
--CUT--
/-- what a vote says, its own addresses aside -/
def vq (v : Vt) : Int × Int × Int × En := (v.ix, v.t, v.x, v.k)
def sgr (us : List (Int × Vt)) (s : Int) : List Vt := (us.filter fun u => decide (u.1 = s)).map (·.2)
theorem sgr_yes {us : List (Int × Vt)} {s : Int} {v : Vt} : sgr (us ++ [(s, v)]) s = sgr us s ++ [v] := by
  unfold sgr
  rw [List.filter_append, List.map_append]
  simp
theorem sgr_no {us : List (Int × Vt)} {s s' : Int} {v : Vt} (h : s' ≠ s) : sgr (us ++ [(s', v)]) s = sgr us s := by
  unfold sgr
  rw [List.filter_append, List.map_append]
  simp [h]
/-- votes told slot by slot -/
structure SdOk (K : PySem.W.Frag) (H0 H : Hp) (d : Addr) (us : List (Int × Vt)) (kvs : List (Key × V)) (pd : Option Int) : Prop where
  hd : H d = some (.dK kvs)
  fd : Xk.Fr d H0
  nd : (kvs.map (·.1)).Nodup
  ks : ∀ p ∈ kvs, ∃ s : Int, p.1 = Sum.inl s ∧ (pd = some s ∨ ∃ v, (s, v) ∈ us)
  at_ : ∀ s : Int, (valV kvs (Sum.inl s) = none ∧ sgr us s = []) ∨ ∃ (l : Addr) (ps : List Vt), valV kvs (Sum.inl s) = some (.ref l) ∧ Xk.Fr l H0 ∧ H l = some (.lst (ps.map fun v => V.ref v.a)) ∧ (∀ p ∈ ps, VtAt K H p) ∧ ps.map vq = (sgr us s).map vq
  inj : ∀ s s' l, valV kvs (Sum.inl s) = some (.ref l) → valV kvs (Sum.inl s') = some (.ref l) → s = s'
theorem SdOk.same {H0 H H' : Hp} {d : Addr} {us : List (Int × Vt)} {kvs : List (Key × V)} {pd : Option Int} (h : SdOk K H0 H d us kvs pd) (s : Same H H') : SdOk K H0 H' d us kvs pd :=
  ⟨s _ _ h.hd, h.fd, h.nd, h.ks, fun t => (h.at_ t).imp_right fun ⟨l, ps, h1, h2, h3, h4, h5⟩ => ⟨l, ps, h1, h2, s _ _ h3, fun p hp => (h4 p hp).same s, h5⟩, h.inj⟩
/-- a vote more in a list that stands -/
theorem SdOk.add {H0 H : Hp} {d l : Addr} {us : List (Int × Vt)} {kvs : List (Key × V)} {pd : Option Int} (h : SdOk K H0 H d us kvs pd) {s : Int} {v u : Vt} (hpd : pd = none ∨ pd = some s) (hl : valV kvs (Sum.inl s) = some (.ref l)) {ps : List Vt} (hp : H l = some (.lst (ps.map fun v => V.ref v.a)))
    (h4 : ∀ p ∈ ps, VtAt K H p) (h5 : ps.map vq = (sgr us s).map vq) (hq : VtAt K H u) (e : vq u = vq v) :
    SdOk K H0 (upd H l (.lst ((ps.map fun v => V.ref v.a) ++ [.ref u.a]))) d (us ++ [(s, v)]) kvs none := by
  have tt : Tu K H (upd H l (.lst ((ps.map fun v => V.ref v.a) ++ [.ref u.a]))) := tu_mutL hp
  refine ⟨(upd_ne (fun z => by have := h.hd; rw [z, hp] at this; cases this)).trans h.hd, h.fd, h.nd, fun p hp => ?_, fun t => ?_, h.inj⟩
  · obtain ⟨t, e1, e2 | ⟨w, e2⟩⟩ := h.ks p hp
    · rcases hpd with hpd | hpd
      · rw [hpd] at e2
        cases e2
      · rw [hpd] at e2
        cases e2
        exact ⟨s, e1, .inr ⟨v, List.mem_append_right _ (List.mem_singleton.mpr rfl)⟩⟩
    · exact ⟨t, e1, .inr ⟨w, List.mem_append_left _ e2⟩⟩
  · by_cases c : s = t
    · subst c
      refine .inr ⟨l, ps ++ [u], hl, ?_, by rw [upd_same, List.map_append]; rfl, fun p hp => ?_, by rw [List.map_append, h5, sgr_yes, List.map_append, List.map_cons, List.map_cons, e]⟩
      · rcases h.at_ s with ⟨g, _⟩ | ⟨l', ps', g1, g2, _⟩
        · rw [g] at hl
          cases hl
        · rw [g1] at hl
          cases hl
          exact g2
      · rcases List.mem_append.mp hp with hp | hp
        · exact (h4 p hp).tu tt
        · rw [List.mem_singleton.mp hp]
          exact hq.tu tt
    · rw [sgr_no c]
      rcases h.at_ t with g | ⟨l', ps', g1, g2, g3, g4, g5⟩
      · exact .inl g
      · refine .inr ⟨l', ps', g1, g2, (upd_ne (fun z => ?_)).trans g3, fun p hp => (g4 p hp).tu tt, g5⟩
        rw [z] at g1
        exact c (h.inj _ _ _ hl g1)
/-- a new slot's empty list -/
theorem SdOk.key {H0 H H' : Hp} {d z : Addr} {us : List (Int × Vt)} {kvs : List (Key × V)} (h : SdOk K H0 H d us kvs none) {s : Int} (hn : valV kvs (Sum.inl s) = none) (s0 : Same H0 H) (hz : Xk.Fr z H) (ss : Same H H') (hz' : H' z = some (.lst [])) :
    SdOk K H0 (upd H' d (.dK (putK kvs (Sum.inl s) (.ref z)))) d us (putK kvs (Sum.inl s) (.ref z)) (some s) := by
  have hd := h.hd
  have nzd : z ≠ d := (Xk.ne_new hz hd).symm
  have tt : Tu K H' (upd H' d (.dK (putK kvs (Sum.inl s) (.ref z)))) := tu_but (ss _ _ hd) (fun _ z => by cases z) (fun _ _ z => by cases z) (Xk.but_mut (Xk.But.refl _ _))
  have hput : putK kvs (Sum.inl s) (.ref z) = kvs ++ [(Sum.inl s, .ref z)] := putK_new _ hn
  refine ⟨upd_same, h.fd, nd_putK _ h.nd hn, fun p hp => ?_, fun t => ?_, fun t t' l h1 h2 => ?_⟩
  · rw [hput] at hp
    rcases List.mem_append.mp hp with hp | hp
    · obtain ⟨t, e1, e2 | e2⟩ := h.ks p hp
      · cases e2
      · exact ⟨t, e1, .inr e2⟩
    · rw [List.mem_singleton.mp hp]
      exact ⟨s, rfl, .inl rfl⟩
  · by_cases e : t = s
    · subst e
      refine .inr ⟨z, [], by rw [valV_put, if_pos rfl], fr_back hz s0, (upd_ne nzd).trans hz', fun p hp => (by cases hp), ?_⟩
      rcases h.at_ t with ⟨_, g⟩ | ⟨l, ps, g, _⟩
      · rw [g]
      · rw [hn] at g
        cases g
    · have e' : (Sum.inl t : Key) ≠ Sum.inl s := fun z => e (Sum.inl.inj z)
      rcases h.at_ t with ⟨g1, g2⟩ | ⟨l, ps, g1, g2, g3, g4, g5⟩
      · exact .inl ⟨by rw [valV_put, if_neg e']; exact g1, g2⟩
      · refine .inr ⟨l, ps, by rw [valV_put, if_neg e']; exact g1, g2, ?_, fun p hp => ((g4 p hp).same ss).tu tt, g5⟩
        exact (upd_ne (fun z => by rw [z, hd] at g3; cases g3)).trans (ss _ _ g3)
  · have nz : ∀ t, valV kvs (Sum.inl t) ≠ some (.ref z) := fun t e => by
      rcases h.at_ t with ⟨g, _⟩ | ⟨l, ps, g1, _, g3, _⟩
      · rw [g] at e
        cases e
      · rw [g1] at e
        cases e
        rw [hz.is] at g3
        cases g3
    rw [valV_put] at h1 h2
    by_cases e1 : t = s
    · by_cases e2 : t' = s
      · rw [e1, e2]
      · rw [if_pos (by rw [e1])] at h1
        rw [if_neg (fun z => e2 (Sum.inl.inj z))] at h2
        cases h1
        exact absurd h2 (nz _)
    · by_cases e2 : t' = s
      · rw [if_neg (fun z => e1 (Sum.inl.inj z))] at h1
        rw [if_pos (by rw [e2])] at h2
        cases h2
        exact absurd h1 (nz _)
      · rw [if_neg (fun z => e1 (Sum.inl.inj z))] at h1
        rw [if_neg (fun z => e2 (Sum.inl.inj z))] at h2
        exact h.inj _ _ _ h1 h2
/-- a vote of a slot: a tuple of four -/
structure V4At (K : PySem.W.Frag) (H : Hp) (u : Int × Vt) : Prop where
  tp : SqT K H u.2.a [.int u.1, .int u.2.ix, .ref u.2.b, u.2.e]
  bl : H u.2.b = some (.tup [.int u.2.t, .int u.2.x])
  en : Xk.Pk K H 4 u.2.e (ent u.2.k)
theorem V4At.tu {H H' : Hp} {u : Int × Vt} (h : V4At K H u) (s : Tu K H H') : V4At K H' u := ⟨s.st.t _ _ h.tp, s.tp _ _ h.bl, h.en.st s.st⟩
theorem V4At.same {H H' : Hp} {u : Int × Vt} (h : V4At K H u) (s : Same H H') : V4At K H' u := h.tu (.same s)
/-- two rows of votes that say the same -/
structure Sim (vs us : List Vt) : Prop where
  to : ∀ v ∈ vs, ∃ u ∈ us, vq u = vq v
  fro : ∀ u ∈ us, ∃ v ∈ vs, vq v = vq u
theorem Sim.symm {vs us : List Vt} (h : Sim vs us) : Sim us vs := ⟨h.fro, h.to⟩
theorem Sim.refl {vs : List Vt} : Sim vs vs := ⟨fun v hv => ⟨v, hv, rfl⟩, fun v hv => ⟨v, hv, rfl⟩⟩
theorem Sim.of_map {vs us : List Vt} (h : vs.map vq = us.map vq) : Sim vs us := ⟨fun v hv => by
    have z : vq v ∈ us.map vq := h ▸ List.mem_map_of_mem hv
    obtain ⟨u, h1, h2⟩ := List.mem_map.mp z
    exact ⟨u, h1, h2⟩, fun v hv => by
    have z : vq v ∈ vs.map vq := h ▸ List.mem_map_of_mem hv
    obtain ⟨u, h1, h2⟩ := List.mem_map.mp z
    exact ⟨u, h1, h2⟩⟩
theorem vq_ix {u v : Vt} (h : vq u = vq v) : u.ix = v.ix := congrArg (fun z : Int × Int × Int × En => z.1) h
theorem vq_t {u v : Vt} (h : vq u = vq v) : u.t = v.t := congrArg (fun z : Int × Int × Int × En => z.2.1) h
theorem vq_x {u v : Vt} (h : vq u = vq v) : u.x = v.x := congrArg (fun z : Int × Int × Int × En => z.2.2.1) h
theorem vq_k {u v : Vt} (h : vq u = vq v) : u.k = v.k := congrArg (fun z : Int × Int × Int × En => z.2.2.2) h
theorem vq_bp {u v : Vt} (h : vq u = vq v) : bp u = bp v := by
  unfold bp
  rw [vq_t h, vq_x h]
theorem Sim.lets {vs us : List Vt} (h : Sim vs us) {S : List Int} {B : Int × Int} {k : En} (g : Lets vs S B k) : Lets us S B k := fun u hu h1 h2 h3 => by
  obtain ⟨v, hv, e⟩ := h.fro u hu
  rw [← vq_k e]
  refine g v hv (by rw [vq_ix e]; exact h1) (by rw [vq_bp e]; exact h2) fun w hw w1 w2 => ?_
  obtain ⟨x, hx, ex⟩ := h.to w hw
  rw [vq_bp e, ← vq_bp ex]
  exact h3 x hx (by rw [vq_ix ex]; exact w1) (by rw [vq_bp ex]; exact w2)
theorem Sim.gd {vs us : List Vt} (h : Sim vs us) {ms : List Int} {B : Int × Int} (g : Gd ms vs B) : Gd ms us B := by
  refine ⟨fun u hu v hv h1 h2 h3 h4 => ?_, fun u hu h1 h2 => ?_⟩
  · obtain ⟨u', hu', e⟩ := h.fro u hu
    obtain ⟨v', hv', e'⟩ := h.fro v hv
    rw [← vq_k e, ← vq_k e']
    exact g.1 u' hu' v' hv' (by rw [vq_ix e]; exact h1) (by rw [vq_ix e']; exact h2) (by rw [vq_bp e]; exact h3) (by rw [vq_bp e']; exact h4)
  · obtain ⟨u', hu', e⟩ := h.fro u hu
    obtain ⟨S, s1, s2, s3⟩ := g.2 u' hu' (by rw [vq_ix e]; exact h1) (by rw [vq_bp e]; exact h2)
    rw [← vq_k e]
    exact ⟨S, s1, s2, h.lets s3⟩
theorem alk_sim {u u' v v' : Vt} (h : vq u = vq u') (g : vq v = vq v') : alk u v = alk u' v' := by
  unfold alk
  rw [vq_t h, vq_x h, vq_k h, vq_t g, vq_x g, vq_k g]
theorem Sim.vot {vs us : List Vt} (h : Sim vs us) {ms : List Int} {u v : Vt} (e : vq v = vq u) : vot ms vs v = vot ms us u := by
  unfold K47.vot
  congr 1
  funext m
  rw [Bool.eq_iff_iff, List.any_eq_true, List.any_eq_true]
  constructor
  · rintro ⟨w, hw, z⟩
    obtain ⟨x, hx, ex⟩ := h.to w hw
    exact ⟨x, hx, by rw [vq_ix ex, alk_sim ex e.symm]; exact z⟩
  · rintro ⟨w, hw, z⟩
    obtain ⟨x, hx, ex⟩ := h.fro w hw
    exact ⟨x, hx, by rw [vq_ix ex, alk_sim ex e]; exact z⟩
theorem Sim.hit {vs us : List Vt} (h : Sim vs us) {ms : List Int} {u v : Vt} (e : vq v = vq u) : hit ms vs v = hit ms us u := by
  unfold K47.hit
  rw [h.vot e, vq_ix e]
/-- lawful votes -/
def Lw (ms : List Int) (vs : List Vt) : Prop := ∀ v ∈ vs, v.ix ∈ ms → Gd ms vs (bp v)
/-- no choice -/
def Nc (ms : List Int) (vs : List Vt) : Prop := ∀ v ∈ vs, hit ms vs v = false
/-- the choice of the least ballot that has one -/
def Ch (ms : List Int) (vs : List Vt) (k : En) : Prop := ∃ v ∈ vs, hit ms vs v = true ∧ v.k = k ∧ ∀ u ∈ vs, hit ms vs u = true → ¬ l2 (bp u) (bp v)
theorem Sim.lw {vs us : List Vt} (h : Sim vs us) {ms : List Int} (g : Lw ms vs) : Lw ms us := fun u hu hm => by
  obtain ⟨v, hv, e⟩ := h.fro u hu
  rw [← vq_bp e]
  exact h.gd (g v hv (by rw [vq_ix e]; exact hm))
theorem Sim.nc {vs us : List Vt} (h : Sim vs us) {ms : List Int} (g : Nc ms vs) : Nc ms us := fun u hu => by
  obtain ⟨v, hv, e⟩ := h.fro u hu
  rw [← h.hit e]
  exact g v hv
theorem Sim.ch {vs us : List Vt} (h : Sim vs us) {ms : List Int} {k : En} (g : Ch ms vs k) : Ch ms us k := by
  obtain ⟨v, hv, h1, h2, h3⟩ := g
  obtain ⟨u, hu, e⟩ := h.to v hv
  refine ⟨u, hu, by rw [← h.hit e.symm]; exact h1, (vq_k e).trans h2, fun w hw hh => ?_⟩
  obtain ⟨x, hx, ex⟩ := h.fro w hw
  rw [vq_bp e, ← vq_bp ex]
  exact h3 x hx (by rw [h.hit ex]; exact hh)
theorem hit_ix {ms : List Int} {vs : List Vt} {v : Vt} (h : hit ms vs v = true) : v.ix ∈ ms := by
  unfold hit at h
  rw [Bool.and_eq_true] at h
  exact of_decide_eq_true h.1
theorem Lw.one {ms : List Int} {vs : List Vt} (h : Lw ms vs) (B : Int × Int) : One ms vs B := fun u hu v hv h1 h2 h3 h4 => (h3 ▸ h u hu h1).1 u hu v hv h1 h2 h3 h4
theorem Ch.uniq {ms : List Int} {vs : List Vt} {k k' : En} (l : Lw ms vs) (h : Ch ms vs k) (g : Ch ms vs k') : k = k' := by
  obtain ⟨v, hv, h1, rfl, h3⟩ := h
  obtain ⟨u, hu, g1, rfl, g3⟩ := g
  exact l.one (bp v) v hv u hu (hit_ix h1) (hit_ix g1) rfl (l2_eq (g3 v hv h1) (h3 u hu g1)).symm
theorem Ch.not_nc {ms : List Int} {vs : List Vt} {k : En} (h : Ch ms vs k) (g : Nc ms vs) : False := by
  obtain ⟨v, hv, h1, _⟩ := h
  rw [g v hv] at h1
  cases h1
theorem Ch.mem {ms : List Int} {vs : List Vt} {k : En} (h : Ch ms vs k) : ∃ v ∈ vs, v.k = k := by
  obtain ⟨v, hv, _, h2, _⟩ := h
  exact ⟨v, hv, h2⟩
theorem First.ch {ms : List Int} {vs : List Vt} {i : Nat} {v : Vt} (h : First ms vs i v) : Ch ms vs v.k := ⟨v, List.mem_of_getElem? h.at_, h.ht, rfl, fun u hu g z => by
  obtain ⟨j, hj⟩ := List.mem_iff_getElem?.mp hu
  have z1 := h.ls j u hj g
  unfold blt at z1
  unfold l2 bp at z
  simp only at z
  omega⟩
theorem Least.not_lw {ms : List Int} {vs : List Vt} {B : Int × Int} (h : Least ms vs B) : ¬ Lw ms vs := fun g => by
  obtain ⟨v, hv, h1, h2⟩ := h.at_
  exact h.bad (h2 ▸ g v hv h1)
theorem lw_nil {ms : List Int} : Lw ms [] := fun v hv => by cases hv
theorem nc_nil {ms : List Int} : Nc ms [] := fun v hv => by cases hv
/-- each slot has a choice -/
def Go (fm : List Int) (us : List (Int × Vt)) (ks : List En) : Prop := ∀ i k, ks[i]? = some k → Lw (memAt fm (ks.take i)) (sgr us ((i : Int) + 1)) ∧ Ch (memAt fm (ks.take i)) (sgr us ((i : Int) + 1)) k
theorem Go.snoc {fm : List Int} {us : List (Int × Vt)} {ks : List En} (h : Go fm us ks) {k : En} (h1 : Lw (memAt fm ks) (sgr us ((ks.length : Int) + 1))) (h2 : Ch (memAt fm ks) (sgr us ((ks.length : Int) + 1)) k) : Go fm us (ks ++ [k]) := fun i c e => by
  rcases Nat.lt_or_ge i ks.length with hi | hi
  · rw [List.getElem?_append_left hi] at e
    rw [List.take_append_of_le_length (Nat.le_of_lt hi)]
    exact h i c e
  · rw [List.getElem?_append_right hi] at e
    have e0 : i - ks.length = 0 := by
      rcases Nat.eq_zero_or_pos (i - ks.length) with z | z
      · exact z
      · rw [List.getElem?_eq_none (by rw [List.length_singleton]; exact z)] at e
        cases e
    have ei : i = ks.length := by omega
    subst ei
    rw [e0] at e
    cases e
    rw [List.take_append_of_le_length (Nat.le_refl _), List.take_length]
    exact ⟨h1, h2⟩
/-- the row that votes choose, and the slot of a fault -/
def End (fm : List Int) (us : List (Int × Vt)) (ks : List En) : Option Int → Prop
  | none => Lw (memAt fm ks) (sgr us ((ks.length : Int) + 1)) ∧ Nc (memAt fm ks) (sgr us ((ks.length : Int) + 1))
  | some s => s = (ks.length : Int) + 1 ∧ ¬ Lw (memAt fm ks) (sgr us ((ks.length : Int) + 1))
theorem row_pre {fm : List Int} {us : List (Int × Vt)} {ks ks' : List En} {e' : Option Int} (h : Go fm us ks) (g : Go fm us ks') (t : End fm us ks' e') : ∀ i, i ≤ ks.length → i ≤ ks'.length ∧ ks.take i = ks'.take i
  | 0, _ => ⟨Nat.zero_le _, rfl⟩
  | i + 1, hi => by
    obtain ⟨h1, h2⟩ := row_pre h g t i (Nat.le_of_succ_le hi)
    have hk : ks[i]? = some ks[i] := List.getElem?_eq_getElem hi
    obtain ⟨h3, h4⟩ := h i _ hk
    rcases Nat.lt_or_ge i ks'.length with c | c
    · have hk' : ks'[i]? = some ks'[i] := List.getElem?_eq_getElem c
      obtain ⟨g3, g4⟩ := g i _ hk'
      rw [← h2] at g4
      have e := Ch.uniq h3 h4 g4
      refine ⟨c, ?_⟩
      rw [List.take_add_one, List.take_add_one, hk, hk', h2, e]
    · have ei : i = ks'.length := by omega
      subst ei
      rw [h2, List.take_length] at h3 h4
      cases e' with
      | none => exact absurd t.2 fun z => h4.not_nc z
      | some s => exact absurd h3 t.2
theorem row_uniq {fm : List Int} {us : List (Int × Vt)} {ks ks' : List En} {e e' : Option Int} (h : Go fm us ks) (g : Go fm us ks') (t : End fm us ks e) (t' : End fm us ks' e') : ks = ks' ∧ e = e' := by
  obtain ⟨h1, h2⟩ := row_pre h g t' ks.length (Nat.le_refl _)
  obtain ⟨g1, _⟩ := row_pre g h t ks'.length (Nat.le_refl _)
  have el : ks.length = ks'.length := Nat.le_antisymm h1 g1
  have ek : ks = ks' := by
    rw [List.take_length, el, List.take_length] at h2
    exact h2
  subst ek
  refine ⟨rfl, ?_⟩
  cases e with
  | none =>
    cases e' with
    | none => rfl
    | some s => exact absurd t.1 t'.2
  | some s =>
    cases e' with
    | none => exact absurd t'.1 t.2
    | some s' => rw [t.1, t'.1]
/-- members as they are given -/
def Gm (ms : List Int) : Prop := ms.Pairwise (· < ·) ∧ ms.length ≤ 5 ∧ 0 < ms.length
def Gk (k : En) : Prop := ∀ l, k = .mem l → Gm l
theorem memAt_gm {fm : List Int} (h : Gm fm) : ∀ ks : List En, (∀ k ∈ ks, Gk k) → Gm (memAt fm ks) := by
  intro ks
  unfold memAt
  induction ks generalizing fm with
  | nil => exact fun _ => h
  | cons k r ih =>
    intro hk
    rw [List.foldl_cons]
    refine ih ?_ fun c hc => hk c (List.mem_cons_of_mem _ hc)
    have z := hk k (List.mem_cons_self ..)
    cases k with
    | mem l => exact z l rfl
    | _ => exact h
theorem in_sgr {us : List (Int × Vt)} {s : Int} {v : Vt} : v ∈ sgr us s ↔ (s, v) ∈ us := by
  unfold sgr
  rw [List.mem_map]
  constructor
  · rintro ⟨⟨s', w⟩, h1, rfl⟩
    rw [List.mem_filter] at h1
    have e : s' = s := of_decide_eq_true h1.2
    exact e ▸ h1.1
  · intro h
    exact ⟨(s, v), List.mem_filter.mpr ⟨h, decide_eq_true rfl⟩, rfl⟩
theorem Go.gk {fm : List Int} {us : List (Int × Vt)} {ks : List En} (h : Go fm us ks) (hu : ∀ u ∈ us, Gk u.2.k) : ∀ k ∈ ks, Gk k := fun k hk => by
  obtain ⟨i, hi⟩ := List.mem_iff_getElem?.mp hk
  obtain ⟨v, hv, e⟩ := (h i k hi).2.mem
  exact e ▸ hu _ (in_sgr.mp hv)
theorem SdOk.full {H0 H : Hp} {d : Addr} {us : List (Int × Vt)} {kvs : List (Key × V)} (h : SdOk K H0 H d us kvs none) {fm : List Int} {ks : List En} (g : Go fm us ks) (hl : kvs.length ≤ ks.length) : sgr us ((ks.length : Int) + 1) = [] := by
  rcases h.at_ ((ks.length : Int) + 1) with ⟨_, z⟩ | ⟨l, ps, h1, _⟩
  · exact z
  · have sub : ∀ n : Nat, n < ks.length + 1 → (Sum.inl ((n : Int) + 1) : Key) ∈ kvs.map (·.1) := fun n hn => by
      have fin : ∀ (s : Int) (w : V), valV kvs (Sum.inl s) = some w → (Sum.inl s : Key) ∈ kvs.map (·.1) := fun s w e => List.mem_map.mpr ⟨_, nmem e, rfl⟩
      rcases Nat.lt_or_ge n ks.length with c | c
      · have hk : ks[n]? = some ks[n] := List.getElem?_eq_getElem c
        obtain ⟨v, hv, _⟩ := (g n _ hk).2.mem
        rcases h.at_ ((n : Int) + 1) with ⟨_, z⟩ | ⟨l', ps', h1', _⟩
        · rw [z] at hv
          cases hv
        · exact fin _ _ h1'
      · have e : n = ks.length := by omega
        subst e
        exact fin _ _ h1
    have z := (show ((List.range (ks.length + 1)).map fun n : Nat => (Sum.inl ((n : Int) + 1) : Key)).Nodup from List.Pairwise.map _ (fun a b hab e => hab (by have := Sum.inl.inj e; omega)) List.nodup_range).length_le_of_subset (l₂ := kvs.map (·.1)) fun k hk => by
      obtain ⟨n, hn, rfl⟩ := List.mem_map.mp hk
      exact sub n (List.mem_range.mp hn)
    rw [List.length_map, List.length_map, List.length_range] at z
    omega
theorem pk_snoc {H : Hp} {n : Nat} {w : V} {d : PyData} (hw : Xk.Pk K H n w d) : ∀ {vs : List V} {ds : List PyData}, Xk.PkAll K H n vs ds → Xk.PkAll K H n (vs ++ [w]) (ds ++ [d])
  | [], ds, h => by
    obtain ⟨h1, _, _⟩ := h
    cases h1
    exact Xk.pk_cons hw Xk.pk_nil
  | v :: vs, ds, h => by
    obtain ⟨e, es, rfl, h1, h2⟩ := h.uncons
    exact Xk.pk_cons h1 (pk_snoc hw h2)
def vo : Option Int → V
  | none => .non
  | some s => .int s
--CUT--
def bd (v : Vt) : PyData := .tuple [.int v.t, .int v.x]
theorem bd_inj {u v : Vt} (h : bd u = bd v) : bp u = bp v := by
  unfold bd at h
  injection h with h
  injection h with h1 h2
  injection h2 with h2 _
  injection h1 with h1
  injection h2 with h2
  unfold bp
  rw [h1, h2]
theorem VtAt.pb {H : Hp} {v : Vt} (h : VtAt K H v) : Xk.Pk K H 2 (.ref v.b) (bd v) := Xk.pk_tup2 (n := 1) (Xk.st_of h.bl) Xk.pk_int Xk.pk_int
theorem bd_eqv {u v : Vt} : PyData.eqv (bd u) (bd v) = decide (bp u = bp v) := by
  unfold bd
  rw [Bool.eq_iff_iff]
  unfold bp
  simp [PyData.eqv, PyData.eqvAll]
theorem x_eqB {H : Hp} {Q : VK} {u v : Vt} (h : VtAt K H u) (h' : VtAt K H v) (q : Q (.bl (decide (bp u = bp v))) H) : rEqD K (.ref u.b) (.ref v.b) H Q := by
  refine ⟨_, _, h.pb.1, h'.pb.1, Xk.shaped_of h.pb.lay (Nat.le_trans h.pb.2.2 (by decide)), Xk.shaped_of h'.pb.lay (Nat.le_trans h'.pb.2.2 (by decide)), ?_⟩
  rw [bd_eqv]
  exact q
theorem pk_es {H : Hp} : ∀ ls : List Vt, (∀ v ∈ ls, VtAt K H v) → Xk.PkAll K H 4 (ls.map fun v => v.e) (ls.map fun v => ent v.k)
  | [], _ => Xk.pk_nil
  | v :: r, h => Xk.pk_cons (h v (List.mem_cons_self ..)).en (pk_es r fun u hu => h u (List.mem_cons_of_mem _ hu))
def d4 (u : Int × Vt) : PyData := .tuple [.int u.1, .int u.2.ix, bd u.2, ent u.2.k]
theorem V4At.pk {H : Hp} {u : Int × Vt} (h : V4At K H u) : Xk.Pk K H 5 (.ref u.2.a) (d4 u) :=
  Xk.pk_tup (n := 4) h.tp (Xk.pk_cons Xk.pk_int (Xk.pk_cons Xk.pk_int (Xk.pk_cons ((Xk.pk_tup2 (n := 1) (Xk.st_of h.bl) Xk.pk_int Xk.pk_int : Xk.Pk K H 2 (.ref u.2.b) (bd u.2)).mono (by decide)) (Xk.pk_cons h.en Xk.pk_nil))))
theorem pk_v4 {H : Hp} : ∀ us : List (Int × Vt), (∀ u ∈ us, V4At K H u) → Xk.PkAll K H 5 (us.map fun u => V.ref u.2.a) (us.map d4)
  | [], _ => Xk.pk_nil
  | u :: r, h => Xk.pk_cons (h u (List.mem_cons_self ..)).pk (pk_v4 r fun v hv => h v (List.mem_cons_of_mem _ hv))
theorem sgr_none {us : List (Int × Vt)} {s : Int} (h : ∀ u ∈ us, u.1 ≠ s) : sgr us s = [] := by
  unfold sgr
  rw [List.filter_eq_nil_iff.mpr fun u hu => by rw [decide_eq_true_eq]; exact h u hu]
  rfl
--CUT--
/-- the first vote that is hit says k -/
def Fi (ms : List Int) (vs : List Vt) (k : En) : Prop := ∃ i v, First ms vs i v ∧ v.k = k
theorem fi_map {ms : List Int} {vs us : List Vt} {k : En} (h : vs.map vq = us.map vq) (g : Fi ms vs k) : Fi ms us k := by
  obtain ⟨i, v, hF, hk⟩ := g
  have sim := Sim.of_map h
  have tr : ∀ (as bs : List Vt), as.map vq = bs.map vq → ∀ (j : Nat) (x : Vt), as[j]? = some x → ∃ y, bs[j]? = some y ∧ vq y = vq x := fun as bs e j x hx => by
    have z : (as.map vq)[j]? = some (vq x) := by rw [List.getElem?_map, hx]; rfl
    rw [e, List.getElem?_map] at z
    cases hb : bs[j]? with
    | none => rw [hb] at z; cases z
    | some y =>
      rw [hb] at z
      exact ⟨y, rfl, Option.some.inj z⟩
  obtain ⟨u, hu, e⟩ := tr vs us h i v hF.at_
  refine ⟨i, u, ⟨hu, by rw [← sim.hit e.symm]; exact hF.ht, fun j w hw hh => ?_⟩, (vq_k e).trans hk⟩
  obtain ⟨x, hx, ex⟩ := tr us vs h.symm j w hw
  have z := hF.ls j x hx (by rw [sim.hit ex]; exact hh)
  unfold blt at z ⊢
  rw [vq_t e, vq_x e, ← vq_t ex, ← vq_x ex]
  exact z
theorem Fi.uniq {ms : List Int} {vs : List Vt} {k k' : En} (h : Fi ms vs k) (g : Fi ms vs k') : k = k' := by
  obtain ⟨i, v, h1, h2⟩ := h
  obtain ⟨j, u, g1, g2⟩ := g
  rw [← h2, ← g2, h1.uniq g1]
theorem Fi.mem {ms : List Int} {vs : List Vt} {k : En} (h : Fi ms vs k) : ∃ v ∈ vs, v.k = k := by
  obtain ⟨i, v, h1, h2⟩ := h
  exact ⟨v, List.mem_of_getElem? h1.at_, h2⟩
theorem nc_fi {ms : List Int} {vs : List Vt} {k : En} (h : ∀ v ∈ vs, hit ms vs v = false) (g : Fi ms vs k) : False := by
  obtain ⟨i, v, h1, h2⟩ := g
  have z := h v (List.mem_of_getElem? h1.at_)
  rw [h1.ht] at z
  cases z
def uq (u : Int × Vt) : Int × (Int × Int × Int × En) := (u.1, vq u.2)
theorem sgr_map {s : Int} : ∀ {us us' : List (Int × Vt)}, us.map uq = us'.map uq → (sgr us s).map vq = (sgr us' s).map vq
  | [], [], _ => rfl
  | [], _ :: _, h => by cases h
  | _ :: _, [], h => by cases h
  | u :: r, u' :: r', h => by
    rw [List.map_cons, List.map_cons] at h
    injection h with h1 h2
    have ih := sgr_map (s := s) h2
    have e1 : u.1 = u'.1 := congrArg (fun z : Int × (Int × Int × Int × En) => z.1) h1
    have e2 : vq u.2 = vq u'.2 := congrArg (fun z : Int × (Int × Int × Int × En) => z.2) h1
    unfold sgr at ih ⊢
    rw [List.filter_cons, List.filter_cons, e1]
    split
    · rw [List.map_cons, List.map_cons, List.map_cons, List.map_cons, ih, e2]
    · exact ih
/-- no choice in the next slot -/
def Dn (fm : List Int) (us : List (Int × Vt)) (ks : List En) : Prop := ∀ k, ¬ Fi (memAt fm ks) (sgr us ((ks.length : Int) + 1)) k
/-- each next entry is chosen -/
def Sg (fm : List Int) (us : List (Int × Vt)) (ks ds : List En) : Prop := ∀ i k, ds[i]? = some k → Fi (memAt fm (ks ++ ds.take i)) (sgr us (((ks ++ ds.take i).length : Int) + 1)) k
theorem Dn.map {fm : List Int} {us us' : List (Int × Vt)} {ks : List En} (h : us.map uq = us'.map uq) (g : Dn fm us ks) : Dn fm us' ks := fun k z => g k (fi_map (sgr_map h.symm) z)
theorem Sg.map {fm : List Int} {us us' : List (Int × Vt)} {ks ds : List En} (h : us.map uq = us'.map uq) (g : Sg fm us ks ds) : Sg fm us' ks ds := fun i k e => fi_map (sgr_map h) (g i k e)
theorem Sg.nil {fm : List Int} {us : List (Int × Vt)} {ks : List En} : Sg fm us ks [] := fun i k e => by cases e
theorem Sg.snoc {fm : List Int} {us : List (Int × Vt)} {ks ds : List En} (h : Sg fm us ks ds) {k : En} (g : Fi (memAt fm (ks ++ ds)) (sgr us (((ks ++ ds).length : Int) + 1)) k) : Sg fm us ks (ds ++ [k]) := fun i c e => by
  rcases Nat.lt_or_ge i ds.length with hi | hi
  · rw [List.getElem?_append_left hi] at e
    rw [List.take_append_of_le_length (Nat.le_of_lt hi)]
    exact h i c e
  · rw [List.getElem?_append_right hi] at e
    have e0 : i - ds.length = 0 := by
      rcases Nat.eq_zero_or_pos (i - ds.length) with z | z
      · exact z
      · rw [List.getElem?_eq_none (by rw [List.length_singleton]; exact z)] at e
        cases e
    have ei : i = ds.length := by omega
    subst ei
    rw [e0] at e
    cases e
    rw [List.take_append_of_le_length (Nat.le_refl _), List.take_length]
    exact g
theorem sg_pre {fm : List Int} {us : List (Int × Vt)} {ks ds ds' : List En} (h : Sg fm us ks ds) (g : Sg fm us ks ds') (t : Dn fm us (ks ++ ds')) : ∀ i, i ≤ ds.length → i ≤ ds'.length ∧ ds.take i = ds'.take i
  | 0, _ => ⟨Nat.zero_le _, rfl⟩
  | i + 1, hi => by
    obtain ⟨h1, h2⟩ := sg_pre h g t i (Nat.le_of_succ_le hi)
    have hk : ds[i]? = some ds[i] := List.getElem?_eq_getElem hi
    have h3 := h i _ hk
    rcases Nat.lt_or_ge i ds'.length with c | c
    · have hk' : ds'[i]? = some ds'[i] := List.getElem?_eq_getElem c
      have g3 := g i _ hk'
      rw [← h2] at g3
      have e := Fi.uniq h3 g3
      refine ⟨c, ?_⟩
      rw [List.take_add_one, List.take_add_one, hk, hk', h2, e]
    · have ei : i = ds'.length := by omega
      subst ei
      rw [h2, List.take_length] at h3
      exact absurd h3 (t _)
theorem sg_uniq {fm : List Int} {us : List (Int × Vt)} {ks ds ds' : List En} (h : Sg fm us ks ds) (g : Sg fm us ks ds') (t : Dn fm us (ks ++ ds)) (t' : Dn fm us (ks ++ ds')) : ds = ds' := by
  obtain ⟨h1, h2⟩ := sg_pre h g t' ds.length (Nat.le_refl _)
  obtain ⟨g1, _⟩ := sg_pre g h t ds'.length (Nat.le_refl _)
  have el : ds.length = ds'.length := Nat.le_antisymm h1 g1
  rw [List.take_length, el, List.take_length] at h2
  exact h2
theorem Sg.gk {fm : List Int} {us : List (Int × Vt)} {ks ds : List En} (h : Sg fm us ks ds) (hu : ∀ u ∈ us, Gk u.2.k) : ∀ k ∈ ds, Gk k := fun k hk => by
  obtain ⟨i, hi⟩ := List.mem_iff_getElem?.mp hk
  obtain ⟨v, hv, e⟩ := (h i k hi).mem
  exact e ▸ hu _ (in_sgr.mp hv)
/-- no more entries than slots -/
theorem Sg.le {fm : List Int} {us : List (Int × Vt)} {ks ds : List En} (h : Sg fm us ks ds) {n : Int} (hu : ∀ u ∈ us, u.1 ≤ n) (hn : (ks.length : Int) ≤ n) : ((ks ++ ds).length : Int) ≤ n := by
  cases e : ds.length with
  | zero =>
    rw [List.length_append, e]
    exact hn
  | succ m =>
    have hi : ds[m]? = some (ds[m]'(by omega)) := List.getElem?_eq_getElem _
    obtain ⟨v, hv, _⟩ := (h m _ hi).mem
    have z := hu _ (in_sgr.mp hv)
    simp only [List.length_append, List.length_take] at z
    rw [List.length_append]
    omega
--CUT--
/-- a tally: its addresses, and what it holds -/
structure Tl where
  a : Addr
  dx : Addr
  f : Addr
  r : Addr
  v : Addr
  d : Addr
  xs : List V
  ks : List En
  us : List (Int × Vt)
  ws : List (Int × Vt)
  kvs : List (Key × V)
  pd : Option Int
def nil0 : Hp := fun _ => none
/-- what a tally changes -/
def Mu (t : Tl) (c : Addr) : Prop := c = t.r ∨ c = t.v ∨ c = t.d ∨ ∃ s : Int, valV t.kvs (Sum.inl s) = some (.ref c)
structure Ta (K : PySem.W.Frag) (C : Addr) (H : Hp) (t : Tl) : Prop where
  o : H t.a = some (.ins C t.dx [("first_members", .ref t.f), ("row", .ref t.r), ("votes", .ref t.v), ("_by_slot", .ref t.d)])
  r : H t.r = some (.lst t.xs)
  rk : Xk.PkAll K H 4 t.xs (t.ks.map ent)
  v : H t.v = some (.lst (t.us.map fun u => V.ref u.2.a))
  vs : ∀ u ∈ t.us, V4At K H u
  sd : SdOk K nil0 H t.d t.ws t.kvs t.pd
  rv : t.r ≠ t.v
  rl : ∀ (s : Int) l, valV t.kvs (Sum.inl s) = some (.ref l) → l ≠ t.r ∧ l ≠ t.v
/-- all stays but what p tells -/
structure Fx (K : PySem.W.Frag) (p : Addr → Prop) (H H' : Hp) : Prop where
  at_ : ∀ c o, H c = some o → ¬ p c → H' c = some o
  tu : Tu K H H'
  is : ∀ c C dx fs, H c = some (.ins C dx fs) → H' c = some (.ins C dx fs)
  al : ∀ c, H c ≠ none → H' c ≠ none
theorem Fx.same {p : Addr → Prop} {H H' : Hp} (s : Same H H') : Fx K p H H' := ⟨fun c o e _ => s _ _ e, .same s, fun c C dx fs e => s _ _ e, fun c e => by
  cases h : H c with
  | none => exact absurd h e
  | some o =>
    rw [s _ _ h]
    exact fun z => by cases z⟩
theorem Fx.trans {p : Addr → Prop} {H H' H'' : Hp} (h : Fx K p H H') (g : Fx K p H' H'') : Fx K p H H'' := ⟨fun c o e n => g.at_ c o (h.at_ c o e n) n, h.tu.trans g.tu, fun c C dx fs e => g.is _ _ _ _ (h.is _ _ _ _ e), fun c e => g.al c (h.al c e)⟩
theorem Fx.tr {p p' : Addr → Prop} {H H' H'' : Hp} (h : Fx K p H H') (g : Fx K p' H' H'') (m : ∀ c, H c ≠ none → p' c → p c) : Fx K p H H'' :=
  ⟨fun c o e n => g.at_ c o (h.at_ c o e n) fun z => n (m c (by rw [e]; exact fun z => by cases z) z), h.tu.trans g.tu, fun c C dx fs e => g.is _ _ _ _ (h.is _ _ _ _ e), fun c e => g.al c (h.al c e)⟩
theorem Fx.mut {p : Addr → Prop} {H : Hp} {q : Addr} {ys : List V} {o : HO} (h : H q = some (.lst ys)) (hp : p q) : Fx K p H (upd H q o) :=
  ⟨fun c u e n => (upd_ne (fun z => n (by rw [z]; exact hp))).trans e, tu_mutL h, fun c C dx fs e => (upd_ne (fun z => by rw [z, h] at e; cases e)).trans e, fun c e => by
    by_cases z : c = q
    · rw [z, upd_same]
      exact fun z => by cases z
    · rw [upd_ne z]
      exact e⟩
theorem Fx.mutD {p : Addr → Prop} {H : Hp} {q : Addr} {kvs : List (Key × V)} {o : HO} (h : H q = some (.dK kvs)) (hp : p q) : Fx K p H (upd H q o) :=
  ⟨fun c u e n => (upd_ne (fun z => n (by rw [z]; exact hp))).trans e, tu_but h (fun _ z => by cases z) (fun _ _ z => by cases z) (Xk.but_mut (Xk.But.refl _ _)), fun c C dx fs e => (upd_ne (fun z => by rw [z, h] at e; cases e)).trans e, fun c e => by
    by_cases z : c = q
    · rw [z, upd_same]
      exact fun z => by cases z
    · rw [upd_ne z]
      exact e⟩
theorem Ta.same {C : Addr} {H H' : Hp} {t : Tl} (h : Ta K C H t) (s : Same H H') : Ta K C H' t := ⟨s _ _ h.o, s _ _ h.r, h.rk.same s, s _ _ h.v, fun u hu => (h.vs u hu).same s, h.sd.same s, h.rv, h.rl⟩
/-- a change elsewhere -/
theorem SdOk.fx {p : Addr → Prop} {H H' : Hp} {d : Addr} {us : List (Int × Vt)} {kvs : List (Key × V)} {pd : Option Int} (h : SdOk K nil0 H d us kvs pd) (f : Fx K p H H') (hd : ¬ p d) (hl : ∀ (s : Int) l, valV kvs (Sum.inl s) = some (.ref l) → ¬ p l) : SdOk K nil0 H' d us kvs pd :=
  ⟨f.at_ _ _ h.hd hd, h.fd, h.nd, h.ks, fun t => (h.at_ t).imp_right fun ⟨l, ps, h1, h2, h3, h4, h5⟩ => ⟨l, ps, h1, h2, f.at_ _ _ h3 (hl _ _ h1), fun p hp => (h4 p hp).tu f.tu, h5⟩, h.inj⟩
theorem Ta.fx {C : Addr} {p : Addr → Prop} {H H' : Hp} {t : Tl} (h : Ta K C H t) (f : Fx K p H H') (hp : ∀ c, Mu t c → ¬ p c) : Ta K C H' t :=
  ⟨f.is _ _ _ _ h.o, f.at_ _ _ h.r (hp _ (.inl rfl)), h.rk.st f.tu.st, f.at_ _ _ h.v (hp _ (.inr (.inl rfl))), fun u hu => (h.vs u hu).tu f.tu, h.sd.fx f (hp _ (.inr (.inr (.inl rfl)))) fun s l e => hp _ (.inr (.inr (.inr ⟨s, e⟩))), h.rv, h.rl⟩
/-- what a tally changes stands -/
theorem Ta.mu {C : Addr} {H : Hp} {t : Tl} (h : Ta K C H t) {c : Addr} (m : Mu t c) : H c ≠ none := by
  rcases m with rfl | rfl | rfl | ⟨s, e⟩
  · rw [h.r]
    exact fun z => by cases z
  · rw [h.v]
    exact fun z => by cases z
  · rw [h.sd.hd]
    exact fun z => by cases z
  · rcases h.sd.at_ s with ⟨g, _⟩ | ⟨l, ps, g1, _, g3, _⟩
    · rw [g] at e
      cases e
    · rw [g1] at e
      cases e
      rw [g3]
      exact fun z => by cases z
theorem Ta.new {C : Addr} {H : Hp} {t : Tl} (h : Ta K C H t) {c : Addr} (f : Xk.Fr c H) : ¬ Mu t c := fun m => h.mu m f.is
theorem Ta.rd {C : Addr} {H : Hp} {t : Tl} (h : Ta K C H t) : t.r ≠ t.d ∧ t.v ≠ t.d ∧ ∀ (s : Int) l, valV t.kvs (Sum.inl s) = some (.ref l) → l ≠ t.d := by
  have hd := h.sd.hd
  refine ⟨fun z => ?_, fun z => ?_, fun s l e z => ?_⟩
  · have := h.r
    rw [z, hd] at this
    cases this
  · have := h.v
    rw [z, hd] at this
    cases this
  · rcases h.sd.at_ s with ⟨g, _⟩ | ⟨l', ps, g1, _, g3, _⟩
    · rw [g] at e
      cases e
    · rw [g1] at e
      cases e
      rw [z, hd] at g3
      cases g3
/-- an entry more -/
theorem Ta.row {C : Addr} {H : Hp} {t : Tl} (h : Ta K C H t) {x : V} {k : En} (hx : Xk.Pk K H 4 x (ent k)) :
    Ta K C (upd H t.r (.lst (t.xs ++ [x]))) { t with xs := t.xs ++ [x], ks := t.ks ++ [k] } ∧ Fx K (Mu t) H (upd H t.r (.lst (t.xs ++ [x]))) := by
  have f : Fx K (fun c => c = t.r) H (upd H t.r (.lst (t.xs ++ [x]))) := .mut h.r rfl
  have f2 : Fx K (Mu t) H (upd H t.r (.lst (t.xs ++ [x]))) := .mut h.r (.inl rfl)
  refine ⟨⟨f.is _ _ _ _ h.o, upd_same, ?_, f.at_ _ _ h.v (fun z => h.rv z.symm), fun u hu => (h.vs u hu).tu f.tu, h.sd.fx f (fun z => h.rd.1 z.symm) fun s l e z => (h.rl s l e).1 z, h.rv, h.rl⟩, f2⟩
  show Xk.PkAll K _ 4 (t.xs ++ [x]) ((t.ks ++ [k]).map ent)
  rw [List.map_append]
  exact pk_snoc (hx.st f.tu.st) (h.rk.st f.tu.st)
theorem Ta.addv {C : Addr} {H : Hp} {t : Tl} (h : Ta K C H t) {u : Int × Vt} (hu : V4At K H u) :
    Ta K C (upd H t.v (.lst ((t.us.map fun u => V.ref u.2.a) ++ [.ref u.2.a]))) { t with us := t.us ++ [u] } ∧ Fx K (Mu t) H (upd H t.v (.lst ((t.us.map fun u => V.ref u.2.a) ++ [.ref u.2.a]))) := by
  have f : Fx K (fun c => c = t.v) H (upd H t.v (.lst ((t.us.map fun u => V.ref u.2.a) ++ [.ref u.2.a]))) := .mut h.v rfl
  have f2 : Fx K (Mu t) H (upd H t.v (.lst ((t.us.map fun u => V.ref u.2.a) ++ [.ref u.2.a]))) := .mut h.v (.inr (.inl rfl))
  refine ⟨⟨f.is _ _ _ _ h.o, f.at_ _ _ h.r h.rv, h.rk.st f.tu.st, ?_, fun w hw => ?_, h.sd.fx f (fun z => h.rd.2.1 z.symm) fun s l e z => (h.rl s l e).2 z, h.rv, h.rl⟩, f2⟩
  · show upd H t.v _ t.v = some (.lst ((t.us ++ [u]).map fun u => V.ref u.2.a))
    rw [upd_same, List.map_append]
    rfl
  · rcases List.mem_append.mp hw with hw | hw
    · exact (h.vs w hw).tu f.tu
    · rw [List.mem_singleton.mp hw]
      exact hu.tu f.tu
theorem Ta.key {C : Addr} {H H' : Hp} {t : Tl} {z : Addr} (h : Ta K C H t) (hp : t.pd = none) {s : Int} (hn : valV t.kvs (Sum.inl s) = none) (hz : Xk.Fr z H) (ss : Same H H') (hz' : H' z = some (.lst [])) :
    Ta K C (upd H' t.d (.dK (putK t.kvs (Sum.inl s) (.ref z)))) { t with kvs := putK t.kvs (Sum.inl s) (.ref z), pd := some s } ∧ Fx K (Mu t) H (upd H' t.d (.dK (putK t.kvs (Sum.inl s) (.ref z)))) := by
  have h' := h.same ss
  have f : Fx K (fun c => c = t.d) H' (upd H' t.d (.dK (putK t.kvs (Sum.inl s) (.ref z)))) := .mutD h'.sd.hd rfl
  have f2 : Fx K (Mu t) H (upd H' t.d (.dK (putK t.kvs (Sum.inl s) (.ref z)))) := (Fx.same ss).trans (.mutD h'.sd.hd (.inr (.inr (.inl rfl))))
  have sd := h.sd
  rw [hp] at sd
  refine ⟨⟨f.is _ _ _ _ h'.o, f.at_ _ _ h'.r h.rd.1, h'.rk.st f.tu.st, f.at_ _ _ h'.v h.rd.2.1, fun w hw => (h'.vs w hw).tu f.tu, sd.key hn (fun c o e => by cases e) hz ss hz', h.rv, fun s' l e => ?_⟩, f2⟩
  have e' : valV (putK t.kvs (Sum.inl s) (.ref z)) (Sum.inl s') = some (.ref l) := e
  rw [valV_put] at e'
  split at e'
  · cases e'
    exact ⟨(Xk.ne_new hz h.r).symm, (Xk.ne_new hz h.v).symm⟩
  · exact h.rl s' l e'
theorem Ta.app {C : Addr} {H : Hp} {t : Tl} {l : Addr} (h : Ta K C H t) {s : Int} {v u : Vt} (hpd : t.pd = none ∨ t.pd = some s) (hl : valV t.kvs (Sum.inl s) = some (.ref l)) {ps : List Vt} (hp : H l = some (.lst (ps.map fun v => V.ref v.a)))
    (h4 : ∀ p ∈ ps, VtAt K H p) (h5 : ps.map vq = (sgr t.ws s).map vq) (hq : VtAt K H u) (e : vq u = vq v) :
    Ta K C (upd H l (.lst ((ps.map fun v => V.ref v.a) ++ [.ref u.a]))) { t with ws := t.ws ++ [(s, v)], pd := none } ∧ Fx K (Mu t) H (upd H l (.lst ((ps.map fun v => V.ref v.a) ++ [.ref u.a]))) := by
  have f : Fx K (fun c => c = l) H (upd H l (.lst ((ps.map fun v => V.ref v.a) ++ [.ref u.a]))) := .mut hp rfl
  have f2 : Fx K (Mu t) H (upd H l (.lst ((ps.map fun v => V.ref v.a) ++ [.ref u.a]))) := .mut hp (.inr (.inr (.inr ⟨s, hl⟩)))
  exact ⟨⟨f.is _ _ _ _ h.o, f.at_ _ _ h.r (fun z => (h.rl s l hl).1 z.symm), h.rk.st f.tu.st, f.at_ _ _ h.v (fun z => (h.rl s l hl).2 z.symm), fun w hw => (h.vs w hw).tu f.tu, h.sd.add hpd hl hp h4 h5 hq e, h.rv, h.rl⟩, f2⟩
--CUT--
/-- what holds between calls -/
structure Tb (t : Tl) (fm : List Int) : Prop where
  pd : t.pd = none
  e : t.ws.map uq = t.us.map uq
  g : ∀ u ∈ t.us, Gk u.2.k ∧ u.1 ≤ 4
  l : t.us.length ≤ 45
  k : t.ks.length ≤ 4
  gk : ∀ k ∈ t.ks, Gk k
  fm : Gm fm
  kl : t.kvs.length ≤ t.us.length
theorem Tb.sgl {t : Tl} {fm : List Int} (h : Tb t fm) {s : Int} : (sgr t.ws s).length ≤ 45 := by
  unfold sgr
  rw [List.length_map]
  refine Nat.le_trans (List.length_filter_le ..) ?_
  have z := congrArg List.length h.e
  rw [List.length_map, List.length_map] at z
  have := h.l
  omega
/-- the list of a slot, or a new one -/
theorem Ta.slot {C : Addr} {H H' : Hp} {t : Tl} {fm : List Int} (h : Ta K C H t) (b : Tb t fm) {z : Addr} (s : Same H H') (hz : H' z = some (.lst [])) (n : Int) : ∃ (u : Addr) (ps : List Vt), (valV t.kvs (Sum.inl n)).getD (.ref z) = V.ref u ∧ VsAt K H' u ps ∧ ps.map vq = (sgr t.us n).map vq ∧ ps.length ≤ 45 := by
  have e2 := sgr_map (s := n) b.e
  have l : ∀ ps : List Vt, ps.map vq = (sgr t.us n).map vq → ps.length ≤ 45 := fun ps e => by
    have z := congrArg List.length e
    rw [← e2, List.length_map, List.length_map] at z
    rw [z]
    exact b.sgl
  rcases h.sd.at_ n with ⟨g1, g2⟩ | ⟨l', ps, g1, g2, g3, g4, g5⟩
  · have e3 : ([] : List Vt).map vq = (sgr t.us n).map vq := by rw [← e2, g2]
    exact ⟨z, [], by rw [g1]; rfl, ⟨Xk.sq_of hz, fun v hv => by cases hv⟩, e3, l _ e3⟩
  · exact ⟨l', ps, by rw [g1]; rfl, ⟨Xk.sq_of (s _ _ g3), fun v hv => (g4 v hv).same s⟩, g5.trans e2, l _ (g5.trans e2)⟩
theorem PkAll_len {H : Hp} {n : Nat} {xs : List V} {ks : List En} (h : Xk.PkAll K H n xs (ks.map ent)) : xs.length = ks.length := by
  have z := h.len
  rw [List.length_map] at z
  exact z
def sp_Tally_members_of (K : PySem.W.Frag) (C : Addr) : Sp := fun vs H Q _ => ∃ (t : Tl) (fm : List Int) (s : Int), vs = [.ref t.a, .int s] ∧ Ta K C H t ∧ SqT K H t.f (fm.map V.int) ∧ Tb t fm ∧ 1 ≤ s ∧ s ≤ (t.ks.length : Int) + 1 ∧
  ∀ p, SqT K H p ((memAt fm (t.ks.take (s - 1).toNat)).map V.int) → Q (.ref p) H
theorem ok_Tally_members_of (T : Txt K mg) : FnOk P w K mg base CX0 2 T.f_Tally_members_of T.d_Tally_members_of ["self", "slot"] (sp_Tally_members_of K T.C_Tally) := by
  refine T.F_Tally_members_of.ok sc_Tally_members_of (fun vs H Q E h => ?_) (fun cdv A outer s H vs Q E hr h => ?_)
  · obtain ⟨t, fm, s, rfl, _⟩ := h
    rfl
  obtain ⟨t, fm, s, rfl, g, hf, b, hs1, hs2, q⟩ := h
  have c0 := T.Cls_Tally
  have c1 := T.A_Tally_first_members
  have c2 := T.A_Tally_row
  have j1 := g.o
  have j2 := g.r
  refine ⟨_, (pss_one (ps_ret (pe_call (ok_members_of_slot T) (hr.mono (by decide)) (by rfl) T.g_members_of_slot T.F_members_of_slot.kp T.b_members_of_slot .nil pass0 (pa_cons (Xk.k_fld (K := K) (by rfl) (pv 0) rfl) (pa_cons (Xk.k_fld (K := K) (by rfl) (pv 0) rfl) (pa_cons (pv 1) pa_nil)))))), ?_⟩
  wtm_at "x0"
  wtm_at "xs"
  have := b.k
  exact ⟨t.f, t.r, fm, t.xs, t.ks, s, rfl, hf, Xk.sq_of j2, g.rk, hs1, hs2, by omega, q⟩
def sp_Tally_votes_of (K : PySem.W.Frag) (C : Addr) : Sp := fun vs H Q _ => ∃ (t : Tl) (fm : List Int) (s : Int), vs = [.ref t.a, .int s] ∧ Ta K C H t ∧ Tb t fm ∧
  ∀ H' p ps, Same H H' → VsAt K H' p ps → ps.map vq = (sgr t.us s).map vq → ps.length ≤ 45 → Q (.ref p) H'
theorem ok_Tally_votes_of (T : Txt K mg) : FnOk P w K mg base CX0 1 T.f_Tally_votes_of T.d_Tally_votes_of ["self", "slot"] (sp_Tally_votes_of K T.C_Tally) := by
  refine T.F_Tally_votes_of.ok sc_Tally_votes_of (fun vs H Q E h => ?_) (fun cdv A outer s H vs Q E hr h => ?_)
  · obtain ⟨t, fm, s, rfl, _⟩ := h
    rfl
  obtain ⟨t, fm, s, rfl, g, b, q⟩ := h
  have c0 := T.Cls_Tally
  have c1 := T.A_Tally__by_slot
  have j1 := g.o
  have j2 := g.sd.hd
  refine ⟨_, (pss_one (ps_ret (pe_callTy (Xk.k_list (K := K) (by rfl)) (by rfl) T.m_list (by decide +kernel) (pa_cons (pe_dget2 (hu_of hr) (Xk.k_fld (K := K) (by rfl) (pv 0) rfl) (pv 1) (pe_lst pa_nil) ⟨by rfl, by rfl, by rfl, by rfl⟩) pa_nil)))), ?_⟩
  wtm_at "x0"
  wtm_at "xs"
  intro z H1 hz s1 hz1
  obtain ⟨u, ps, e1, e2, e3, e4⟩ := g.slot b s1 hz1 s
  refine ⟨_, (DGet.k (k := Sum.inl s) (s1 _ _ j2) : DGet H1 t.d (kV (Sum.inl s)) (valV t.kvs (Sum.inl s))), ?_⟩
  rw [e1]
  have hl := e2.1
  wtm_at "xs"
  exact fun l H2 _ s2 h2 => q H2 l ps (s1.trans s2) ⟨Xk.sq_of h2, (e2.same s2).2⟩ e3 e4
def sp_Tally__next_choice (K : PySem.W.Frag) (C : Addr) : Sp := fun vs H Q _ => ∃ (t : Tl) (fm : List Int), vs = [.ref t.a] ∧ Ta K C H t ∧ SqT K H t.f (fm.map V.int) ∧ Tb t fm ∧
  ∀ H' y, Same H H' → ((y = .non ∧ Dn fm t.us t.ks) ∨ ∃ k, Xk.Pk K H' 4 y (ent k) ∧ Fi (memAt fm t.ks) (sgr t.us ((t.ks.length : Int) + 1)) k) → Q y H'
theorem ok_Tally__next_choice (T : Txt K mg) : FnOk P w K mg base CX0 4 T.f_Tally__next_choice T.d_Tally__next_choice ["self"] (sp_Tally__next_choice K T.C_Tally) := by
  refine T.F_Tally__next_choice.ok sc_Tally__next_choice (fun vs H Q E h => ?_) (fun cdv A outer s H vs Q E hr h => ?_)
  · obtain ⟨t, fm, rfl, _⟩ := h
    rfl
  obtain ⟨t, fm, rfl, g, hf, b, q⟩ := h
  have c0 := T.Cls_Tally
  have c1 := T.A_Tally__by_slot
  have c2 := T.A_Tally_row
  have j1 := g.o
  have j2 := g.sd.hd
  have j3 := g.r
  have hxl := PkAll_len g.rk
  have hgk := memAt_gm b.fm t.ks b.gk
  refine ⟨_, (pss_cons (ps_set (i := 1) sc_Tally__next_choice.nd rfl (Or.inl rfl) (pe_op op_add (pe_callB (Xk.k_len (K := K) (by rfl)) (by rfl) T.m_len PySem.boot_len (pa_cons (Xk.k_fld (K := K) (by rfl) (pv 0) rfl) pa_nil)) (pe_int)))
      (pss_one (ps_ret (pe_call (ok_choice_of T) (hr.mono (by decide)) (by rfl) T.g_choice_of T.F_choice_of.kp T.b_choice_of .nil pass0 (pa_cons (pe_meth (pv 0) T.Cls_Tally T.M_Tally_members_of (ok_Tally_members_of T) (hr.mono (by decide)) T.b_Tally_members_of .nil pass0 (pa_cons (pv 1) pa_nil)) (pa_cons (pe_dget2 (hu_of hr) (Xk.k_fld (K := K) (by rfl) (pv 0) rfl) (pv 1) (pe_lst pa_nil) ⟨by rfl, by rfl, by rfl, by rfl⟩) pa_nil)))))), ?_⟩
  wtm_at "x0"
  wtm_at "xs"
  refine ⟨t, fm, _, rfl, g, hf, b, by omega, by omega, fun M hM => ?_⟩
  rw [show ((t.xs.length : Int) + 1 - 1).toNat = t.ks.length by omega, List.take_length] at hM
  wtm_at "xs"
  intro z H1 hz s1 hz1
  obtain ⟨u, ps, e1, e2, e3, e4⟩ := g.slot b s1 hz1 ((t.xs.length : Int) + 1)
  refine ⟨_, (DGet.k (k := Sum.inl ((t.xs.length : Int) + 1)) (s1 _ _ j2) : DGet H1 t.d (kV (Sum.inl ((t.xs.length : Int) + 1))) (valV t.kvs (Sum.inl ((t.xs.length : Int) + 1)))), ?_⟩
  rw [e1]
  have hM1 := Xk.st_same hM s1
  wtm_at "xs"
  rw [hxl] at e3
  refine ⟨M, u, memAt fm t.ks, ps, rfl, hM1, hgk.1, Nat.le_trans hgk.2.1 (by decide), e2, by omega, fun H2 s2 hno => ?_, fun H2 e i v s2 hpe _ hF => ?_⟩
  · exact q H2 _ (s1.trans s2) (.inl ⟨rfl, fun k z => nc_fi hno (fi_map e3.symm z)⟩)
  · exact q H2 e (s1.trans s2) (.inr ⟨v.k, hpe, fi_map e3 ⟨i, v, hF, rfl⟩⟩)
--CUT--
def sp_Tally__count (K : PySem.W.Frag) (C : Addr) : Sp := fun vs H Q _ => ∃ (t : Tl) (fm : List Int), vs = [.ref t.a] ∧ Ta K C H t ∧ SqT K H t.f (fm.map V.int) ∧ Tb t fm ∧
  ∀ H' xs ds, Fx K (Mu t) H H' → Ta K C H' { t with xs := xs, ks := t.ks ++ ds } → Sg fm t.us t.ks ds → Dn fm t.us (t.ks ++ ds) → Q .non H'
theorem Tb.row {t : Tl} {fm : List Int} (b : Tb t fm) {ds : List En} (h : Sg fm t.us t.ks ds) (xs : List V) : Tb { t with xs := xs, ks := t.ks ++ ds } fm :=
  ⟨b.pd, b.e, b.g, b.l, by
    have z := h.le (n := 4) (fun u hu => (b.g u hu).2) (by have := b.k; omega)
    show (t.ks ++ ds).length ≤ 4
    omega, fun k hk => by
    rcases List.mem_append.mp hk with hk | hk
    · exact b.gk k hk
    · exact h.gk (fun u hu => (b.g u hu).1) k hk, b.fm, b.kl⟩
theorem ok_Tally__count (T : Txt K mg) : FnOk P w K mg base CX0 5 T.f_Tally__count T.d_Tally__count ["self"] (sp_Tally__count K T.C_Tally) := by
  refine T.F_Tally__count.ok sc_Tally__count (fun vs H Q E h => ?_) (fun cdv A outer s H vs Q E hr h => ?_)
  · obtain ⟨t, fm, rfl, _⟩ := h
    rfl
  obtain ⟨t, fm, rfl, g, hf, b, q⟩ := h
  have c0 := T.Cls_Tally
  have c2 := T.A_Tally_row
  have j1 := g.o
  refine ⟨_, (pss_cons (ps_set (i := 1) sc_Tally__count.nd rfl (Or.inl rfl) (pe_meth0 (pv 0) T.Cls_Tally T.M_Tally__next_choice (ok_Tally__next_choice T) (hr.mono (by decide)) T.b_Tally__next_choice .nil pass0))
      (pss_one (ps_while PassesOwn.never (pt_cmpR Xk.op_nNotN (pv 1) (pe_non) (nomark _)) (pss_cons (ps_expr (pe_bm PySem.F.plainAttrs_list PySem.F.slot_list_append PySem.F.type_list_append mt_append (Xk.k_fld (K := K) (by rfl) (pv 0) rfl) (pa_cons (pv 1) pa_nil)))
      (pss_one (ps_set (i := 1) sc_Tally__count.nd rfl (Or.inl rfl) (pe_meth0 (pv 0) T.Cls_Tally T.M_Tally__next_choice (ok_Tally__next_choice T) (hr.mono (by decide)) T.b_Tally__next_choice .nil pass0))))))), ?_⟩
  wtm_at "x0"
  wtm_at "xs"
  refine ⟨t, fm, rfl, g, hf, b, fun H1 y s1 hy => ?_⟩
  wtm_at "xs"
  refine Xk.x_while1 (fun m σ' H' => ∃ (y : V) (xs : List V) (ds : List En), σ' = [some (.ref t.a), some y] ∧ Fx K (Mu t) H H' ∧ Ta K T.C_Tally H' { t with xs := xs, ks := t.ks ++ ds } ∧ Sg fm t.us t.ks ds ∧ m = 5 - (t.ks ++ ds).length ∧ ((y = .non ∧ Dn fm t.us (t.ks ++ ds)) ∨ ∃ k, Xk.Pk K H' 4 y (ent k) ∧ Fi (memAt fm (t.ks ++ ds)) (sgr t.us (((t.ks ++ ds).length : Int) + 1)) k)) (5 - (t.ks ++ []).length)
    ⟨y, t.xs, [], rfl, .same s1, by rw [List.append_nil]; exact g.same s1, .nil, rfl, by rw [List.append_nil]; exact hy⟩ ?_
  · clear hy
    rintro m σ' H2 ⟨y, xs, ds, rfl, f2, g2, hsg, rfl, hy⟩
    rcases hy with ⟨rfl, hdn⟩ | ⟨k, hpe, hfi⟩
    · wtm_at "xs"
      refine Xk.x_wF ?_
      exact q H2 xs ds f2 g2 hsg hdn
    · obtain ⟨ea, ex, ey, rfl, _⟩ := ent_at hpe
      have j2 := g2.o
      have j3 := g2.r
      simp only at j2 j3
      have hxl := PkAll_len g2.rk
      have hb2 := b.row hsg xs
      have hkl : (t.ks ++ ds).length ≤ 4 := hb2.k
      simp only at hxl
      wtm_at "xs"
      refine Xk.x_wT ?_
      wtm_at "xs"
      obtain ⟨g3, f3⟩ := g2.row hpe
      simp only at g3 f3
      rw [List.append_assoc] at g3
      have hsg3 := hsg.snoc hfi
      have hb3 := b.row hsg3 (xs ++ [V.ref ea])
      have hkl3 : (t.ks ++ (ds ++ [k])).length ≤ 4 := hb3.k
      have o3 := g3.o
      simp only at o3
      have f03 : Fx K (Mu t) H (upd H2 t.r (.lst (xs ++ [V.ref ea]))) := f2.trans f3
      have hf3 := f03.tu.st.t _ _ hf
      generalize upd H2 t.r (.lst (xs ++ [V.ref ea])) = H3 at *
      wtm_at "xs"
      refine ⟨{ t with xs := xs ++ [V.ref ea], ks := t.ks ++ (ds ++ [k]) }, fm, rfl, g3, hf3, hb3, fun H4 y s4 hy => ?_⟩
      refine ⟨5 - (t.ks ++ (ds ++ [k])).length, ?_, y, xs ++ [V.ref ea], ds ++ [k], rfl, f03.trans (.same s4), g3.same s4, hsg3, rfl, hy⟩
      simp only [List.length_append, List.length_cons, List.length_nil] at hkl hkl3 ⊢
      omega
--CUT--
def sp_Tally___init__ (K : PySem.W.Frag) (C : Addr) : Sp := fun vs H Q _ => ∃ (x dx f : Addr), vs = [.ref x, .ref f] ∧ H x = some (.ins C dx []) ∧
  ∀ H' r v d, Xk.Fr r H → Xk.Fr v H → Xk.Fr d H → Xk.But x H H' → Ta K C H' ⟨x, dx, f, r, v, d, [], [], [], [], [], none⟩ → Q .non H'
theorem ok_Tally___init__ (T : Txt K mg) : FnOk P w K mg base CX0 1 T.f_Tally___init__ T.d_Tally___init__ ["self", "first_members"] (sp_Tally___init__ K T.C_Tally) := by
  refine T.F_Tally___init__.ok sc_Tally___init__ (fun vs H Q E h => ?_) (fun cdv A outer s H vs Q E hr h => ?_)
  · obtain ⟨x, dx, f, rfl, _⟩ := h
    rfl
  obtain ⟨x, dx, f, rfl, j1, q⟩ := h
  have c0 := T.Cls_Tally
  have c1 := T.A_Tally_first_members
  have c2 := T.A_Tally_row
  have c3 := T.A_Tally_votes
  have c4 := T.A_Tally__by_slot
  refine ⟨_, (pss_cons (ps_fld (pv 0) (pv 1) rfl)
      (pss_cons (ps_fld (pv 0) (pe_lst pa_nil) rfl)
      (pss_cons (ps_fld (pv 0) (pe_lst pa_nil) rfl)
      (pss_one (ps_fld (pv 0) (pe_dnewK) rfl))))), ?_⟩
  wtm_at "x0"
  wtm_at "xs"
  intro p1 H1 hp1 s1 h1
  have o1 := s1 _ _ (show upd H x _ x = _ from upd_same)
  wtm_at "xs"
  intro p2 H2 hp2 s2 h2
  have n1 : x ≠ p1 := Xk.ne_new hp1 upd_same
  have o2 := s2 _ _ (show upd H1 x _ x = _ from upd_same)
  have l2 := s2 _ _ ((upd_ne n1.symm).trans h1)
  wtm_at "xs"
  intro p3 H3 hp3 s3 h3
  have n2 : x ≠ p2 := Xk.ne_new hp2 upd_same
  have n12 : p1 ≠ p2 := Xk.ne_new hp2 ((upd_ne n1.symm).trans h1)
  have o3 := s3 _ _ (show upd H2 x _ x = _ from upd_same)
  have l3 := s3 _ _ ((upd_ne n1.symm).trans l2)
  have m3 := s3 _ _ ((upd_ne n2.symm).trans h2)
  wtm_at "xs"
  have n3 : x ≠ p3 := Xk.ne_new hp3 upd_same
  have f1 := Xk.fr_upd hp1
  have b1 : Xk.But x H H1 := Xk.but_trans (Xk.but_mut (Xk.But.refl _ _)) (Xk.but_same s1)
  have b2 : Xk.But x H H2 := Xk.but_trans b1 (Xk.but_trans (Xk.but_mut (Xk.But.refl _ _)) (Xk.but_same s2))
  have b3 : Xk.But x H H3 := Xk.but_trans b2 (Xk.but_trans (Xk.but_mut (Xk.But.refl _ _)) (Xk.but_same s3))
  have f2 : Xk.Fr p2 H := Xk.none_but j1 b1 o1 (Xk.fr_upd hp2)
  have f3 : Xk.Fr p3 H := Xk.none_but j1 b2 o2 (Xk.fr_upd hp3)
  refine q _ p1 p2 p3 f1 f2 f3 (Xk.but_mut b3) ⟨upd_same, (upd_ne n1.symm).trans l3, Xk.pk_nil, (upd_ne n2.symm).trans m3, fun u hu => (by cases hu), ⟨(upd_ne n3.symm).trans h3, ⟨rfl⟩, .nil, fun p hp => (by cases hp), fun s => .inl ⟨rfl, rfl⟩, fun s s' l h => (by cases h)⟩, n12, fun s l e => by cases e⟩
theorem pk_drop {H : Hp} {n : Nat} : ∀ {vs : List V} {ds : List PyData} (k : Nat), Xk.PkAll K H n vs ds → Xk.PkAll K H n (vs.drop k) (ds.drop k)
  | vs, ds, 0, h => h
  | [], ds, k + 1, h => by
    obtain ⟨h1, _, _⟩ := h
    cases h1
    exact Xk.pk_nil
  | w :: vs, ds, k + 1, h => by
    obtain ⟨e, es, rfl, h1, h2⟩ := h.uncons
    exact pk_drop k h2
theorem Ta.setd {C : Addr} {H2 H3 : Hp} {t : Tl} {z : Addr} {s : Int} {R : VK} (h : Ta K C H2 t) (hp : t.pd = none) (hz : Xk.Fr z H2) (ss : Same H2 H3) (hz3 : H3 z = some (.lst [])) (hl : t.kvs.length ≤ 1000)
    (k : ∀ H' kvs' pd' w, Fx K (Mu t) H2 H' → Ta K C H' { t with kvs := kvs', pd := pd' } → (pd' = none ∨ pd' = some s) → valV kvs' (Sum.inl s) = some w → (∀ c, H2 c ≠ none → Mu { t with kvs := kvs', pd := pd' } c → Mu t c) → kvs'.length ≤ t.kvs.length + 1 → R w H') :
    ∃ (kvs : List (Key × V)) (k : Key), H3 t.d = some (.dK kvs) ∧ V.int s = kV k ∧ kvs.length < sizeLine ∧ (∀ v, valV kvs k = some v → R v H3) ∧ (valV kvs k = none → R (.ref z) (upd H3 t.d (.dK (putK kvs k (.ref z))))) := by
  refine ⟨t.kvs, Sum.inl s, ss _ _ h.sd.hd, rfl, Xk.size_lt (by omega), fun w hw => ?_, fun hn => ?_⟩
  · have g3 := h.same ss
    refine k H3 t.kvs none w (.same ss) ?_ (.inl rfl) hw (fun c _ m => m) (Nat.le_succ _)
    rw [← hp]
    exact g3
  · obtain ⟨g3, f3⟩ := h.key hp hn hz ss hz3
    refine k _ _ _ _ f3 g3 (.inr rfl) (by rw [valV_put, if_pos rfl]) (fun c hc m => ?_) (by rw [putK_new _ hn, List.length_append]; exact Nat.le_refl _)
    rcases m with m | m | m | ⟨s', e⟩
    · exact .inl m
    · exact .inr (.inl m)
    · exact .inr (.inr (.inl m))
    · have e' : valV (putK t.kvs (Sum.inl s) (.ref z)) (Sum.inl s') = some (.ref c) := e
      rw [valV_put] at e'
      split at e'
      · cases e'
        exact absurd hz.is hc
      · exact .inr (.inr (.inr ⟨s', e'⟩))
def sp_Tally_add (K : PySem.W.Frag) (C : Addr) : Sp := fun vs H Q _ => ∃ (t : Tl) (fm : List Int) (s ix : Int) (b : Addr) (e : V) (tt tx : Int) (k : En), vs = [.ref t.a, .int s, .int ix, .ref b, e] ∧ Ta K C H t ∧ SqT K H t.f (fm.map V.int) ∧ Tb t fm ∧ t.us.length ≤ 44 ∧
  H b = some (.tup [.int tt, .int tx]) ∧ Xk.Pk K H 4 e (ent k) ∧ Gk k ∧ s ≤ 4 ∧
  ∀ H' p ys ds t', Fx K (Mu t) H H' → Ta K C H' t' → Tb t' fm → t'.a = t.a → t'.f = t.f → t'.us.map uq = t.us.map uq ++ [(s, (ix, tt, tx, k))] → t'.us.length = t.us.length + 1 → t'.ks = t.ks ++ ds → (∀ c, H c ≠ none → Mu t' c → Mu t c) → H' p = some (.lst ys) → Xk.Fr p H → Xk.PkAll K H' 4 ys (ds.map ent) →
    ((s = (t.ks.length : Int) + 1 ∧ Sg fm t'.us t.ks ds ∧ Dn fm t'.us (t.ks ++ ds)) ∨ (s ≠ (t.ks.length : Int) + 1 ∧ ds = [])) → Q (.ref p) H'
theorem ok_Tally_add (T : Txt K mg) : FnOk P w K mg base CX0 6 T.f_Tally_add T.d_Tally_add ["self", "slot", "index", "ballot", "entry"] (sp_Tally_add K T.C_Tally) := by
  refine T.F_Tally_add.ok sc_Tally_add (fun vs H Q E h => ?_) (fun cdv A outer s H vs Q E hr h => ?_)
  · obtain ⟨t, fm, s, ix, b, e, tt, tx, k, rfl, _⟩ := h
    rfl
  obtain ⟨t, fm, s, ix, b, e, tt, tx, k, rfl, g, hf, bb, hul, hb, hpe, hgk, hs4, q⟩ := h
  have c0 := T.Cls_Tally
  have c2 := T.A_Tally_row
  have c3 := T.A_Tally_votes
  have c4 := T.A_Tally__by_slot
  have j1 := g.o
  have j2 := g.v
  refine ⟨_, (pss_cons (ps_expr (pe_bm PySem.F.plainAttrs_list PySem.F.slot_list_append PySem.F.type_list_append mt_append (Xk.k_fld (K := K) (by rfl) (pv 0) rfl) (pa_cons (pe_tup (pa_cons (pv 1) (pa_cons (pv 2) (pa_cons (pv 3) (pa_cons (pv 4) pa_nil))))) pa_nil)))
      (pss_cons (ps_expr (pe_bm PySem.F.plainAttrs_list PySem.F.slot_list_append PySem.F.type_list_append mt_append (pe_dsetd (Xk.k_fld (K := K) (by rfl) (pv 0) rfl) (pv 1) (pe_lst pa_nil) ⟨by rfl, by rfl, by rfl, by rfl⟩) (pa_cons (pe_tup (pa_cons (pv 2) (pa_cons (pv 3) (pa_cons (pv 4) pa_nil)))) pa_nil)))
      (pss_cons (ps_set (i := 5) sc_Tally_add.nd rfl (Or.inl rfl) (pe_callB (Xk.k_len (K := K) (by rfl)) (by rfl) T.m_len PySem.boot_len (pa_cons (Xk.k_fld (K := K) (by rfl) (pv 0) rfl) pa_nil)))
      (Evl.pss_cut (ps_if (pt_cmpR op_eq (pv 1) (pe_op op_add (pv 5) (pe_int)) (nomark _)) (pss_one (ps_expr (pe_meth0 (pv 0) T.Cls_Tally T.M_Tally__count (ok_Tally__count T) (hr.mono (by decide)) T.b_Tally__count .nil pass0))) pss_nil)
      (pss_one (ps_ret (pe_slice (Xk.k_slL (K := K) (by rfl)) (Xk.k_fld (K := K) (by rfl) (pv 0) rfl) (po_some (pv 5)) po_none))))))), ?_⟩
  wtm_at "x0"
  wtm_at "xs"
  intro q1 H1 hq1 s1 h1
  have g1 := g.same s1
  have o1 := g1.o
  have v1 := g1.v
  wtm_at "xs"
  obtain ⟨g2, f2⟩ := g1.addv (u := (s, ⟨q1, b, ix, tt, tx, e, k⟩)) ⟨Xk.st_of h1, s1 _ _ hb, hpe.same s1⟩
  simp only at g2 f2
  have o2 := g2.o
  have d2 := g2.sd.hd
  have s02 : Fx K (Mu t) H (upd H1 t.v (.lst ((t.us.map fun u => V.ref u.2.a) ++ [V.ref q1]))) := (Fx.same s1).trans f2
  simp only at o2 d2
  generalize upd H1 t.v (.lst ((t.us.map fun u => V.ref u.2.a) ++ [V.ref q1])) = H2 at *
  clear f2
  unfold tDSetd
  wtm_at "xs"
  refine ⟨t.d, rfl, .inl ⟨t.kvs, .inl d2⟩, ?_⟩
  wtm_at "xs"
  intro z H3 hz s3 hz3
  refine Ta.setd (R := fun w Hx => tyV K "list" w Hx ∧ tCons (tTup (tCons (tVar 2) (tCons (tVar 3) (tCons (tVar 4) tNil)))) tNil [some (V.ref t.a), some (V.int s), some (V.int ix), some (V.ref b), some e, none] Hx fun xs H2 => rAppend w xs H2 _) (t := { t with us := t.us ++ [(s, ⟨q1, b, ix, tt, tx, e, k⟩)] }) (s := s) g2 bb.pd hz s3 hz3 (by have := bb.kl; show t.kvs.length ≤ 1000; omega) fun H4 kvs4 pd4 w f4 g4 hpd4 hw4 mo4 hkl4 => ?_
  simp only at f4 g4 mo4 hkl4
  have f04 : Fx K (Mu t) H H4 := s02.trans f4
  obtain ⟨l, ps, l1, l3, l4, l5⟩ : ∃ (l : Addr) (ps : List Vt), w = .ref l ∧ H4 l = some (.lst (ps.map fun v => V.ref v.a)) ∧ (∀ p ∈ ps, VtAt K H4 p) ∧ ps.map vq = (sgr t.ws s).map vq := by
    rcases g4.sd.at_ s with ⟨x, _⟩ | ⟨l, ps, x1, _, x3, x4, x5⟩
    · rw [show valV kvs4 (Sum.inl s) = none from x] at hw4
      cases hw4
    · rw [show valV kvs4 (Sum.inl s) = some (.ref l) from x1] at hw4
      cases hw4
      exact ⟨l, ps, rfl, x3, x4, x5⟩
  subst l1
  have hpl : ps.length ≤ 45 := by
    have z := congrArg List.length l5
    rw [List.length_map, List.length_map] at z
    rw [z]
    exact bb.sgl
  refine Xk.x_tyL (Xk.sq_of l3) ?_
  wtm_at "xs"
  intro q2 H5 hq2 s5 h5
  have l35 := s5 _ _ l3
  have g5 := g4.same s5
  wtm_at "xs"
  obtain ⟨g6, f6⟩ := g5.app (s := s) (v := ⟨q1, b, ix, tt, tx, e, k⟩) (u := ⟨q2, b, ix, tt, tx, e, k⟩) hpd4 hw4 l35 (fun p hp => (l4 p hp).same s5) l5 ⟨Xk.st_of h5, s5 _ _ (f04.tu.tp _ _ hb), (hpe.st f04.tu.st).same s5, trivial⟩ rfl
  simp only at g6 f6
  have f06 := (f04.trans (.same s5)).tr f6 fun c hc m => mo4 c (s02.al c hc) m
  have mo6 : ∀ c, H c ≠ none → Mu { t with kvs := kvs4, pd := pd4 } c → Mu t c := fun c hc m => mo4 c (s02.al c hc) m
  generalize upd H5 l (.lst ((ps.map fun v => V.ref v.a) ++ [V.ref q2])) = H6 at *
  have b6 : Tb { t with us := t.us ++ [(s, ⟨q1, b, ix, tt, tx, e, k⟩)], ws := t.ws ++ [(s, ⟨q1, b, ix, tt, tx, e, k⟩)], kvs := kvs4, pd := none } fm := by
    refine ⟨rfl, ?_, fun u hu => ?_, ?_, bb.k, bb.gk, bb.fm, ?_⟩
    · show (t.ws ++ [_]).map uq = (t.us ++ [_]).map uq
      rw [List.map_append, List.map_append, bb.e]
    · rcases List.mem_append.mp hu with hu | hu
      · exact bb.g u hu
      · rw [List.mem_singleton.mp hu]
        exact ⟨hgk, hs4⟩
    · show (t.us ++ [_]).length ≤ 45
      rw [List.length_append]
      exact Nat.succ_le_succ hul
    · show kvs4.length ≤ (t.us ++ [_]).length
      rw [List.length_append]
      have := bb.kl
      exact Nat.le_trans hkl4 (Nat.succ_le_succ this)
  have o6 := g6.o
  have r6 := g6.r
  simp only at o6 r6
  have hxl := PkAll_len g6.rk
  simp only at hxl
  have hf6 := f06.tu.st.t _ _ hf
  clear f6 f4 g4 g5 l35 l3 l4 l5 hpl s5 h5 s02 o2 d2 g2 s3 hz3 hw4 hz hq2 v1 o1 g1
  wtm_at "xs"
  rw [hxl]
  refine Xk.x_cut (fun σ' H' => ∃ (xs : List V) (ds : List En), σ' = [some (.ref t.a), some (.int s), some (.int ix), some (.ref b), some e, some (.int t.ks.length)] ∧ Fx K (Mu t) H H' ∧ Ta K T.C_Tally H' { t with xs := xs, ks := t.ks ++ ds, us := t.us ++ [(s, ⟨q1, b, ix, tt, tx, e, k⟩)], ws := t.ws ++ [(s, ⟨q1, b, ix, tt, tx, e, k⟩)], kvs := kvs4, pd := none } ∧ Sg fm (t.us ++ [(s, ⟨q1, b, ix, tt, tx, e, k⟩)]) t.ks ds ∧
    ((s = (t.ks.length : Int) + 1 ∧ Dn fm (t.us ++ [(s, ⟨q1, b, ix, tt, tx, e, k⟩)]) (t.ks ++ ds)) ∨ (s ≠ (t.ks.length : Int) + 1 ∧ ds = []))) ?_ ?_
  · wtm_at "xs"
    refine Xk.x_itd (fun c => ?_) (fun c => ?_)
    · have cs : s = (t.ks.length : Int) + 1 := by injection c
      wtm_at "xs"
      refine ⟨{ t with us := t.us ++ [(s, ⟨q1, b, ix, tt, tx, e, k⟩)], ws := t.ws ++ [(s, ⟨q1, b, ix, tt, tx, e, k⟩)], kvs := kvs4, pd := none }, fm, rfl, g6, hf6, b6, fun H7 xs ds f7 g7 hsg hdn => ?_⟩
      exact ⟨xs, ds, rfl, f06.tr f7 mo6, g7, hsg, .inl ⟨cs, hdn⟩⟩
    · wtm_at "xs"
      refine ⟨t.xs, [], rfl, f06, ?_, .nil, .inr ⟨fun z => c (by rw [z]), rfl⟩⟩
      rw [List.append_nil]
      exact g6
  rintro σ' H7 ⟨xs, ds, rfl, f7, g7, hsg, hor⟩
  have o7 := g7.o
  have r7 := g7.r
  have k7 := g7.rk
  simp only at o7 r7 k7
  wtm_at "xs"
  intro p H8 hp s8 h8
  have g8 := g7.same s8
  have f8 : Fx K (Mu t) H H8 := f7.trans (.same s8)
  have e8 : (cutV xs (some (t.ks.length : Int)) none) = xs.drop t.ks.length := Xk.cut_drop rfl
  rw [e8] at h8
  refine q H8 p _ ds _ f8 g8 (b6.row hsg xs) rfl rfl ?_ ?_ rfl mo6 h8 ?_ ?_ ?_
  · show (t.us ++ [_]).map uq = _
    rw [List.map_append]
    rfl
  · show (t.us ++ [_]).length = _
    rw [List.length_append]
    rfl
  · refine ⟨?_⟩
    cases z : H p with
    | none => rfl
    | some o => exact absurd hp.is (f7.al p (by rw [z]; exact fun z => by cases z))
  · have z := pk_drop t.ks.length (k7.same s8)
    rw [List.map_append, List.drop_left' (by rw [List.length_map])] at z
    exact z
  · exact hor.imp (fun h => ⟨h.1, hsg, h.2⟩) id
--CUT--
theorem x_dcI {g : TG} {tt : TT} {tk tv te : TE} {vs : List Nat} {σ : L2.St} {r : Addr} {H : Hp} {Q : VK} {kvs : List (Key × V)} (hr : H r = some (.dK kvs)) (ev : ∀ od (R : VK), R (.ref r) (upd H r (.frz od (.dK kvs))) → te σ (upd H r (.frz od (.dK kvs))) R)
    (q : ∀ od H0, H0 = upd H r (.frz od (.dK kvs)) → ∃ Pv : Addr → Nat → Hp → Prop, (∀ D, Xk.Fr D H0 → Pv D 0 (upd H0 D (.dK []))) ∧ (∀ D i H', Xk.Fr D H0 → Pv D i H' → H' r = some (.frz od (.dK kvs))) ∧
      (∀ D, Xk.Fr D H0 → ∀ i k v H' H1 T, kvs[i]? = some (k, v) → Pv D i H' → Xk.Fr T H' → Same H' H1 → H1 T = some (.tup [kV k, v]) → g (.ref T) (wipe σ vs) H1 fun σ2 H2 => wipe σ2 vs = wipe σ vs ∧ tt σ2 H2 fun b H3 =>
        if b = true then tk σ2 H3 fun y H4 => tv σ2 H4 fun z H5 => ∃ kvs k, y = kV k ∧ H5 D = some (.dK kvs) ∧ kvs.length < sizeLine ∧ Pv D (i + 1) (upd H5 D (.dK (putK kvs k z))) else Pv D (i + 1) H3) ∧
      ∀ D H', Xk.Fr D H0 → Pv D kvs.length H' → Q (.ref D) (upd H' r (.dK kvs))) : tLockE (tDc (iItems te) g tt tk tv vs) σ H Q := by
  refine ⟨r, _, hr, trivial, fun od => ?_⟩
  obtain ⟨Pv, h0, h1, h2, h3⟩ := q od _ rfl
  refine ev od _ ⟨r, od, kvs, rfl, upd_same, fun D hD => ?_⟩
  refine ⟨fun i m H' => Pv D i H' ∧ m = kvs.length - i ∧ i ≤ kvs.length, ⟨kvs.length, h0 D ⟨hD⟩, rfl, Nat.zero_le _⟩, fun i m H' ⟨p, em, hi⟩ => ?_⟩
  rcases Nat.lt_or_ge i kvs.length with c | c
  · refine .inr ⟨⟨h1 D i H' ⟨hD⟩ p, c⟩, fun H2 => Pv D (i + 1) H2, fun H2 p2 => ⟨kvs.length - (i + 1), by omega, p2, rfl, c⟩, fun x H2 y => ?_⟩
    obtain ⟨T, k, v, e, rfl, hT, rfl⟩ := y
    exact h2 D ⟨hD⟩ i k v H' _ T e p ⟨hT⟩ (Xk.same_new hT) upd_same
  · have e : i = kvs.length := Nat.le_antisymm hi c
    subst e
    exact .inl ⟨⟨h1 D _ H' ⟨hD⟩ p, Nat.le_refl _⟩, h1 D _ H' ⟨hD⟩ p, h3 D H' ⟨hD⟩ p⟩
theorem take_nd {kvs : List (Key × V)} {i : Nat} {k : Key} {v : V} (nd : (kvs.map (·.1)).Nodup) (h : kvs[i]? = some (k, v)) : k ∉ (kvs.take i).map (·.1) := fun z => by
  rw [← List.take_append_drop i kvs, List.map_append] at nd
  have m : (k, v) ∈ kvs.drop i := List.mem_of_getElem? (i := 0) (by rw [List.getElem?_drop]; exact h)
  exact (List.nodup_append.mp nd).2.2 k z k (List.mem_map_of_mem (f := fun p : Key × V => p.1) m) rfl
def sp_Tally_fork (K : PySem.W.Frag) (C : Addr) : Sp := fun vs H Q _ => ∃ (t : Tl) (fm : List Int), vs = [.ref t.a] ∧ Ta K C H t ∧ Tb t fm ∧
  ∀ H' t', Same H H' → Ta K C H' t' → Tb t' fm → t'.f = t.f → t'.us = t.us → t'.ks = t.ks → (∀ c, H c ≠ none → ¬ Mu t' c) → Q (.ref t'.a) H'
theorem ok_Tally_fork (T : Txt K mg) : FnOk P w K mg base CX0 3 T.f_Tally_fork T.d_Tally_fork ["self"] (sp_Tally_fork K T.C_Tally) := by
  refine T.F_Tally_fork.ok sc_Tally_fork (fun vs H Q E h => ?_) (fun cdv A outer s H vs Q E hr h => ?_)
  · obtain ⟨t, fm, rfl, _⟩ := h
    rfl
  obtain ⟨t, fm, rfl, g, bb, q⟩ := h
  have c0 := T.Cls_Tally
  have c1 := T.A_Tally_first_members
  have c2 := T.A_Tally_row
  have c3 := T.A_Tally_votes
  have c4 := T.A_Tally__by_slot
  have o0 := g.o
  refine ⟨_, (pss_cons (ps_set (i := 1) sc_Tally_fork.nd rfl (Or.inl rfl) (pe_make T.Mk_Tally (ok_Tally___init__ T) (hr.mono (by decide)) (by rfl) T.g_Tally T.b_Tally___init__ .nil pass0 (pa_cons (Xk.k_fld (K := K) (by rfl) (pv 0) rfl) pa_nil)))
      (pss_cons (ps_fld (pv 1) (pe_callTy (Xk.k_list (K := K) (by rfl)) (by rfl) T.m_list (by decide +kernel) (pa_cons (Xk.k_fld (K := K) (by rfl) (pv 0) rfl) pa_nil)) rfl)
      (pss_cons (ps_fld (pv 1) (pe_callTy (Xk.k_list (K := K) (by rfl)) (by rfl) T.m_list (by decide +kernel) (pa_cons (Xk.k_fld (K := K) (by rfl) (pv 0) rfl) pa_nil)) rfl)
      (pss_cons (ps_fld (pv 1) (pe_lock (pe_dc (own := [("slot", 2), ("votes", 3)]) (g := gTup K 2 (gCons (gName 2) (gCons (gName 3) gNil))) (tt := tYes) rfl sc_Tally_fork.nd  (pi_items (Xk.k_fld (K := K) (by rfl) (pv 0) rfl)) (blkOk_by (N := N_Tally_fork) (sc := defScope s_Tally_fork) (own := [("slot", 2), ("votes", 3)]) (by decide +kernel)) (fun _ _ _ _ _ => Xk.k_gtup (K := K) (by rfl) rfl (pgs_cons (pg_name (i := 2) sc_Tally_fork.nd rfl (Or.inl rfl)) (pgs_cons (pg_name (i := 3) sc_Tally_fork.nd rfl (Or.inl rfl)) pgs_nil))) (fun _ _ _ _ _ => pts_nil) (fun _ _ _ _ _ => (pv 2)) (fun _ _ _ _ _ => (pe_callTy (Xk.k_list (K := K) (by rfl)) (by rfl) T.m_list (by decide +kernel) (pa_cons (pv 3) pa_nil))))) rfl)
      (pss_one (ps_ret (pv 1))))))), ?_⟩
  wtm_at "x0"
  wtm_at "xs"
  refine Xk.x_rMake fun x fx H1 hx hfx hn s1 h1 h2 => ?_
  refine ⟨x, fx, t.f, rfl, h2, fun H2 p1 p2 p3 hp1 hp2 hp3 b2 g2 => ⟨rfl, ?_⟩⟩
  have s2 : Same H H2 := Xk.same_but b2 hx s1
  have o2 := g2.o
  simp only at o2
  have gH := g.same s2
  have oH := gH.o
  have rH := gH.r
  have nxa : x ≠ t.a := (Xk.ne_new hx o0).symm
  have nxr : x ≠ t.r := (Xk.ne_new hx g.r).symm
  have nxv : x ≠ t.v := (Xk.ne_new hx g.v).symm
  have nxd : x ≠ t.d := (Xk.ne_new hx g.sd.hd).symm
  wtm_at "xs"
  intro l1 H3 hl1 s3 h3
  have f1 : Xk.Fr l1 H := Xk.free_back hl1 s2
  have nx1 : x ≠ l1 := Xk.ne_new hl1 o2
  have s03 := s2.trans s3
  have o3 := s3 _ _ o2
  clear g2 b2 hl1 rH oH
  have s04 : Same H (upd H3 x (.ins T.C_Tally fx (putF "row" (V.ref l1) [("first_members", .ref t.f), ("row", .ref p1), ("votes", .ref p2), ("_by_slot", .ref p3)]))) := Xk.same_mut s03 hx
  have h4x : upd H3 x (.ins T.C_Tally fx (putF "row" (V.ref l1) [("first_members", .ref t.f), ("row", .ref p1), ("votes", .ref p2), ("_by_slot", .ref p3)])) x = some (.ins T.C_Tally fx [("first_members", .ref t.f), ("row", .ref l1), ("votes", .ref p2), ("_by_slot", .ref p3)]) := by
    rw [upd_same]
    rfl
  have h4l : upd H3 x (.ins T.C_Tally fx (putF "row" (V.ref l1) [("first_members", .ref t.f), ("row", .ref p1), ("votes", .ref p2), ("_by_slot", .ref p3)])) l1 = some (.lst t.xs) := (upd_ne nx1.symm).trans h3
  wtm_at "xs"
  generalize upd H3 x (.ins T.C_Tally fx (putF "row" (V.ref l1) [("first_members", .ref t.f), ("row", .ref p1), ("votes", .ref p2), ("_by_slot", .ref p3)])) = H4 at *
  clear h3 o3 s03 s3 gH o2 s2 h2 s1 h1
  have v4 := (g.same s04).v
  wtm_at "xs"
  intro l2 H5 hl2 s5 h5
  have f2 : Xk.Fr l2 H := Xk.free_back hl2 s04
  have nx2 : x ≠ l2 := Xk.ne_new hl2 h4x
  have n12 : l1 ≠ l2 := Xk.ne_new hl2 h4l
  have o5 := s5 _ _ h4x
  have h5l := s5 _ _ h4l
  have s05 := s04.trans s5
  wtm_at "xs"
  have s06 : Same H (upd H5 x (.ins T.C_Tally fx (putF "votes" (V.ref l2) [("first_members", .ref t.f), ("row", .ref l1), ("votes", .ref p2), ("_by_slot", .ref p3)]))) := Xk.same_mut s05 hx
  have h6x : upd H5 x (.ins T.C_Tally fx (putF "votes" (V.ref l2) [("first_members", .ref t.f), ("row", .ref l1), ("votes", .ref p2), ("_by_slot", .ref p3)])) x = some (.ins T.C_Tally fx [("first_members", .ref t.f), ("row", .ref l1), ("votes", .ref l2), ("_by_slot", .ref p3)]) := by
    rw [upd_same]
    rfl
  have h6l : upd H5 x (.ins T.C_Tally fx (putF "votes" (V.ref l2) [("first_members", .ref t.f), ("row", .ref l1), ("votes", .ref p2), ("_by_slot", .ref p3)])) l1 = some (.lst t.xs) := (upd_ne nx1.symm).trans h5l
  have h6m : upd H5 x (.ins T.C_Tally fx (putF "votes" (V.ref l2) [("first_members", .ref t.f), ("row", .ref l1), ("votes", .ref p2), ("_by_slot", .ref p3)])) l2 = some (.lst (t.us.map fun u => V.ref u.2.a)) := (upd_ne nx2.symm).trans h5
  generalize upd H5 x (.ins T.C_Tally fx (putF "votes" (V.ref l2) [("first_members", .ref t.f), ("row", .ref l1), ("votes", .ref p2), ("_by_slot", .ref p3)])) = H6 at *
  clear h5 o5 h5l s05 s5 hl2 v4 h4x h4l s04
  have g6 := g.same s06
  have sd6 := g6.sd
  rw [bb.pd] at sd6
  have o6 := g6.o
  have nad : t.a ≠ t.d := fun z => by
    have := g.sd.hd
    rw [← z, o0] at this
    cases this
  wtm_at "xs"
  refine x_dcI sd6.hd (fun od R hR => ?_) fun od H0 hH0 => ⟨fun D i H' => ∃ ls : List (Key × V), Same H0 H' ∧ H' D = some (.dK ls) ∧ ls.map (·.1) = (t.kvs.take i).map (·.1) ∧
      (∀ (s : Int) w, valV ls (Sum.inl s) = some w → ∃ (l l' : Addr) (ys : List V), w = .ref l' ∧ valV t.kvs (Sum.inl s) = some (.ref l) ∧ H0 l = some (.lst ys) ∧ H' l' = some (.lst ys) ∧ Xk.Fr l' H0 ∧ l' ≠ D) ∧
      ∀ (s s' : Int) l', valV ls (Sum.inl s) = some (.ref l') → valV ls (Sum.inl s') = some (.ref l') → s = s', ?_, ?_, ?_, ?_⟩
  · have oo : upd H6 t.d (.frz od (.dK t.kvs)) t.a = _ := (upd_ne nad).trans o6
    wtm_at "xs"
    exact hR
  · exact fun D hD => ⟨[], Xk.same_fr hD, upd_same, rfl, fun s w e => (by cases e), fun s s' l' e => (by cases e)⟩
  · rintro D i H' hD ⟨ls, s, _⟩
    refine s _ _ ?_
    rw [hH0]
    exact upd_same
  · rintro D hD i k v H' H1 T hi ⟨ls, s0, hls, hk, hv, hj⟩ hT s1 hT1
    have hm := List.mem_of_getElem? hi
    have hil := Xk.at_lt hi
    obtain ⟨sv, ek, _⟩ := sd6.ks _ hm
    have ek : k = Sum.inl sv := ek
    subst ek
    have hval : valV t.kvs (Sum.inl sv) = some v := val_nodup sd6.nd _ hm
    have hkl := bb.kl
    have hll : ls.length ≤ 45 := by
      have z := congrArg List.length hk
      rw [List.length_map, List.length_map, List.length_take] at z
      have := bb.l
      omega
    have hnn : valV ls (Sum.inl sv) = none := by
      cases e : valV ls (Sum.inl sv) with
      | none => rfl
      | some w =>
        have z := valV_in e
        rw [hk] at z
        exact absurd z (take_nd sd6.nd hi)
    rcases sd6.at_ sv with ⟨x1, _⟩ | ⟨l, ps, x1, _, x3, _, x5⟩
    · rw [x1] at hval
      cases hval
    rw [x1] at hval
    cases hval
    have hpl : ps.length ≤ 45 := by
      have z := congrArg List.length x5
      rw [List.length_map, List.length_map] at z
      rw [z]
      exact bb.sgl
    have nld := g6.rd.2.2 sv l x1
    have hl0 : H0 l = some (.lst (ps.map fun v => V.ref v.a)) := by
      rw [hH0]
      exact (upd_ne nld).trans x3
    have hl1' := (s0.trans s1) _ _ hl0
    have hT2 : H1 T = some (.tup [.int sv, .ref l]) := hT1
    have hTt := Xk.st_of (K := K) hT2
    have hls1 := s1 _ _ hls
    wtm_at "xs"
    refine ⟨rfl, ?_⟩
    wtm_at "xs"
    intro l' H2 hl' s2 h2'
    have hls2 := s2 _ _ hls1
    have f0 : Xk.Fr l' H0 := Xk.free_back hl' (s0.trans s1)
    have nlD : l' ≠ D := (Xk.ne_new hl' hls1).symm
    refine ⟨ls, Sum.inl sv, rfl, hls2, Xk.size_lt (by omega), putK ls (Sum.inl sv) (.ref l'), Xk.same_mut (s0.trans (s1.trans s2)) hD, upd_same, ?_, fun n w e => ?_, fun n n' m e e' => ?_⟩
    · rw [putK_new _ hnn, List.map_append, hk, List.take_add_one, hi, List.map_append]
      rfl
    · rw [valV_put] at e
      split at e
      · rename_i en
        cases e
        cases en
        exact ⟨l, l', _, rfl, x1, hl0, (upd_ne nlD).trans h2', f0, nlD⟩
      · obtain ⟨l0, l1', ys, e0, e1, e2, e3, e4, e5⟩ := hv n w e
        exact ⟨l0, l1', ys, e0, e1, e2, (upd_ne e5).trans ((s1.trans s2) _ _ e3), e4, e5⟩
    · have old : ∀ n, valV ls (Sum.inl n) = some (.ref m) → m ≠ l' := fun n e => by
        obtain ⟨l0, l1', ys, e0, e1, e2, e3, e4, e5⟩ := hv n _ e
        cases e0
        exact Xk.ne_new hl' (s1 _ _ e3)
      rw [valV_put] at e e'
      split at e
      · rename_i en
        split at e'
        · rename_i en'
          cases en
          cases en'
          rfl
        · cases e
          exact absurd rfl (old _ e')
      · split at e'
        · cases e'
          exact absurd rfl (old _ e)
        · exact hj _ _ _ e e'
  · rintro D H' hD ⟨ls, s0, hls, hk, hv, hj⟩
    rw [List.take_length] at hk
    have nDd : D ≠ t.d := (Xk.ne_new hD (show H0 t.d = _ by rw [hH0]; exact upd_same)).symm
    have sF : Same H6 (upd H' t.d (.dK t.kvs)) := fun c o e => by
      by_cases z : c = t.d
      · rw [z, upd_same, ← e, z]
        exact sd6.hd.symm
      · refine (upd_ne z).trans (s0 _ _ ?_)
        rw [hH0]
        exact (upd_ne z).trans e
    have hDF : upd H' t.d (.dK t.kvs) D = some (.dK ls) := (upd_ne nDd).trans hls
    have hxF := sF _ _ h6x
    have al0 : ∀ c o, H6 c = some o → H0 c ≠ none := fun c o e => by
      by_cases z : c = t.d
      · rw [hH0, z, upd_same]
        exact fun z => by cases z
      · rw [hH0, upd_ne z, e]
        exact fun z => by cases z
    have fr6 : ∀ c, Xk.Fr c H0 → Xk.Fr c H := fun c h => by
      rw [hH0] at h
      exact Xk.free_back (Xk.fr_upd h) s06
    have nof : ∀ c o l', H6 c = some o → Xk.Fr l' H0 → l' ≠ c := fun c o l' e h z => al0 c o e (by rw [← z]; exact h.is)
    wtm_at "xs"
    have sZ : Same H (upd (upd H' t.d (.dK t.kvs)) x (.ins T.C_Tally fx (putF "_by_slot" (V.ref D) [("first_members", .ref t.f), ("row", .ref l1), ("votes", .ref l2), ("_by_slot", .ref p3)]))) := Xk.same_mut (s06.trans sF) hx
    have hZx : upd (upd H' t.d (.dK t.kvs)) x (.ins T.C_Tally fx (putF "_by_slot" (V.ref D) [("first_members", .ref t.f), ("row", .ref l1), ("votes", .ref l2), ("_by_slot", .ref p3)])) x = some (.ins T.C_Tally fx [("first_members", .ref t.f), ("row", .ref l1), ("votes", .ref l2), ("_by_slot", .ref D)]) := by
      rw [upd_same]
      rfl
    have nxD : D ≠ x := nof _ _ _ h6x hD
    refine q _ ⟨x, fx, t.f, l1, l2, D, t.xs, t.ks, t.us, t.ws, ls, none⟩ sZ ⟨hZx, (upd_ne nx1.symm).trans (sF _ _ h6l), g.rk.same sZ, (upd_ne nx2.symm).trans (sF _ _ h6m), fun u hu => (g.vs u hu).same sZ, ⟨(upd_ne nxD).trans hDF, ⟨rfl⟩, ?_, fun p hp => ?_, fun n => ?_, hj⟩, n12, fun n l e => ?_⟩ ⟨rfl, bb.e, bb.g, bb.l, bb.k, bb.gk, bb.fm, ?_⟩ rfl rfl rfl fun c hc m => ?_
    · show (ls.map (·.1)).Nodup
      rw [hk]
      exact sd6.nd
    · have z : p.1 ∈ ls.map (·.1) := List.mem_map_of_mem hp
      rw [hk] at z
      obtain ⟨p', h1, h2⟩ := List.mem_map.mp z
      obtain ⟨n, g1, g2⟩ := sd6.ks p' h1
      exact ⟨n, h2.symm.trans g1, g2⟩
    · show (valV ls (Sum.inl n) = none ∧ _) ∨ _
      cases e : valV ls (Sum.inl n) with
      | none =>
        rcases sd6.at_ n with ⟨_, g2⟩ | ⟨l, ps, g1, _⟩
        · exact .inl ⟨rfl, g2⟩
        · have z := valV_in g1
          rw [← hk] at z
          exact absurd z (valV_not e)
      | some w =>
        obtain ⟨l, l', ys, rfl, e1, e2, e3, e4, e5⟩ := hv n w e
        rcases sd6.at_ n with ⟨g1, _⟩ | ⟨l0, ps, g1, _, g3, g4, g5⟩
        · rw [g1] at e1
          cases e1
        · rw [g1] at e1
          cases e1
          have hl0 : H0 l = some (.lst (ps.map fun v => V.ref v.a)) := by
            rw [hH0]
            exact (upd_ne (g6.rd.2.2 n l g1)).trans g3
          rw [hl0] at e2
          cases e2
          have nl1 : l' ≠ t.d := nof _ _ _ sd6.hd e4
          have nl2 : l' ≠ x := nof _ _ _ h6x e4
          exact .inr ⟨l', ps, rfl, ⟨rfl⟩, (upd_ne nl2).trans ((upd_ne nl1).trans e3), fun p hp => ((g4 p hp).same sF).tu (tu_but hxF (fun _ z => by cases z) (fun _ _ z => by cases z) (Xk.but_mut (Xk.But.refl _ _))), g5⟩
    · obtain ⟨l0, l', ys, e0, e1, e2, e3, e4, e5⟩ := hv n _ e
      cases e0
      exact ⟨nof _ _ _ h6l e4, nof _ _ _ h6m e4⟩
    · show ls.length ≤ t.us.length
      have z := congrArg List.length hk
      rw [List.length_map, List.length_map] at z
      rw [z]
      exact bb.kl
    · rcases m with rfl | rfl | rfl | ⟨n, e⟩
      · exact hc f1.is
      · exact hc f2.is
      · exact hc (fr6 _ hD).is
      · obtain ⟨l0, l', ys, e0, e1, e2, e3, e4, e5⟩ := hv n _ e
        cases e0
        exact hc (fr6 _ e4).is
--CUT--
def sp__law_entry (K : PySem.W.Frag) : Sp := fun vs H Q _ => ∃ (b l : Addr) (s n t x : Int), vs = [.ref b, .int s, .ref l] ∧ H b = some (.lst [.int n]) ∧ SqT K H l [.int t, .int x] ∧
  ∀ H' v k (m : Int), Xk.But b H H' → H' b = some (.lst [.int m]) → Xk.Pk K H' 4 v (ent k) → Gk k → Q v H'
theorem ok__law_entry (T : Txt K mg) : FnOk P w K mg base CX0 2 T.f__law_entry T.d__law_entry ["box", "slot", "ballot"] (sp__law_entry K) := by
  refine T.F__law_entry.ok sc__law_entry (fun vs H Q E h => ?_) (fun cdv A outer s H vs Q E hr h => ?_)
  · obtain ⟨b, l, s, n, t, x, rfl, _⟩ := h
    rfl
  obtain ⟨b, l, s, n, t, x, rfl, hb, hl, q⟩ := h
  refine ⟨_, (Evl.pss_cut (ps_if (pt_cmpR op_eq (pe_call (ok__law_take T) (hr.mono (by decide)) (by rfl) T.g__law_take T.F__law_take.kp T.b__law_take .nil pass0 (pa_cons (pv 0) (pa_cons (pe_int) pa_nil))) (pe_int) (nomark _)) (pss_one (ps_ret (pe_tup (pa_cons (pe_str) (pa_cons (pe_tup (pa_cons (pe_tup (pa_cons (pe_str) (pa_cons (pv 1) pa_nil))) pa_nil)) pa_nil))))) pss_nil)
      (Evl.pss_cut (ps_if (pt_cmpR op_eq (pe_op op_mod (pe_op op_add (pv 1) (pe_ix (Xk.k_ixT (K := K) (by rfl)) (pv 2) (pe_int) (fun _ _ => rfl))) (pe_int)) (pe_int) (nomark _)) (pss_one (ps_ret (pe_tup (pa_cons (pe_str) (pa_cons (pe_ix (Xk.k_ixL (K := K) (by rfl)) (pe_lst (pa_cons (pe_tup (pa_cons (pe_int) pa_nil)) (pa_cons (pe_tup (pa_cons (pe_int) (pa_cons (pe_int) pa_nil))) (pa_cons (pe_tup (pa_cons (pe_int) (pa_cons (pe_int) (pa_cons (pe_int) pa_nil)))) pa_nil)))) (pe_op op_mod (pe_ix (Xk.k_ixT (K := K) (by rfl)) (pv 2) (pe_int) (fun _ _ => rfl)) (pe_int)) (fun _ _ => rfl)) pa_nil))))) pss_nil)
      (pss_one (ps_ret (pe_tup (pa_cons (pe_str) (pa_cons (pe_tup (pa_cons (pe_tup (pa_cons (pe_str) (pa_cons (pv 1) (pa_cons (pe_ix (Xk.k_ixT (K := K) (by rfl)) (pv 2) (pe_int) (fun _ _ => rfl)) pa_nil)))) pa_nil)) pa_nil))))))), ?_⟩
  wtm_at "x0"
  wtm_at "xs"
  refine Xk.x_cut (fun σ' H' => σ' = [some (.ref b), some (.int s), some (.ref l)] ∧ Xk.But b H H' ∧ Tu K H H' ∧ ∃ k : Int, H' b = some (.lst [.int k])) ?_ ?_
  · wtm_at "xs"
    refine ⟨b, 9, n, rfl, hb, by decide, by decide, fun e1 e2 => ?_⟩
    have b1 : Xk.But b H (upd H b (.lst [.int (n / 9)])) := Xk.but_mut (Xk.But.refl _ _)
    have t1 : Tu K H (upd H b (.lst [.int (n / 9)])) := tu_mutL hb
    have h1 : upd H b (.lst [.int (n / 9)]) b = some (.lst [.int (n / 9)]) := upd_same
    generalize upd H b (.lst [.int (n / 9)]) = H1 at *
    wtm_at "xs"
    refine Xk.x_itd (fun c => ?_) (fun c => ?_)
    · wtm_at "xs"
      intro t1 H3 ht1 s3 h3
      wtm_at "xs"
      intro t2 H4 ht2 s4 h4
      wtm_at "xs"
      intro t3 H5 ht3 s5 h5
      have z3 := (s4.trans s5) _ _ h3
      have z4 := s5 _ _ h4
      wtm_at "xs"
      refine q _ _ (.oth s) _ (Xk.but_trans b1 (Xk.but_same (s3.trans (s4.trans s5)))) ((s3.trans (s4.trans s5)) _ _ h1) ?_ fun l e => by cases e
      exact Xk.pk_tup2 (n := 3) (Xk.st_of h5) Xk.pk_str (Xk.pk_tup1 (n := 2) (Xk.st_of z4) (Xk.pk_tup2 (n := 1) (Xk.st_of z3) Xk.pk_str Xk.pk_int))
    · wtm_at "xs"
      exact ⟨rfl, b1, t1, _, h1⟩
  rintro σ' H1 ⟨rfl, b1, t1, n1, h1⟩
  have hl1 := t1.st.t _ _ hl
  wtm_at "xs"
  refine Xk.x_cut (fun σ' H' => σ' = [some (.ref b), some (.int s), some (.ref l)] ∧ H' = H1) ?_ ?_
  · wtm_at "xs"
    refine Xk.x_itd (fun c => ?_) (fun c => ?_)
    · wtm_at "xs"
      intro p1 H2 hp1 s2 h2
      wtm_at "xs"
      intro p2 H3 hp2 s3 h3
      wtm_at "xs"
      intro p3 H4 hp3 s4 h4
      wtm_at "xs"
      intro p4 H5 hp4 s5 h5
      have z2 := (s3.trans (s4.trans s5)) _ _ h2
      have z3 := (s4.trans s5) _ _ h3
      have z4 := s5 _ _ h4
      have hl5 := Xk.st_same hl1 (s2.trans (s3.trans (s4.trans s5)))
      have s15 := s2.trans (s3.trans (s4.trans s5))
      wtm_at "xs"
      have e3 : 0 ≤ x % 3 := Int.emod_nonneg _ (by decide)
      have e4 : x % 3 < 3 := Int.emod_lt_of_pos _ (by decide)
      obtain ⟨j, hj⟩ := Int.eq_ofNat_of_zero_le e3
      obtain ⟨y, hy⟩ := Xk.lt_at (xs := [V.ref p1, V.ref p2, V.ref p3]) (j := j) (by simp only [List.length_cons, List.length_nil]; omega)
      have pk : ∃ (c : Addr) (l : List Int), y = .ref c ∧ H5 c = some (.tup (l.map V.int)) ∧ Gm l := by
        have j3 : j < 3 := by omega
        rcases j with _ | _ | _ | j
        · cases hy
          exact ⟨p1, [0], rfl, z2, by decide, by decide, by decide⟩
        · cases hy
          exact ⟨p2, [1, 2], rfl, z3, by decide, by decide, by decide⟩
        · cases hy
          exact ⟨p3, [0, 1, 3], rfl, z4, by decide, by decide, by decide⟩
        · omega
      obtain ⟨c2, ll, rfl, hc2, hgl⟩ := pk
      refine Xk.x_ixL (Xk.sq_of h5) (Xk.at_nat hj hy) ?_
      wtm_at "xs"
      intro p6 H6 hp6 s6 h6
      wtm_at "xs"
      refine q _ _ (.mem ll) _ (Xk.but_trans b1 (Xk.but_same (s15.trans s6))) ((s15.trans s6) _ _ h1) ?_ fun l e => ?_
      · exact Xk.pk_tup2 (n := 3) (Xk.st_of h6) Xk.pk_str (Xk.pk_tup (n := 2) (Xk.st_of (s6 _ _ hc2)) (Xk.pk_ints ll))
      · cases e
        exact hgl
    · wtm_at "xs"
      exact ⟨rfl, rfl⟩
  rintro σ' H2 ⟨rfl, rfl⟩
  wtm_at "xs"
  intro t1 H3 ht1 s3 h3
  wtm_at "xs"
  intro t2 H4 ht2 s4 h4
  wtm_at "xs"
  intro t3 H5 ht3 s5 h5
  have z3 := (s4.trans s5) _ _ h3
  have z4 := s5 _ _ h4
  wtm_at "xs"
  refine q _ _ (.wt s t) _ (Xk.but_trans b1 (Xk.but_same (s3.trans (s4.trans s5)))) ((s3.trans (s4.trans s5)) _ _ h1) ?_ fun l e => by cases e
  exact Xk.pk_tup2 (n := 3) (Xk.st_of h5) Xk.pk_str (Xk.pk_tup1 (n := 2) (Xk.st_of z4) (Xk.pk_tup3 (n := 1) (Xk.st_of z3) Xk.pk_str Xk.pk_int Xk.pk_int))
def sp__law_members_at (K : PySem.W.Frag) : Sp := fun vs H Q _ => ∃ (f r : Addr) (fm : List Int) (xs : List V) (ks : List En) (s : Int), vs = [.ref f, .ref r, .int s] ∧ SqT K H f (fm.map V.int) ∧ SqL K H r xs ∧ Xk.PkAll K H 4 xs (ks.map ent) ∧ 1 ≤ s ∧ s ≤ 1000 ∧ ks.length ≤ 100 ∧
  ∀ H' p, Same H H' → SqT K H' p ((memAt fm (ks.take (s - 1).toNat)).map V.int) → Q (.ref p) H'
theorem ok__law_members_at (T : Txt K mg) : FnOk P w K mg base CX0 1 T.f__law_members_at T.d__law_members_at ["first", "row", "slot"] (sp__law_members_at K) := by
  refine T.F__law_members_at.ok sc__law_members_at (fun vs H Q E h => ?_) (fun cdv A outer s H vs Q E hr h => ?_)
  · obtain ⟨f, r, fm, xs, ks, s, rfl, _⟩ := h
    rfl
  obtain ⟨f, r, fm, xs, ks, s, rfl, hf, hr1, hpk, hs1, hs2, hkl, q⟩ := h
  refine ⟨_, (pss_cons (ps_set (i := 3) sc__law_members_at.nd rfl (Or.inl rfl) (pv 0))
      (pss_cons (ps_for PassesOwn.never rfl (pi_list (pe_slice (Xk.k_slL (K := K) (by rfl)) (pv 1) po_none (po_some (pe_op op_sub (pv 2) (pe_int))))) (pg_name (i := 4) sc__law_members_at.nd rfl (Or.inl rfl)) (pss_one (ps_if (pt_cmpR op_eq (pe_ix (Xk.k_ixT (K := K) (by rfl)) (pv 4) (pe_int) (fun _ _ => rfl)) (pe_str) (nomark _)) (pss_one (ps_set (i := 3) sc__law_members_at.nd rfl (Or.inl rfl) (pe_ix (Xk.k_ixT (K := K) (by rfl)) (pv 4) (pe_int) (fun _ _ => rfl)))) pss_nil)))
      (pss_one (ps_ret (pv 3))))), ?_⟩
  have hxl := PkAll_len hpk
  wtm_at "x0"
  wtm_at "xs"
  intro R H1 hR s1 h1
  rw [Xk.cut_take (k := s - 1) (n := (s - 1).toNat) (by omega)] at h1
  have hpk1 := (hpk.same s1).take (s - 1).toNat
  rw [← List.map_take] at hpk1
  generalize xs.take (s - 1).toNat = ys at *
  generalize ks.take (s - 1).toNat = js at *
  have hf1 := Xk.st_same hf s1
  have hyl := PkAll_len hpk1
  wtm_at "xs"
  refine Xk.x_forL (xs := ys) (fun i σ' H' => ∃ (y4 : Option V) (M : Addr), σ' = [some (.ref f), some (.ref r), some (.int s), some (.ref M), y4] ∧ H' = H1 ∧ SqT K H1 M ((memAt fm (js.take i)).map V.int)) (Xk.sq_of h1)
    ⟨_, f, rfl, rfl, hf1⟩ (fun i σ' H' _ ⟨_, _, _, e, _⟩ => by rw [e]; exact Xk.sq_of h1) ?_ ?_
  · rintro i x σ' H2 hi ⟨y4, M, rfl, rfl, hM⟩
    have hil := Xk.at_lt hi
    obtain ⟨d, hd, hpd⟩ := hpk1.at hi
    rw [List.getElem?_map] at hd
    obtain ⟨k, hk, rfl⟩ : ∃ k, js[i]? = some k ∧ ent k = d := by
      cases hj : js[i]? with
      | none => rw [hj] at hd; cases hd
      | some k =>
        rw [hj] at hd
        exact ⟨k, rfl, Option.some.inj hd⟩
    obtain ⟨ea, ex, ey, rfl, hse, hes⟩ := ent_at hpd
    have etk : js.take (i + 1) = js.take i ++ [k] := by
      rw [List.take_add_one, hk]
      rfl
    wtm_at "xs"
    rcases hes with ⟨l, b, hk, rfl, rfl, hl⟩ | ⟨hk, rfl⟩
    · wtm_at "xs"
      refine ⟨_, b, rfl, rfl, ?_⟩
      rw [etk, memAt_snoc, hk]
      exact hl
    · wtm_at "xs"
      refine ⟨_, M, rfl, rfl, ?_⟩
      rw [etk, memAt_snoc]
      cases k with
      | mem l => exact absurd rfl (hk l)
      | _ => exact hM
  · rintro σ' H2 ⟨y4, M, rfl, rfl, hM⟩
    rw [hyl, List.take_length] at hM
    wtm_at "xs"
    exact q H2 M s1 hM
--CUT--
theorem d4_eqv {m s t x : Int} {u : Int × Vt} {k : En} : PyData.eqv (d4 u) (.tuple [.int s, .int m, .tuple [.int t, .int x], ent k]) = decide (u.1 = s ∧ u.2.ix = m ∧ bp u.2 = (t, x) ∧ u.2.k = k) := by
  unfold d4 bd
  rw [Bool.eq_iff_iff]
  simp only [PyData.eqv, PyData.eqvAll, ent_eqv trivial trivial, Bool.and_eq_true, beq_iff_eq, decide_eq_true_eq, Bool.and_true]
  unfold bp
  simp only [Prod.mk.injEq]
theorem d4_in {m s t x : Int} {k : En} : ∀ us : List (Int × Vt), Xk.inD (.tuple [.int s, .int m, .tuple [.int t, .int x], ent k]) (us.map d4) = us.any fun u => decide (u.1 = s ∧ u.2.ix = m ∧ bp u.2 = (t, x) ∧ u.2.k = k)
  | [] => rfl
  | u :: r => by
    have ih := d4_in (m := m) (s := s) (t := t) (x := x) (k := k) r
    unfold Xk.inD at ih ⊢
    rw [List.map_cons, List.any_cons, List.any_cons, ih, d4_eqv]
/-- who voted so -/
def wv (ms : List Int) (us : List (Int × Vt)) (s : Int) (B : Int × Int) (k : En) : List Int := ms.filter fun m => us.any fun u => decide (u.1 = s ∧ u.2.ix = m ∧ bp u.2 = B ∧ u.2.k = k)
theorem wv_vot {ms : List Int} {us : List (Int × Vt)} {v : Int × Vt} {s : Int} (hs : ∀ u ∈ us, u.1 = s) : wv ms us s (bp v.2) v.2.k = vot ms (us.map (·.2)) v.2 := by
  unfold wv vot
  congr 1
  funext m
  rw [Bool.eq_iff_iff, List.any_eq_true, List.any_eq_true]
  unfold alk bp
  constructor
  · rintro ⟨u, h1, h2⟩
    simp only [Prod.mk.injEq, decide_eq_true_eq] at h2
    exact ⟨u.2, List.mem_map_of_mem h1, by simp [h2.2.1, h2.2.2.1.1, h2.2.2.1.2, h2.2.2.2]⟩
  · rintro ⟨w, h1, h2⟩
    obtain ⟨u, h3, rfl⟩ := List.mem_map.mp h1
    simp only [Bool.and_eq_true, decide_eq_true_eq] at h2
    exact ⟨u, h3, decide_eq_true ⟨hs u h3, h2.1, by rw [h2.2.1, h2.2.2.1], h2.2.2.2⟩⟩
theorem x_eqP {H : Hp} {Q : VK} {a c : Addr} {t x t' x' : Int} (h : H a = some (.tup [.int t, .int x])) (h' : H c = some (.tup [.int t', .int x'])) (q : Q (.bl (decide ((t, x) = (t', x')))) H) : rEqD K (.ref a) (.ref c) H Q := by
  have k1 : Xk.Pk K H 2 (.ref a) (.tuple [.int t, .int x]) := Xk.pk_tup2 (n := 1) (Xk.st_of h) Xk.pk_int Xk.pk_int
  have k2 : Xk.Pk K H 2 (.ref c) (.tuple [.int t', .int x']) := Xk.pk_tup2 (n := 1) (Xk.st_of h') Xk.pk_int Xk.pk_int
  refine ⟨_, _, k1.1, k2.1, Xk.shaped_of k1.lay (Nat.le_trans k1.2.2 (by decide)), Xk.shaped_of k2.lay (Nat.le_trans k2.2.2 (by decide)), ?_⟩
  have e : PyData.eqv (.tuple [.int t, .int x]) (.tuple [.int t', .int x']) = decide ((t, x) = (t', x')) := by
    rw [Bool.eq_iff_iff]
    simp [PyData.eqv, PyData.eqvAll]
  rw [e]
  exact q
def sp__law_choice (K : PySem.W.Frag) : Sp := fun vs' H Q _ => ∃ (m p : Addr) (ms : List Int) (us : List (Int × Vt)) (s : Int), vs' = [.ref m, .ref p] ∧ SqT K H m (ms.map V.int) ∧ ms.length ≤ 10 ∧ SqL K H p (us.map fun u => V.ref u.2.a) ∧ (∀ u ∈ us, V4At K H u) ∧ us.length ≤ 60 ∧ (∀ u ∈ us, u.1 = s) ∧ (∀ u ∈ us, 1 ≤ u.2.t ∧ u.2.t ≤ 2 ∧ 0 ≤ u.2.x ∧ u.2.x ≤ 1) ∧
  ∀ H' y, Same H H' → ((y = .non ∧ ∀ v ∈ us.map (·.2), hit ms (us.map (·.2)) v = false) ∨ ∃ k, Xk.Pk K H' 4 y (ent k) ∧ Fi ms (us.map (·.2)) k) → Q y H'
theorem ok__law_choice (T : Txt K mg) : FnOk P w K mg base CX0 1 T.f__law_choice T.d__law_choice ["members", "votes"] (sp__law_choice K) := by
  refine T.F__law_choice.ok sc__law_choice (fun vs H Q E h => ?_) (fun cdv A outer s H vs Q E hr h => ?_)
  · obtain ⟨m, p, ms, us, s, rfl, _⟩ := h
    rfl
  obtain ⟨m, p, ms, us, s, rfl, hm, hml, hp, hu, hul, hs, hb, q⟩ := h
  refine ⟨_, (pss_cons (ps_for PassesOwn.never rfl (pi_range2 (by rfl) T.m_range (pa_cons (pe_int) (pa_cons (pe_int) pa_nil))) (pg_name (i := 2) sc__law_choice.nd rfl (Or.inr rfl)) (pss_one (ps_for PassesOwn.never rfl (pi_range1 (by rfl) T.m_range (pa_cons (pe_int) pa_nil)) (pg_name (i := 3) sc__law_choice.nd rfl (Or.inr rfl)) (pss_one (ps_for PassesOwn.never rfl (pi_list (pv 1)) (pg_name (i := 4) sc__law_choice.nd rfl (Or.inr rfl)) (pss_cons (ps_setLc (i := 5) (own := [("member", 6)]) (g := gName 6) rfl sc__law_choice.nd rfl rfl (sw_true rfl rfl rfl (by decide +kernel)) (pi_tup (pv 0)) (blkOk_by (N := N__law_choice) (sc := defScope s__law_choice) (own := [("member", 6)]) (by decide +kernel)) (fun _ _ _ _ _ => pg_name (i := 6) sc__law_choice.nd rfl (Or.inl rfl)) (fun _ _ _ _ _ => pts_one (pt_cmpR (Xk.k_inD (K := K) (Xk.u65 hr) (by rfl)) (pe_tup (pa_cons (pe_ix (Xk.k_ixT (K := K) (by rfl)) (pv 4) (pe_int) (fun _ _ => rfl)) (pa_cons (pv 6) (pa_cons (pe_tup (pa_cons (pv 2) (pa_cons (pv 3) pa_nil))) (pa_cons (pe_ix (Xk.k_ixT (K := K) (by rfl)) (pv 4) (pe_int) (fun _ _ => rfl)) pa_nil))))) (pv 1) (by rfl))) (fun _ _ _ _ _ => (pv 6)))
      (pss_one (ps_if (PW.pt (pw_and (pt_cmpR (Xk.k_eqD (K := K) hr.units (by rfl)) (pe_ix (Xk.k_ixT (K := K) (by rfl)) (pv 4) (pe_int) (fun _ _ => rfl)) (pe_tup (pa_cons (pv 2) (pa_cons (pv 3) pa_nil))) (nomark _)) (pw_and (pt_cmpR (Xk.k_in (K := K) (by rfl)) (pe_ix (Xk.k_ixT (K := K) (by rfl)) (pv 4) (pe_int) (fun _ _ => rfl)) (pv 0) (by rfl)) (pw_and1 (pt_cmpR op_gt (pe_op op_mul (pe_int) (pe_callB (Xk.k_len (K := K) (by rfl)) (by rfl) T.m_len PySem.boot_len (pa_cons (pv 5) pa_nil))) (pe_callB (Xk.k_len (K := K) (by rfl)) (by rfl) T.m_len PySem.boot_len (pa_cons (pv 0) pa_nil)) (nomark _)))))) (pss_one (ps_ret (pe_ix (Xk.k_ixT (K := K) (by rfl)) (pv 4) (pe_int) (fun _ _ => rfl)))) pss_nil))))))))
      (pss_one (ps_ret (pe_non)))), ?_⟩
  wtm_at "x0"
  wtm_at "xs"
  refine Xk.x_range2 (lo := 1) (hi := 3) (fun i σ' H' => ∃ (y2 y3 y4 y5 : Option V), σ' = [some (.ref m), some (.ref p), y2, y3, y4, y5, none] ∧ Same H H' ∧ ∀ u ∈ us, u.2.t < 1 + (i : Int) → hit ms (us.map (·.2)) u.2 = false) (by decide)
    ⟨_, _, _, _, rfl, fun _ _ e => e, fun u hu' h => absurd h (by have := (hb u hu').1; omega)⟩ ?_ ?_
  · rintro i σ' H1 hi ⟨y2, y3, y4, y5, rfl, s1, hno1⟩
    wtm_at "xs"
    refine Xk.x_range (m := 2) (fun j σ' H' => ∃ (y3 y4 y5 : Option V), σ' = [some (.ref m), some (.ref p), some (.int (1 + (i : Int))), y3, y4, y5, none] ∧ Same H H' ∧ ∀ u ∈ us, u.2.t = 1 + (i : Int) → u.2.x < (j : Int) → hit ms (us.map (·.2)) u.2 = false) (by decide)
      ⟨_, _, _, rfl, s1, fun u hu' _ h => absurd h (by have := (hb u hu').2.2.1; omega)⟩ ?_ ?_
    · rintro j σ' H2 hj ⟨y3, y4, y5, rfl, s2, hno2⟩
      wtm_at "xs"
      refine Xk.x_forL (xs := us.map fun u => V.ref u.2.a) (fun n σ' H' => ∃ (y4 y5 : Option V), σ' = [some (.ref m), some (.ref p), some (.int (1 + (i : Int))), some (.int (j : Int)), y4, y5, none] ∧ Same H H' ∧ ∀ u ∈ us.take n, bp u.2 = (1 + (i : Int), (j : Int)) → hit ms (us.map (·.2)) u.2 = false) (Xk.sq_same hp s2)
        ⟨_, _, rfl, s2, fun u hu' => (by cases hu')⟩ (fun n σ' H' _ ⟨_, _, _, s, _⟩ => Xk.sq_same hp s) ?_ ?_
      · rintro n a σ' H3 hn ⟨y4, y5, rfl, s3, hno3⟩
        obtain ⟨v, hvn, rfl⟩ := Xk.of_map_at hn
        have hvm := List.mem_of_getElem? hvn
        have hva3 := (hu v hvm).same s3
        have hm3 := Xk.st_same hm s3
        wtm_at "xs"
        refine Xk.x_lcT (xs := ms.map V.int) (fun Dl a H' => Same H3 H' ∧ H' Dl = some (.lst ((wv (ms.take a) us s (1 + (i : Int), (j : Int)) v.2.k).map V.int))) hm3 ?_ ?_ ?_ ?_
        · exact fun Dl hD => ⟨Xk.same_fr hD, upd_same⟩
        · exact fun Dl a H' hD ⟨s, _⟩ => Xk.st_same hm3 s
        · rintro Dl hD a x H4 hx ⟨s4, g4⟩
          obtain ⟨mm, hmm, rfl⟩ := Xk.of_map_at hx
          have hva4 := hva3.same s4
          have htp4 := hva4.tp
          have hal := Xk.at_lt hmm
          wtm_at "xs"
          refine ⟨rfl, ?_⟩
          wtm_at "xs"
          intro tq H5 htq s5 h5
          have hva5 := hva4.same s5
          have htp5 := hva5.tp
          wtm_at "xs"
          intro t2 H6 ht2 s6 h6
          have s46 := s4.trans (s5.trans s6)
          have hva6 := hva5.same s6
          have g6 := (s5.trans s6) _ _ g4
          have hvs6 : ∀ u ∈ us, V4At K H6 u := fun u h => (hu u h).same (s3.trans s46)
          wtm_at "xs"
          refine Xk.x_inPk (n := 5) (m := 5) (Xk.pk_tup (n := 4) (Xk.st_of h6) (Xk.pk_cons Xk.pk_int (Xk.pk_cons Xk.pk_int (Xk.pk_cons ((Xk.pk_tup2 (n := 1) (Xk.st_of (s6 _ _ h5)) Xk.pk_int Xk.pk_int).mono (by decide)) (Xk.pk_cons hva6.en Xk.pk_nil))))) (Xk.sq_same hp (s3.trans s46)) (pk_v4 us hvs6) ?_
          rw [d4_in, hs v hvm]
          have lsz : (wv (ms.take a) us s (1 + (i : Int), (j : Int)) v.2.k).length ≤ 10 := by
            unfold wv
            refine Nat.le_trans (List.length_filter_le ..) ?_
            rw [List.length_take]
            omega
          refine ⟨_, rfl, Xk.x_itb (fun c => ?_) (fun c => ?_)⟩
          · wtm_at "xs"
            refine ⟨_, g6, Xk.size_lt (by rw [List.length_map]; omega), Xk.same_mut s46 hD, ?_⟩
            unfold wv
            rw [upd_same, List.take_add_one, hmm, List.filter_append, Option.toList_some, List.filter_cons, if_pos c, List.map_append]
            rfl
          · refine ⟨s46, ?_⟩
            unfold wv at g6 ⊢
            rw [g6, List.take_add_one, hmm, List.filter_append, Option.toList_some, List.filter_cons, if_neg (by rw [c]; decide), List.filter_nil, List.append_nil]
        · rintro Dl H4 hD ⟨s4, g4⟩
          rw [List.length_map, List.take_length] at g4
          have s04 := s3.trans s4
          have hva4 := hva3.same s4
          have htp4 := hva4.tp
          have hm4 := Xk.st_same hm3 s4
          wtm_at "xs"
          intro tq H5 htq s5 h5
          have hva5 := hva4.same s5
          have htp5 := hva5.tp
          have hm5 := Xk.st_same hm4 s5
          have g5 := s5 _ _ g4
          have s05 := s04.trans s5
          have skip : (bp v.2 = (1 + (i : Int), (j : Int)) → hit ms (us.map (·.2)) v.2 = false) → ∀ u ∈ us.take (n + 1), bp u.2 = (1 + (i : Int), (j : Int)) → hit ms (us.map (·.2)) u.2 = false := fun h u hu' e => by
            rw [List.take_add_one, hvn] at hu'
            rcases List.mem_append.mp hu' with hu' | hu'
            · exact hno3 u hu' e
            · have ev := List.mem_singleton.mp hu'
              subst ev
              exact h e
          refine x_eqP hva5.bl h5 ?_
          refine ⟨_, rfl, Xk.x_itd (fun c1 => ?_) (fun c1 => ?_)⟩
          · have c1' : bp v.2 = (1 + (i : Int), (j : Int)) := c1
            wtm_at "xs"
            refine Xk.x_inT hm5 rfl (Xk.flat_ints _) ?_
            rw [Xk.in_ints]
            have eh : hit ms (us.map (·.2)) v.2 = (decide (v.2.ix ∈ ms) && decide (ms.length < 2 * (wv ms us s (1 + (i : Int), (j : Int)) v.2.k).length)) := by
              unfold hit
              rw [← wv_vot hs, c1']
            refine ⟨_, rfl, Xk.x_itd (fun c2 => ?_) (fun c2 => ?_)⟩
            · wtm_at "xs"
              rw [List.length_map, List.length_map]
              refine Xk.x_itd (fun c3 => ?_) (fun c3 => ?_)
              · wtm_at "xs"
                refine q H5 v.2.e s05 (.inr ⟨v.2.k, hva5.en, n, v.2, ⟨by rw [List.getElem?_map, hvn]; rfl, ?_, fun j' w hw hh => ?_⟩, rfl⟩)
                · rw [eh, decide_eq_true c2, decide_eq_true (show ms.length < 2 * (wv ms us s (1 + (i : Int), (j : Int)) v.2.k).length by omega)]
                  rfl
                · rw [List.getElem?_map] at hw
                  obtain ⟨u, hu1, rfl⟩ : ∃ u, us[j']? = some u ∧ u.2 = w := by
                    cases z : us[j']? with
                    | none => rw [z] at hw; cases hw
                    | some u =>
                      rw [z] at hw
                      exact ⟨u, rfl, Option.some.inj hw⟩
                  have hum := List.mem_of_getElem? hu1
                  have no1 : ¬ u.2.t < 1 + (i : Int) := fun z => Bool.noConfusion (hh.symm.trans (hno1 u hum z))
                  have no2 : u.2.t = 1 + (i : Int) → ¬ u.2.x < (j : Int) := fun z1 z2 => Bool.noConfusion (hh.symm.trans (hno2 u hum z1 z2))
                  have no3 : bp u.2 = (1 + (i : Int), (j : Int)) → ¬ j' < n := fun z1 z2 => Bool.noConfusion (hh.symm.trans (hno3 u (by rw [List.mem_iff_getElem?]; exact ⟨j', by rw [List.getElem?_take_of_lt z2]; exact hu1⟩) z1))
                  have e1 : v.2.t = 1 + (i : Int) := congrArg Prod.fst c1'
                  have e2 : v.2.x = (j : Int) := congrArg Prod.snd c1'
                  unfold blt
                  rw [e1, e2]
                  by_cases k1 : u.2.t < 1 + (i : Int)
                  · exact (no1 k1).elim
                  · by_cases k2 : u.2.t = 1 + (i : Int)
                    · by_cases k3 : u.2.x < (j : Int)
                      · exact (no2 k2 k3).elim
                      · by_cases k4 : u.2.x = (j : Int)
                        · have := no3 (by unfold bp; rw [k2, k4])
                          exact .inr ⟨k2.symm, k4.symm, by omega⟩
                        · exact .inl (.inr ⟨k2.symm, by omega⟩)
                    · exact .inl (.inl (by omega))
              · wtm_at "xs"
                refine ⟨_, _, rfl, s05, skip fun _ => ?_⟩
                rw [eh, decide_eq_false (show ¬ ms.length < 2 * (wv ms us s (1 + (i : Int), (j : Int)) v.2.k).length by omega), Bool.and_false]
            · wtm_at "xs"
              refine ⟨_, _, rfl, s05, skip fun _ => ?_⟩
              rw [eh, decide_eq_false c2]
              rfl
          · wtm_at "xs"
            exact ⟨_, _, rfl, s05, skip fun z => absurd z c1⟩
      · rintro σ' H3 ⟨y4, y5, rfl, s3, hno3⟩
        rw [List.length_map, List.take_length] at hno3
        wtm_at "xs"
        refine ⟨_, _, _, rfl, s3, fun u hu' h1 h2 => ?_⟩
        by_cases c : u.2.x < (j : Int)
        · exact hno2 u hu' h1 c
        · exact hno3 u hu' (by unfold bp; rw [h1, show u.2.x = (j : Int) by omega])
    · rintro σ' H2 ⟨y3, y4, y5, rfl, s2, hno2⟩
      wtm_at "xs"
      refine ⟨_, _, _, _, rfl, s2, fun u hu' h => ?_⟩
      by_cases c : u.2.t < 1 + (i : Int)
      · exact hno1 u hu' c
      · exact hno2 u hu' (by omega) (by have := (hb u hu').2.2.2; show u.2.x < 2; omega)
  · rintro σ' H1 ⟨y2, y3, y4, y5, rfl, s1, hno1⟩
    wtm_at "xs"
    refine q H1 _ s1 (.inl ⟨rfl, fun v hv => ?_⟩)
    obtain ⟨u, h1, rfl⟩ := List.mem_map.mp hv
    exact hno1 u h1 (by have := (hb u h1).2.1; show u.2.t < 1 + 2; omega)
--CUT--
def sp__law_added (K : PySem.W.Frag) : Sp := fun vs' H Q _ => ∃ (f r p : Addr) (fm : List Int) (xs : List V) (ks : List En) (us : List (Int × Vt)), vs' = [.ref f, .ref r, .ref p] ∧ SqT K H f (fm.map V.int) ∧ Gm fm ∧ H r = some (.lst xs) ∧ Xk.PkAll K H 4 xs (ks.map ent) ∧ ks.length ≤ 4 ∧ (∀ k ∈ ks, Gk k) ∧
  H p = some (.lst (us.map fun u => V.ref u.2.a)) ∧ (∀ u ∈ us, V4At K H u) ∧ us.length ≤ 45 ∧ (∀ u ∈ us, Gk u.2.k ∧ u.1 ≤ 4) ∧ (∀ u ∈ us, 1 ≤ u.2.t ∧ u.2.t ≤ 2 ∧ 0 ≤ u.2.x ∧ u.2.x ≤ 1) ∧
  ∀ H' d ys ds, Same H H' → Xk.Fr d H → H' d = some (.lst ys) → Xk.PkAll K H' 4 ys (ds.map ent) → Sg fm us ks ds → Dn fm us (ks ++ ds) → Q (.ref d) H'
theorem ok__law_added (T : Txt K mg) : FnOk P w K mg base CX0 2 T.f__law_added T.d__law_added ["first", "row", "votes"] (sp__law_added K) := by
  refine T.F__law_added.ok sc__law_added (fun vs H Q E h => ?_) (fun cdv A outer s H vs Q E hr h => ?_)
  · obtain ⟨f, r, p, fm, xs, ks, us, rfl, _⟩ := h
    rfl
  obtain ⟨f, r, p, fm, xs, ks, us, rfl, hf, hgm, hr1, hpk, hkl, hgk, hp, hu, hul, hug, hub, q⟩ := h
  refine ⟨_, (pss_cons (ps_set (i := 1) sc__law_added.nd rfl (Or.inl rfl) (pe_callTy (Xk.k_list (K := K) (by rfl)) (by rfl) T.m_list (by decide +kernel) (pa_cons (pv 1) pa_nil)))
      (pss_cons (ps_set (i := 3) sc__law_added.nd rfl (Or.inl rfl) (pe_lst pa_nil))
      (pss_cons (ps_for PassesOwn.never rfl (pi_range1 (by rfl) T.m_range (pa_cons (pe_int) pa_nil)) (pg_name (i := 4) sc__law_added.nd rfl (Or.inl rfl)) (pss_cons (ps_set (i := 5) sc__law_added.nd rfl (Or.inr rfl) (pe_op op_add (pe_callB (Xk.k_len (K := K) (by rfl)) (by rfl) T.m_len PySem.boot_len (pa_cons (pv 1) pa_nil)) (pe_int)))
      (pss_cons (ps_set (i := 6) sc__law_added.nd rfl (Or.inl rfl) (pe_call (ok__law_choice T) (hr.mono (by decide)) (by rfl) T.g__law_choice T.F__law_choice.kp T.b__law_choice .nil pass0 (pa_cons (pe_call (ok__law_members_at T) (hr.mono (by decide)) (by rfl) T.g__law_members_at T.F__law_members_at.kp T.b__law_members_at .nil pass0 (pa_cons (pv 0) (pa_cons (pv 1) (pa_cons (pv 5) pa_nil)))) (pa_cons (pe_lc (own := [("vote", 7)]) (g := gName 7) rfl sc__law_added.nd  (pi_list (pv 2)) (blkOk_by (N := N__law_added) (sc := defScope s__law_added) (own := [("vote", 7)]) (by decide +kernel)) (fun _ _ _ _ _ => pg_name (i := 7) sc__law_added.nd rfl (Or.inl rfl)) (fun _ _ _ _ _ => pts_one (pt_cmpR op_eq (pe_ix (Xk.k_ixT (K := K) (by rfl)) (pv 7) (pe_int) (fun _ _ => rfl)) (pv 5) (nomark _))) (fun _ _ _ _ _ => (pv 7))) pa_nil))))
      (pss_one (ps_if (PW.pt (pw_and (pt_cmpR Xk.op_nNotN (pv 6) (pe_non) (nomark _)) (pw_and1 (pt_cmpR op_eq (pe_callB (Xk.k_len (K := K) (by rfl)) (by rfl) T.m_len PySem.boot_len (pa_cons (pv 3) pa_nil)) (pv 4) (nomark _))))) (pss_cons (ps_expr (pe_bm PySem.F.plainAttrs_list PySem.F.slot_list_append PySem.F.type_list_append mt_append (pv 1) (pa_cons (pv 6) pa_nil)))
      (pss_one (ps_expr (pe_bm PySem.F.plainAttrs_list PySem.F.slot_list_append PySem.F.type_list_append mt_append (pv 3) (pa_cons (pv 6) pa_nil))))) pss_nil)))))
      (pss_one (ps_ret (pv 3)))))), ?_⟩
  wtm_at "x0"
  wtm_at "xs"
  intro R H1 hR s1 h1
  wtm_at "xs"
  intro F H2 hF s2 h2
  have fF : Xk.Fr F H := Xk.free_back hF s1
  have nRF : R ≠ F := Xk.ne_new hF h1
  have s02 := s1.trans s2
  have hR2 := s2 _ _ h1
  wtm_at "xs"
  refine Xk.x_range (m := 6) (fun i σ' H' => ∃ (y4 y5 y6 : Option V) (zs ys : List V) (ds : List En), σ' = [some (.ref f), some (.ref R), some (.ref p), some (.ref F), y4, y5, y6, none] ∧ Same H H' ∧ H' R = some (.lst zs) ∧ Xk.PkAll K H' 4 zs ((ks ++ ds).map ent) ∧ H' F = some (.lst ys) ∧ Xk.PkAll K H' 4 ys (ds.map ent) ∧ Sg fm us ks ds ∧ (ds.length = i ∨ Dn fm us (ks ++ ds))) (by decide)
    ⟨_, _, _, xs, [], [], rfl, s02, hR2, by rw [List.append_nil]; exact hpk.same s02, h2, Xk.pk_nil, .nil, .inl rfl⟩ ?_ ?_
  · clear hR2 h2 s02 s2 h1 s1
    rintro i σ' H3 hi ⟨y4, y5, y6, zs, ys, ds, rfl, s3, hR3, hz3, hF3, hy3, hsg, hor⟩
    have hf3 := Xk.st_same hf s3
    have hp3 := s3 _ _ hp
    have hle : (ks ++ ds).length ≤ 4 := by
      have z := hsg.le (n := 4) (fun u hu => (hug u hu).2) (by omega)
      omega
    have hzl := PkAll_len hz3
    have hyl := PkAll_len hy3
    have hgks : ∀ k ∈ ks ++ ds, Gk k := fun k hk => by
      rcases List.mem_append.mp hk with hk | hk
      · exact hgk k hk
      · exact hsg.gk (fun u hu => (hug u hu).1) k hk
    have hgM := memAt_gm hgm _ hgks
    wtm_at "xs"
    rw [hzl]
    refine ⟨f, R, fm, zs, ks ++ ds, _, rfl, hf3, Xk.sq_of hR3, hz3, by omega, by omega, by omega, fun H4 M s4 hM => ?_⟩
    rw [show (((ks ++ ds).length : Int) + 1 - 1).toNat = (ks ++ ds).length by omega, List.take_length] at hM
    have hp4 := s4 _ _ hp3
    have s04 := s3.trans s4
    wtm_at "xs"
    refine Xk.x_lcL (xs := us.map fun u => V.ref u.2.a) (fun Dl j H' => Same H4 H' ∧ H' Dl = some (.lst (((us.take j).filter fun u => decide (u.1 = ((ks ++ ds).length : Int) + 1)).map fun u => V.ref u.2.a))) (Xk.sq_of hp4) ?_ ?_ ?_ ?_
    · exact fun Dl hD => ⟨Xk.same_fr hD, upd_same⟩
    · exact fun Dl j H' hD ⟨s, _⟩ => Xk.sq_of (s _ _ hp4)
    · rintro Dl hD j a H5 hj ⟨s5, h5⟩
      obtain ⟨u, huj, rfl⟩ := Xk.of_map_at hj
      have hua := (hu u (List.mem_of_getElem? huj)).same (s04.trans s5)
      have htu := hua.tp
      have hjl := Xk.at_lt huj
      have lsz : ((us.take j).filter fun u => decide (u.1 = ((ks ++ ds).length : Int) + 1)).length ≤ 45 := by
        refine Nat.le_trans (List.length_filter_le ..) ?_
        rw [List.length_take]
        omega
      wtm_at "xs"
      refine ⟨rfl, ?_⟩
      wtm_at "xs"
      refine Xk.x_itd (fun c => ?_) (fun c => ?_)
      · have c' : u.1 = ((ks ++ ds).length : Int) + 1 := by injection c
        wtm_at "xs"
        refine ⟨_, h5, Xk.size_lt (by rw [List.length_map]; omega), Xk.same_mut s5 hD, ?_⟩
        rw [upd_same, List.take_add_one, huj, List.filter_append, Option.toList_some, List.filter_cons, if_pos (decide_eq_true c'), List.map_append]
        rfl
      · wtm_at "xs"
        refine ⟨s5, ?_⟩
        rw [h5, List.take_add_one, huj, List.filter_append, Option.toList_some, List.filter_cons, if_neg (fun z => c (by rw [of_decide_eq_true z])), List.filter_nil, List.append_nil]
    · rintro W H5 hW ⟨s5, h5⟩
      rw [List.length_map, List.take_length] at h5
      have hM5 := Xk.st_same hM s5
      have s05 := s04.trans s5
      have hwm : ∀ u, u ∈ (us.filter fun u => decide (u.1 = ((ks ++ ds).length : Int) + 1)) → u ∈ us ∧ u.1 = ((ks ++ ds).length : Int) + 1 := fun u hu => by
        obtain ⟨h1, h2⟩ := List.mem_filter.mp hu
        exact ⟨h1, of_decide_eq_true h2⟩
      have s35 := s4.trans s5
      have hR5 := s35 _ _ hR3
      have hF5 := s35 _ _ hF3
      wtm_at "xs"
      refine ⟨M, W, memAt fm (ks ++ ds), us.filter fun u => decide (u.1 = ((ks ++ ds).length : Int) + 1), ((ks ++ ds).length : Int) + 1, rfl, hM5, Nat.le_trans hgM.2.1 (by decide), Xk.sq_of h5, fun u h => (hu u (hwm u h).1).same s05, Nat.le_trans (List.length_filter_le ..) (by omega), fun u h => (hwm u h).2, fun u h => hub u (hwm u h).1, fun H6 y s6 hy => ?_⟩
      have e6 : (us.filter fun u => decide (u.1 = ((ks ++ ds).length : Int) + 1)).map (·.2) = sgr us (((ks ++ ds).length : Int) + 1) := rfl
      rw [e6] at hy
      have s06 := s05.trans s6
      have s36 := s35.trans s6
      have hR6 := s6 _ _ hR5
      have hF6 := s6 _ _ hF5
      have hz6 := hz3.same s36
      have hy6 := hy3.same s36
      wtm_at "xs"
      rcases hy with ⟨rfl, hno⟩ | ⟨k, hpe, hfi⟩
      · wtm_at "xs"
        exact ⟨_, _, _, zs, ys, ds, rfl, s06, hR6, hz6, hF6, hy6, hsg, .inr fun k z => nc_fi hno z⟩
      · obtain ⟨ea, ex, ey, rfl, hse, hes⟩ := ent_at hpe
        wtm_at "xs"
        refine Xk.x_itd (fun c => ?_) (fun c => ?_)
        · have c' : ds.length = i := by
            injection c with c
            omega
          have t7 : Tu K H6 (upd H6 R (.lst (zs ++ [V.ref ea]))) := tu_mutL hR6
          have hF7 : upd H6 R (.lst (zs ++ [V.ref ea])) F = some (.lst ys) := (upd_ne nRF.symm).trans hF6
          have hR7 : upd H6 R (.lst (zs ++ [V.ref ea])) R = some (.lst (zs ++ [V.ref ea])) := upd_same
          have s07 : Same H (upd H6 R (.lst (zs ++ [V.ref ea]))) := Xk.same_mut s06 hR
          have hz7 : Xk.PkAll K (upd H6 R (.lst (zs ++ [V.ref ea]))) 4 (zs ++ [V.ref ea]) ((ks ++ (ds ++ [k])).map ent) := by
            rw [← List.append_assoc, List.map_append]
            exact pk_snoc (hpe.st t7.st) (hz6.st t7.st)
          have hy7 := hy6.st t7.st
          have hpe7 := hpe.st t7.st
          wtm_at "xs"
          generalize upd H6 R (.lst (zs ++ [V.ref ea])) = H7 at *
          wtm_at "xs"
          have t8 : Tu K H7 (upd H7 F (.lst (ys ++ [V.ref ea]))) := tu_mutL hF7
          refine ⟨_, _, _, zs ++ [V.ref ea], ys ++ [V.ref ea], ds ++ [k], rfl, Xk.same_mut s07 fF, (upd_ne nRF).trans hR7, hz7.st t8.st, upd_same, ?_, hsg.snoc hfi, .inl (by rw [List.length_append, c']; rfl)⟩
          rw [List.map_append]
          exact pk_snoc (hpe7.st t8.st) (hy7.st t8.st)
        · wtm_at "xs"
          refine ⟨_, _, _, zs, ys, ds, rfl, s06, hR6, hz6, hF6, hy6, hsg, .inr ?_⟩
          rcases hor with h | h
          · exact absurd (by rw [hyl, h]) c
          · exact h
  · clear hR2 h2 s02 s2 h1 s1
    rintro σ' H3 ⟨y4, y5, y6, zs, ys, ds, rfl, s3, hR3, hz3, hF3, hy3, hsg, hor⟩
    wtm_at "xs"
    refine q H3 F ys ds s3 fF hF3 hy3 hsg ?_
    rcases hor with h | h
    · exfalso
      have z := hsg.le (n := 4) (fun u hu => (hug u hu).2) (by omega)
      rw [List.length_append, h] at z
      have : (6 : Int).toNat = 6 := rfl
      omega
    · exact h
--CUT--
def g4 (z : Int × (Int × Int × Int × En)) : PyData := .tuple [.int z.1, .int z.2.1, .tuple [.int z.2.2.1, .int z.2.2.2.1], ent z.2.2.2.2]
theorem d4_map {us us' : List (Int × Vt)} (h : us.map uq = us'.map uq) : us.map d4 = us'.map d4 := by
  have e : d4 = g4 ∘ uq := rfl
  rw [e, ← List.map_map, ← List.map_map, h]
def gv (z : Int × Int × Int × En) : PyData := .tuple [.int z.1, .tuple [.int z.2.1, .int z.2.2.1], ent z.2.2.2]
theorem vd_map {vs vs' : List Vt} (h : vs.map vq = vs'.map vq) : vs.map vd = vs'.map vd := by
  have e : vd = gv ∘ vq := rfl
  rw [e, ← List.map_map, ← List.map_map, h]
def sp__law_agrees (K : PySem.W.Frag) (C : Addr) : Sp := fun vs' H Q _ => ∃ (t : Tl) (fm : List Int) (r p : Addr) (xs : List V) (us : List (Int × Vt)), vs' = [.ref t.a, .ref t.f, .ref r, .ref p] ∧ Ta K C H t ∧ Tb t fm ∧ SqT K H t.f (fm.map V.int) ∧
  H r = some (.lst xs) ∧ Xk.PkAll K H 4 xs (t.ks.map ent) ∧ H p = some (.lst (us.map fun u => V.ref u.2.a)) ∧ (∀ u ∈ us, V4At K H u) ∧ us.map uq = t.us.map uq ∧ ∀ H', Same H H' → Q (.bl true) H'
theorem ok__law_agrees (T : Txt K mg) : FnOk P w K mg base CX0 3 T.f__law_agrees T.d__law_agrees ["tally", "first", "row", "votes"] (sp__law_agrees K T.C_Tally) := by
  refine T.F__law_agrees.ok sc__law_agrees (fun vs H Q E h => ?_) (fun cdv A outer s H vs Q E hr h => ?_)
  · obtain ⟨t, fm, r, p, xs, us, rfl, _⟩ := h
    rfl
  obtain ⟨t, fm, r, p, xs, us, rfl, g, b, hf, hr1, hpk, hp, hu, hus, q⟩ := h
  have c0 := T.Cls_Tally
  have c1 := T.A_Tally_first_members
  have c2 := T.A_Tally_row
  have c3 := T.A_Tally_votes
  have o1 := g.o
  have r1 := g.r
  have v1 := g.v
  have hxl := PkAll_len hpk
  have hkl := b.k
  have hul : us.length ≤ 45 := by
    have z := congrArg List.length hus
    rw [List.length_map, List.length_map] at z
    rw [z]
    exact b.l
  refine ⟨_, (Evl.pss_cut (ps_if (PW.pt (pw_or (pt_cmpR (Xk.k_neD (K := K) hr.units (by rfl)) (Xk.k_fld (K := K) (by rfl) (pv 0) rfl) (pv 2) (nomark _)) (pw_or (pt_cmpR (Xk.k_neD (K := K) hr.units (by rfl)) (Xk.k_fld (K := K) (by rfl) (pv 0) rfl) (pv 3) (nomark _)) (pw_or1 (pt_cmpR (Xk.k_neD (K := K) hr.units (by rfl)) (Xk.k_fld (K := K) (by rfl) (pv 0) rfl) (pv 1) (nomark _)))))) (pss_one (ps_ret (pe_bl))) pss_nil)
      (pss_cons (ps_for PassesOwn.never rfl (pi_range2 (by rfl) T.m_range (pa_cons (pe_int) (pa_cons (pe_int) pa_nil))) (pg_name (i := 4) sc__law_agrees.nd rfl (Or.inr rfl)) (Evl.pss_cut (ps_if (pt_cmpR (Xk.k_neD (K := K) hr.units (by rfl)) (pe_meth (pv 0) T.Cls_Tally T.M_Tally_votes_of (ok_Tally_votes_of T) (hr.mono (by decide)) T.b_Tally_votes_of .nil pass0 (pa_cons (pv 4) pa_nil)) (pe_lc (own := [("vote", 5)]) (g := gName 5) rfl sc__law_agrees.nd  (pi_list (pv 3)) (blkOk_by (N := N__law_agrees) (sc := defScope s__law_agrees) (own := [("vote", 5)]) (by decide +kernel)) (fun _ _ _ _ _ => pg_name (i := 5) sc__law_agrees.nd rfl (Or.inl rfl)) (fun _ _ _ _ _ => pts_one (pt_cmpR op_eq (pe_ix (Xk.k_ixT (K := K) (by rfl)) (pv 5) (pe_int) (fun _ _ => rfl)) (pv 4) (nomark _))) (fun _ _ _ _ _ => (pe_slice (Xk.k_slT (K := K) (by rfl)) (pv 5) (po_some (pe_int)) po_none))) (nomark _)) (pss_one (ps_ret (pe_bl))) pss_nil)
      (pss_one (ps_if (PW.pt (pw_and (pt_cmpR op_le (pv 4) (pe_op op_add (pe_callB (Xk.k_len (K := K) (by rfl)) (by rfl) T.m_len PySem.boot_len (pa_cons (pv 2) pa_nil)) (pe_int)) (nomark _)) (pw_and1 (pt_cmpR (Xk.k_neD (K := K) hr.units (by rfl)) (pe_meth (pv 0) T.Cls_Tally T.M_Tally_members_of (ok_Tally_members_of T) (hr.mono (by decide)) T.b_Tally_members_of .nil pass0 (pa_cons (pv 4) pa_nil)) (pe_call (ok__law_members_at T) (hr.mono (by decide)) (by rfl) T.g__law_members_at T.F__law_members_at.kp T.b__law_members_at .nil pass0 (pa_cons (pv 1) (pa_cons (pv 2) (pa_cons (pv 4) pa_nil)))) (nomark _))))) (pss_one (ps_ret (pe_bl))) pss_nil))))
      (pss_one (ps_ret (pe_bl))))), ?_⟩
  wtm_at "x0"
  wtm_at "xs"
  refine Xk.x_cut (fun σ' H' => σ' = [some (.ref t.a), some (.ref t.f), some (.ref r), some (.ref p), none, none] ∧ H' = H) ?_ ?_
  · wtm_at "xs"
    refine Xk.x_nePkL (n := 4) (m := 4) (Xk.sq_of r1) (Xk.sq_of hr1) g.rk hpk ?_
    wtm_at "xs"
    have hd4 := pk_v4 us hu
    rw [d4_map hus] at hd4
    refine Xk.x_nePkL (n := 5) (m := 5) (Xk.sq_of v1) (Xk.sq_of hp) (pk_v4 t.us g.vs) hd4 ?_
    wtm_at "xs"
    refine Xk.x_nePk (n := 3) (m := 3) (Xk.pk_tup (n := 2) hf (Xk.pk_ints fm)) (Xk.pk_tup (n := 2) hf (Xk.pk_ints fm)) ?_
    wtm_at "xs"
    exact ⟨rfl, rfl⟩
  rintro σ' H' ⟨rfl, rfl⟩
  wtm_at "xs"
  refine Xk.x_range2 (lo := 1) (hi := 6) (fun i σ' H1 => ∃ (y4 : Option V), σ' = [some (.ref t.a), some (.ref t.f), some (.ref r), some (.ref p), y4, none] ∧ Same H' H1) (by decide) ⟨_, rfl, fun _ _ e => e⟩ ?_ ?_
  · rintro i σ' H1 hi ⟨y4, rfl, s1⟩
    have g1 := g.same s1
    have o1' := g1.o
    have hp1 := s1 _ _ hp
    have hf1 := Xk.st_same hf s1
    have hr1' := s1 _ _ hr1
    wtm_at "xs"
    refine Xk.x_cut (fun σ' H2 => σ' = [some (.ref t.a), some (.ref t.f), some (.ref r), some (.ref p), some (.int (1 + (i : Int))), none] ∧ Same H1 H2) ?_ ?_
    · wtm_at "xs"
      refine ⟨t, fm, _, rfl, g1, b, fun H2 p2 ps s2 hps hpe hpl => ?_⟩
      have hp2 := s2 _ _ hp1
      wtm_at "xs"
      refine Xk.x_lcL (xs := us.map fun u => V.ref u.2.a) (fun Dl j H' => ∃ qs : List Vt, Same H2 H' ∧ H' Dl = some (.lst (qs.map fun v => V.ref v.a)) ∧ (∀ v ∈ qs, VtAt K H' v) ∧ qs.map vq = (sgr (us.take j) (1 + (i : Int))).map vq ∧ qs.length ≤ j) (Xk.sq_of hp2) ?_ ?_ ?_ ?_
      · exact fun Dl hD => ⟨[], Xk.same_fr hD, upd_same, fun v hv => (by cases hv), rfl, Nat.le_refl _⟩
      · exact fun Dl j H' hD ⟨_, s, _⟩ => Xk.sq_of (s _ _ hp2)
      · rintro Dl hD j a H5 hj ⟨qs, s5, h5, hqs, hqq, hql⟩
        obtain ⟨⟨s, v⟩, huj, rfl⟩ := Xk.of_map_at hj
        have hua := (hu _ (List.mem_of_getElem? huj)).same (s1.trans (s2.trans s5))
        have htu := hua.tp
        simp only at htu
        have hjl := Xk.at_lt huj
        wtm_at "xs"
        refine ⟨rfl, ?_⟩
        wtm_at "xs"
        have ett : us.take (j + 1) = us.take j ++ [(s, v)] := by
          rw [List.take_add_one, huj]
          rfl
        refine Xk.x_itd (fun c => ?_) (fun c => ?_)
        · have es : s = 1 + (i : Int) := by
            injection c
          wtm_at "xs"
          refine ⟨v.a, _, rfl, htu, fun z => absurd z.1 (show ¬ HT.sIx 4 0 (some 1) = 0 by decide), fun _ t' ht => ?_⟩
          have s6 : Same H5 (upd H5 t' (.tup (cutV [V.int s, V.int v.ix, V.ref v.b, v.e] (some 1) none))) := Xk.same_new ht
          have h6 : upd H5 t' (.tup (cutV [V.int s, V.int v.ix, V.ref v.b, v.e] (some 1) none)) t' = some (.tup [V.int v.ix, V.ref v.b, v.e]) := upd_same
          generalize upd H5 t' (.tup (cutV [V.int s, V.int v.ix, V.ref v.b, v.e] (some 1) none)) = H6 at *
          have h56 := s6 _ _ h5
          have tt : Tu K H6 (upd H6 Dl (.lst ((qs.map fun v => V.ref v.a) ++ [V.ref t']))) := tu_mutL h56
          refine ⟨_, h56, Xk.size_lt (by rw [List.length_map]; omega), qs ++ [⟨t', v.b, v.ix, v.t, v.x, v.e, v.k⟩], Xk.same_mut (s5.trans s6) hD, by rw [upd_same, List.map_append]; rfl, fun w hw => ?_, ?_, by rw [List.length_append]; exact Nat.succ_le_succ hql⟩
          · rcases List.mem_append.mp hw with hw | hw
            · exact ((hqs w hw).same s6).tu tt
            · rw [List.mem_singleton.mp hw]
              have hv6 := hua.same s6
              exact VtAt.tu ⟨Xk.st_of h6, hv6.bl, hv6.en, trivial⟩ tt
          · rw [ett, es, sgr_yes, List.map_append, List.map_append, hqq]
            rfl
        · refine ⟨qs, s5, h5, hqs, ?_, by omega⟩
          rw [ett, sgr_no (fun z => c (by rw [z])), hqq]
      · rintro Dl H5 hD ⟨qs, s5, h5, hqs, hqq, hql⟩
        rw [List.length_map, List.take_length] at hqq
        have hps5 := hps.same s5
        have evd : qs.map vd = ps.map vd := vd_map (hqq.trans ((sgr_map hus).trans hpe.symm))
        have pkq := pk_vts qs hqs
        rw [evd] at pkq
        wtm_at "xs"
        refine Xk.x_nePkL (n := 6) (m := 6) hps5.1 (Xk.sq_of h5) (pk_vts ps hps5.2) pkq ?_
        wtm_at "xs"
        exact ⟨rfl, s2.trans s5⟩
    rintro σ' H2 ⟨rfl, s2⟩
    have g2 := g1.same s2
    have o2' := g2.o
    have hf2 := Xk.st_same hf1 s2
    have hr2 := s2 _ _ hr1'
    wtm_at "xs"
    refine Xk.x_itd (fun c => ?_) (fun c => ?_)
    · wtm_at "xs"
      refine ⟨t, fm, _, rfl, g2, hf2, b, by omega, by omega, fun P1 hP => ?_⟩
      wtm_at "xs"
      refine ⟨t.f, r, fm, xs, t.ks, _, rfl, hf2, Xk.sq_of hr2, hpk.same (s1.trans s2), by omega, by omega, by omega, fun H3 M s3 hM => ?_⟩
      refine Xk.x_nePk (n := 3) (m := 3) (Xk.pk_tup (n := 2) (Xk.st_same hP s3) (Xk.pk_ints _)) (Xk.pk_tup (n := 2) hM (Xk.pk_ints _)) ?_
      wtm_at "xs"
      exact ⟨_, rfl, s1.trans (s2.trans s3)⟩
    · wtm_at "xs"
      exact ⟨_, rfl, s1.trans s2⟩
  · rintro σ' H1 ⟨y4, rfl, s1⟩
    wtm_at "xs"
    exact q H1 s1
--CUT--
theorem Fx.but {b : Addr} {H H' : Hp} {ys zs : List V} (hb : H b = some (.lst ys)) (hb' : H' b = some (.lst zs)) (e : Xk.But b H H') : Fx K (fun c => c = b) H H' :=
  ⟨fun c o h n => e c o n h, tu_butL hb e, fun c C dx fs h => e c _ (fun z => by rw [z, hb] at h; cases h) h, fun c h => by
    by_cases z : c = b
    · rw [z, hb']
      exact fun z => by cases z
    · cases h2 : H c with
      | none => exact absurd h2 h
      | some o =>
        rw [e c o z h2]
        exact fun z => by cases z⟩
theorem pk_app {H : Hp} {n : Nat} {ws : List V} {es : List PyData} (hw : Xk.PkAll K H n ws es) : ∀ {vs : List V} {ds : List PyData}, Xk.PkAll K H n vs ds → Xk.PkAll K H n (vs ++ ws) (ds ++ es)
  | [], ds, h => by
    obtain ⟨h1, _, _⟩ := h
    cases h1
    exact hw
  | v :: vs, ds, h => by
    obtain ⟨e, es', rfl, h1, h2⟩ := h.uncons
    exact Xk.pk_cons h1 (pk_app hw h2)
/-- what the law has between its steps -/
structure Mn (K : PySem.W.Frag) (C : Addr) (H0 H : Hp) (t : Tl) (f rw w : Addr) (fm : List Int) (xs : List V) (us : List (Int × Vt)) (n : Nat) : Prop where
  s : Same H0 H
  ta : Ta K C H t
  tb : Tb t fm
  tf : t.f = f
  fo : SqT K H f (fm.map V.int)
  rw_ : H rw = some (.lst xs)
  rk : Xk.PkAll K H 4 xs (t.ks.map ent)
  wo : H w = some (.lst (us.map fun u => V.ref u.2.a))
  vs : ∀ u ∈ us, V4At K H u
  uq_ : us.map uq = t.us.map uq
  ub : ∀ u ∈ us, 1 ≤ u.2.t ∧ u.2.t ≤ 2 ∧ 0 ≤ u.2.x ∧ u.2.x ≤ 1
  nn : t.us.length ≤ n
  mu : ∀ c, H0 c ≠ none → ¬ Mu t c
  mr : ¬ Mu t rw
  mw : ¬ Mu t w
  fw : Xk.Fr w H0
  rww : rw ≠ w
theorem Mn.same {C : Addr} {H0 H H' : Hp} {t : Tl} {f rw w : Addr} {fm : List Int} {xs : List V} {us : List (Int × Vt)} {n : Nat} (h : Mn K C H0 H t f rw w fm xs us n) (s : Same H H') : Mn K C H0 H' t f rw w fm xs us n :=
  ⟨h.s.trans s, h.ta.same s, h.tb, h.tf, Xk.st_same h.fo s, s _ _ h.rw_, h.rk.same s, s _ _ h.wo, fun u hu => (h.vs u hu).same s, h.uq_, h.ub, h.nn, h.mu, h.mr, h.mw, h.fw, h.rww⟩
theorem Mn.box {C : Addr} {H0 H H' : Hp} {t : Tl} {f rw w b : Addr} {fm : List Int} {xs : List V} {us : List (Int × Vt)} {n : Nat} (h : Mn K C H0 H t f rw w fm xs us n) (f' : Fx K (fun c => c = b) H H') (hb : Xk.Fr b H0) (hm : ¬ Mu t b) (h1 : rw ≠ b) (h2 : w ≠ b) : Mn K C H0 H' t f rw w fm xs us n :=
  ⟨fun c o e => f'.at_ c o (h.s c o e) fun z => (by rw [z, hb.is] at e; cases e), h.ta.fx f' fun c m z => hm (z ▸ m), h.tb, h.tf, f'.tu.st.t _ _ h.fo, f'.at_ _ _ h.rw_ h1, h.rk.st f'.tu.st, f'.at_ _ _ h.wo h2, fun u hu => (h.vs u hu).tu f'.tu, h.uq_, h.ub, h.nn, h.mu, h.mr, h.mw, h.fw, h.rww⟩
/-- what was forked from, and what was known then -/
def Lf (K : PySem.W.Frag) (C : Addr) (H : Hp) (P : Addr → Prop) (f : Addr) (fm : List Int) (y : V) (kn : Addr) : Prop := y = .non ∨ ∃ (tl : Tl) (kr kw : Addr) (xs : List V) (us : List (Int × Vt)), y = .ref tl.a ∧ tl.f = f ∧ Ta K C H tl ∧ Tb tl fm ∧ (∀ c, Mu tl c → ¬ P c) ∧
  H kn = some (.lst [.ref kr, .ref kw]) ∧ ¬ P kn ∧ H kr = some (.lst xs) ∧ ¬ P kr ∧ Xk.PkAll K H 4 xs (tl.ks.map ent) ∧ H kw = some (.lst (us.map fun u => V.ref u.2.a)) ∧ ¬ P kw ∧ (∀ u ∈ us, V4At K H u) ∧ us.map uq = tl.us.map uq
theorem Lf.fx {C : Addr} {H H' : Hp} {P p : Addr → Prop} {f : Addr} {fm : List Int} {y : V} {kn : Addr} (h : Lf K C H P f fm y kn) (g : Fx K p H H') (hp : ∀ c, p c → P c) : Lf K C H' P f fm y kn := by
  rcases h with h | ⟨tl, kr, kw, xs, us, e1, e2, e3, e4, e5, e6, e7, e8, e9, e10, e11, e12, e13, e14⟩
  · exact .inl h
  · exact .inr ⟨tl, kr, kw, xs, us, e1, e2, e3.fx g fun c m z => e5 c m (hp c z), e4, e5, g.at_ _ _ e6 fun z => e7 (hp _ z), e7, g.at_ _ _ e8 fun z => e9 (hp _ z), e9, e10.st g.tu.st, g.at_ _ _ e11 fun z => e12 (hp _ z), e12, fun u hu => (e13 u hu).tu g.tu, e14⟩
theorem Lf.same {C : Addr} {H H' : Hp} {P : Addr → Prop} {f : Addr} {fm : List Int} {y : V} {kn : Addr} (h : Lf K C H P f fm y kn) (s : Same H H') : Lf K C H' P f fm y kn := h.fx (p := fun _ => False) (.same s) fun _ z => z.elim
/-- the same with a box and what was forked from -/
structure Bn (K : PySem.W.Frag) (C : Addr) (H0 H : Hp) (t : Tl) (f rw w : Addr) (fm : List Int) (xs : List V) (us : List (Int × Vt)) (n : Nat) (bx kn : Addr) (y : V) (m : Int) : Prop where
  M : Mn K C H0 H t f rw w fm xs us n
  hb : H bx = some (.lst [.int m])
  fb : Xk.Fr bx H0
  mb : ¬ Mu t bx
  nr : rw ≠ bx
  nw : w ≠ bx
  L : Lf K C H (fun c => c = bx ∨ c = w ∨ Mu t c) f fm y kn
theorem Bn.same {C : Addr} {H0 H H' : Hp} {t : Tl} {f rw w : Addr} {fm : List Int} {xs : List V} {us : List (Int × Vt)} {n : Nat} {bx kn : Addr} {y : V} {m : Int} (h : Bn K C H0 H t f rw w fm xs us n bx kn y m) (s : Same H H') : Bn K C H0 H' t f rw w fm xs us n bx kn y m :=
  ⟨h.M.same s, s _ _ h.hb, h.fb, h.mb, h.nr, h.nw, h.L.same s⟩
theorem Bn.but {C : Addr} {H0 H H' : Hp} {t : Tl} {f rw w : Addr} {fm : List Int} {xs : List V} {us : List (Int × Vt)} {n : Nat} {bx kn : Addr} {y : V} {m k : Int} (h : Bn K C H0 H t f rw w fm xs us n bx kn y m) (e : Xk.But bx H H') (hb : H' bx = some (.lst [.int k])) : Bn K C H0 H' t f rw w fm xs us n bx kn y k ∧ Tu K H H' := by
  have g := Fx.but (K := K) h.hb hb e
  exact ⟨⟨h.M.box g h.fb h.mb h.nr h.nw, hb, h.fb, h.mb, h.nr, h.nw, h.L.fx g fun c z => .inl z⟩, g.tu⟩
theorem Bn.tk {C : Addr} {H0 H : Hp} {t : Tl} {f rw w : Addr} {fm : List Int} {xs : List V} {us : List (Int × Vt)} {n : Nat} {bx kn : Addr} {y : V} {m : Int} (h : Bn K C H0 H t f rw w fm xs us n bx kn y m) (k : Int) : Bn K C H0 (upd H bx (.lst [.int k])) t f rw w fm xs us n bx kn y k ∧ Tu K H (upd H bx (.lst [.int k])) :=
  h.but (Xk.but_mut (Xk.But.refl _ _)) upd_same
def sp_law (K : PySem.W.Frag) : Sp := fun vs H Q _ => ∃ (a : Addr) (ns : List Int), vs = [.ref a] ∧ SqL K H a (ns.map V.int) ∧ ns.length ≤ 63 ∧ ∀ H', Q (.bl true) H'
theorem ok_law (T : Txt K mg) : FnOk P w K mg base CX0 7 T.f_law T.d_law ["script"] (sp_law K) := by
  refine T.F_law.ok sc_law (fun vs H Q E h => ?_) (fun cdv A outer s H vs Q E hr h => ?_)
  · obtain ⟨a, ns, rfl, _⟩ := h
    rfl
  obtain ⟨a, ns, rfl, hS, hl, q⟩ := h
  have c0 := T.Cls_Tally
  refine ⟨_, (pss_cons (ps_set (i := 1) sc_law.nd rfl (Or.inl rfl) (pe_lst (pa_cons (pe_call (ok__law_row T) (hr.mono (by decide)) (by rfl) T.g__law_row T.F__law_row.kp T.b__law_row .nil pass0 (pa_cons (pv 0) (pa_cons (pe_int) pa_nil))) pa_nil)))
      (pss_cons (ps_set (i := 2) sc_law.nd rfl (Or.inl rfl) (pe_call (ok__law_members T) (hr.mono (by decide)) (by rfl) T.g__law_members T.F__law_members.kp T.b__law_members .nil pass0 (pa_cons (pv 1) (pa_cons (pe_int) pa_nil))))
      (pss_cons (ps_set (i := 3) sc_law.nd rfl (Or.inl rfl) (pe_make T.Mk_Tally (ok_Tally___init__ T) (hr.mono (by decide)) (by rfl) T.g_Tally T.b_Tally___init__ .nil pass0 (pa_cons (pv 2) pa_nil)))
      (pss_cons (ps_set (i := 4) sc_law.nd rfl (Or.inl rfl) (pe_lst pa_nil))
      (pss_cons (ps_set (i := 5) sc_law.nd rfl (Or.inl rfl) (pe_lst pa_nil))
      (pss_cons (ps_set (i := 6) sc_law.nd rfl (Or.inl rfl) (pe_call (ok__law_take T) (hr.mono (by decide)) (by rfl) T.g__law_take T.F__law_take.kp T.b__law_take .nil pass0 (pa_cons (pv 1) (pa_cons (pe_int) pa_nil))))
      (pss_cons (ps_for PassesOwn.never rfl (pi_range1 (by rfl) T.m_range (pa_cons (pe_int) pa_nil)) (pg_name (i := 7) sc_law.nd rfl (Or.inl rfl)) (pss_cons (ps_set (i := 1) sc_law.nd rfl (Or.inl rfl) (pe_lst (pa_cons (pe_call (ok__law_row T) (hr.mono (by decide)) (by rfl) T.g__law_row T.F__law_row.kp T.b__law_row .nil pass0 (pa_cons (pv 0) (pa_cons (pe_op op_add (pe_int) (pv 7)) pa_nil))) pa_nil)))
      (pss_cons (ps_set (i := 8) sc_law.nd rfl (Or.inl rfl) (pe_non))
      (pss_cons (ps_set (i := 9) sc_law.nd rfl (Or.inl rfl) (pe_lst (pa_cons (pe_callTy (Xk.k_list (K := K) (by rfl)) (by rfl) T.m_list (by decide +kernel) (pa_cons (pv 4) pa_nil)) (pa_cons (pe_callTy (Xk.k_list (K := K) (by rfl)) (by rfl) T.m_list (by decide +kernel) (pa_cons (pv 5) pa_nil)) pa_nil))))
      (Evl.pss_cut (ps_if (pt_cmpR op_eq (pv 7) (pv 6) (nomark _)) (pss_cons (ps_set (i := 8) sc_law.nd rfl (Or.inl rfl) (pv 3))
      (pss_one (ps_set (i := 3) sc_law.nd rfl (Or.inl rfl) (pe_meth0 (pv 8) T.Cls_Tally T.M_Tally_fork (ok_Tally_fork T) (hr.mono (by decide)) T.b_Tally_fork .nil pass0)))) pss_nil)
      (pss_cons (ps_set (i := 10) sc_law.nd rfl (Or.inl rfl) (pe_callB (Xk.call_nMax2 rfl) (by rfl) T.m_max (by decide +kernel) (pa_cons (pe_int) (pa_cons (pe_callB (Xk.call_nMin2 rfl) (by rfl) T.m_min (by decide +kernel) (pa_cons (pe_int) (pa_cons (pe_op op_add (pe_callB (Xk.k_len (K := K) (by rfl)) (by rfl) T.m_len PySem.boot_len (pa_cons (pv 4) pa_nil)) (pe_ix (Xk.k_ixL (K := K) (by rfl)) (pe_lst (pa_cons (pe_int) (pa_cons (pe_int) (pa_cons (pe_int) (pa_cons (pe_int) (pa_cons (pe_int) pa_nil)))))) (pe_call (ok__law_take T) (hr.mono (by decide)) (by rfl) T.g__law_take T.F__law_take.kp T.b__law_take .nil pass0 (pa_cons (pv 1) (pa_cons (pe_int) pa_nil))) (fun _ _ => rfl))) pa_nil))) pa_nil))))
      (pss_cons (ps_set (i := 11) sc_law.nd rfl (Or.inl rfl) (pe_tup (pa_cons (pe_op op_add (pe_int) (pe_call (ok__law_take T) (hr.mono (by decide)) (by rfl) T.g__law_take T.F__law_take.kp T.b__law_take .nil pass0 (pa_cons (pv 1) (pa_cons (pe_int) pa_nil)))) (pa_cons (pe_call (ok__law_take T) (hr.mono (by decide)) (by rfl) T.g__law_take T.F__law_take.kp T.b__law_take .nil pass0 (pa_cons (pv 1) (pa_cons (pe_int) pa_nil))) pa_nil))))
      (pss_cons (ps_set (i := 12) sc_law.nd rfl (Or.inl rfl) (pe_call (ok__law_members_at T) (hr.mono (by decide)) (by rfl) T.g__law_members_at T.F__law_members_at.kp T.b__law_members_at .nil pass0 (pa_cons (pv 2) (pa_cons (pv 4) (pa_cons (pe_callB (Xk.call_nMin2 rfl) (by rfl) T.m_min (by decide +kernel) (pa_cons (pv 10) (pa_cons (pe_op op_add (pe_callB (Xk.k_len (K := K) (by rfl)) (by rfl) T.m_len PySem.boot_len (pa_cons (pv 4) pa_nil)) (pe_int)) pa_nil))) pa_nil)))))
      (pss_cons (ps_set (i := 13) sc_law.nd rfl (Or.inl rfl) (pe_ix (Xk.k_ixT (K := K) (by rfl)) (pv 12) (pe_call (ok__law_take T) (hr.mono (by decide)) (by rfl) T.g__law_take T.F__law_take.kp T.b__law_take .nil pass0 (pa_cons (pv 1) (pa_cons (pe_callB (Xk.k_len (K := K) (by rfl)) (by rfl) T.m_len PySem.boot_len (pa_cons (pv 12) pa_nil)) pa_nil))) (fun _ _ => rfl)))
      (Evl.pss_cut (ps_if (pt_cmpR op_eq (pe_call (ok__law_take T) (hr.mono (by decide)) (by rfl) T.g__law_take T.F__law_take.kp T.b__law_take .nil pass0 (pa_cons (pv 1) (pa_cons (pe_int) pa_nil))) (pe_int) (nomark _)) (pss_one (ps_set (i := 13) sc_law.nd rfl (Or.inl rfl) (pe_call (ok__law_take T) (hr.mono (by decide)) (by rfl) T.g__law_take T.F__law_take.kp T.b__law_take .nil pass0 (pa_cons (pv 1) (pa_cons (pe_int) pa_nil))))) pss_nil)
      (pss_cons (ps_set (i := 14) sc_law.nd rfl (Or.inl rfl) (pe_call (ok__law_entry T) (hr.mono (by decide)) (by rfl) T.g__law_entry T.F__law_entry.kp T.b__law_entry .nil pass0 (pa_cons (pv 1) (pa_cons (pv 10) (pa_cons (pv 11) pa_nil)))))
      (pss_cons (ps_expr (pe_bm PySem.F.plainAttrs_list PySem.F.slot_list_append PySem.F.type_list_append mt_append (pv 5) (pa_cons (pe_tup (pa_cons (pv 10) (pa_cons (pv 13) (pa_cons (pv 11) (pa_cons (pv 14) pa_nil))))) pa_nil)))
      (pss_cons (ps_set (i := 15) sc_law.nd rfl (Or.inl rfl) (pe_lst pa_nil))
      (Evl.pss_cut (ps_if (pt_cmpR op_eq (pv 10) (pe_op op_add (pe_callB (Xk.k_len (K := K) (by rfl)) (by rfl) T.m_len PySem.boot_len (pa_cons (pv 4) pa_nil)) (pe_int)) (nomark _)) (pss_one (ps_set (i := 15) sc_law.nd rfl (Or.inl rfl) (pe_call (ok__law_added T) (hr.mono (by decide)) (by rfl) T.g__law_added T.F__law_added.kp T.b__law_added .nil pass0 (pa_cons (pv 2) (pa_cons (pv 4) (pa_cons (pv 5) pa_nil)))))) pss_nil)
      (pss_cons (ps_set (i := 16) sc_law.nd rfl (Or.inl rfl) (pe_meth (pv 3) T.Cls_Tally T.M_Tally_add (ok_Tally_add T) (hr.mono (by decide)) T.b_Tally_add .nil pass0 (pa_cons (pv 10) (pa_cons (pv 13) (pa_cons (pv 11) (pa_cons (pv 14) pa_nil))))))
      (pss_cons (ps_set (i := 4) sc_law.nd rfl (Or.inl rfl) (pe_op op_cat (pv 4) (pv 15)))
      (Evl.pss_cut (ps_if (PW.pt (pw_or (pt_not (pt_val (pe_callB (Xk.k_isi (K := K) (by rfl)) (by rfl) T.m_isinstance (by decide +kernel) (pa_cons (pv 16) (pa_cons (pe_bltn (v := .ty "list") (u := .type "list") (by rfl) T.m_list (by decide +kernel) Xk.rel_ty) pa_nil))))) (pw_or (pt_cmpR (Xk.k_neD (K := K) hr.units (by rfl)) (pv 16) (pv 15) (nomark _)) (pw_or1 (pt_not (pt_val (pe_call (ok__law_agrees T) (hr.mono (by decide)) (by rfl) T.g__law_agrees T.F__law_agrees.kp T.b__law_agrees .nil pass0 (pa_cons (pv 3) (pa_cons (pv 2) (pa_cons (pv 4) (pa_cons (pv 5) pa_nil))))))))))) (pss_one (ps_ret (pe_bl))) pss_nil)
      (pss_one (ps_if (PW.pt (pw_and (pt_cmpR Xk.op_nNotN (pv 8) (pe_non) (nomark _)) (pw_and1 (pt_not (pt_val (pe_call (ok__law_agrees T) (hr.mono (by decide)) (by rfl) T.g__law_agrees T.F__law_agrees.kp T.b__law_agrees .nil pass0 (pa_cons (pv 8) (pa_cons (pv 2) (pa_cons (pe_ix (Xk.k_ixL (K := K) (by rfl)) (pv 9) (pe_int) (fun _ _ => rfl)) (pa_cons (pe_ix (Xk.k_ixL (K := K) (by rfl)) (pv 9) (pe_int) (fun _ _ => rfl)) pa_nil)))))))))) (pss_one (ps_ret (pe_bl))) pss_nil)))))))))))))))))))
      (pss_one (ps_ret (pe_bl)))))))))), ?_⟩
  wtm_at "x0"
  wtm_at "xs"
  refine ⟨_, _, ns, rfl, hS, hl, by omega, by omega, fun n1 hn1 => ?_⟩
  wtm_at "xs"
  intro b H1 hb s1 hb1
  wtm_at "xs"
  refine ⟨b, 4, n1, rfl, hb1, by decide, by decide, fun f H2 fm n2 hf b2 hb2 hf2 hfl hf1 hasc => ?_⟩
  have s2 : Same H H2 := Xk.same_but b2 hb s1
  have hgf : Gm fm := ⟨hasc, hfl, hf1⟩
  clear hb1 b2 s1 hf
  wtm_at "xs"
  refine Xk.x_rMake fun x fx H3 hx hfx hn s3 h3 h4 => ?_
  refine ⟨x, fx, f, rfl, h4, fun H4 r v d hr4 hv4 hd4 b4 g4 => ⟨rfl, ?_⟩⟩
  have s24 : Same H2 H4 := Xk.same_but b4 hx s3
  have hb4 := s24 _ _ hb2
  have hf4 := s24 _ _ hf2
  have s4 := s2.trans s24
  have e2 : ∀ c, H2 c ≠ none → ¬ Mu ⟨x, fx, f, r, v, d, [], [], [], [], [], none⟩ c := fun c hc m => by
    have al : ∀ p, Xk.Fr p H3 → H2 p = none := fun p hp => by
      cases z : H2 p with
      | none => rfl
      | some o =>
        have := hp.is
        rw [s3 _ _ z] at this
        cases this
    rcases m with rfl | rfl | rfl | ⟨s, e⟩
    · exact hc (al _ hr4)
    · exact hc (al _ hv4)
    · exact hc (al _ hd4)
    · cases e
  clear h3 h4 b4 s3
  wtm_at "xs"
  intro rw H5 hrw s5 hrw5
  wtm_at "xs"
  intro w H6 hw s6 hw6
  have g6 := (g4.same s5).same s6
  have M6 : Mn K T.C_Tally H H6 ⟨x, fx, f, r, v, d, [], [], [], [], [], none⟩ f rw w fm [] [] 0 :=
    ⟨s4.trans (s5.trans s6), g6, ⟨rfl, rfl, fun u hu => (by cases hu), Nat.zero_le _, Nat.zero_le _, fun k hk => (by cases hk), hgf, Nat.le_refl _⟩, rfl, Xk.st_of ((s5.trans s6) _ _ hf4), s6 _ _ hrw5, Xk.pk_nil, hw6, fun u hu => (by cases hu), rfl, fun u hu => (by cases hu), Nat.le_refl _, fun c hc => e2 c (fun z => hc (by
      cases q : H c with
      | none => rfl
      | some o =>
        have := s2 _ _ q
        rw [z] at this
        cases this)), g4.new hrw, (g4.same s5).new hw, Xk.free_back hw (s4.trans s5), Xk.ne_new hw hrw5⟩
  have hb6 := (s5.trans s6) _ _ hb4
  have fb : Xk.Fr b H := hb
  have mb : ¬ Mu ⟨x, fx, f, r, v, d, [], [], [], [], [], none⟩ b := e2 b (by rw [hb2]; exact fun z => by cases z)
  have nb1 : rw ≠ b := (Xk.ne_new hrw hb4).symm
  have nb2 : w ≠ b := (Xk.ne_new hw (s5 _ _ hb4)).symm
  clear g4 g6 s5 s6 hw hrw hrw5 hw6 hb4 hf4 s4 s24 e2 hf2 hb2 s2 hr4 hv4 hd4 hx
  wtm_at "xs"
  refine ⟨b, 40, n2, rfl, hb6, by decide, by decide, fun e1 e2 => ?_⟩
  have M7 := M6.box (Fx.but hb6 (show upd H6 b (.lst [.int (n2 / 40)]) b = some (.lst [.int (n2 / 40)]) from upd_same) (Xk.but_mut (Xk.But.refl _ _))) fb mb nb1 nb2
  clear M6 hb6
  generalize upd H6 b (.lst [.int (n2 / 40)]) = H7 at *
  generalize (n2 % 40 : Int) = mo at *
  wtm_at "xs"
  refine Xk.x_range (m := 40) (fun i σ' H' => ∃ (bx rw w : Addr) (t : Tl) (xs : List V) (us : List (Int × Vt)) (y7 y8 y9 y10 y11 y12 y13 y14 y15 y16 : Option V), σ' = [some (.ref a), some (.ref bx), some (.ref f), some (.ref t.a), some (.ref rw), some (.ref w), some (.int mo), y7, y8, y9, y10, y11, y12, y13, y14, y15, y16] ∧ Mn K T.C_Tally H H' t f rw w fm xs us i) (by decide)
    ⟨b, rw, w, _, [], [], _, _, _, _, _, _, _, _, _, _, rfl, M7⟩ ?_ ?_
  · clear M7 nb1 nb2 mb fb
    rintro i σ' H8 hi ⟨bx0, rw, w, t, xs, us, y7, y8, y9, y10, y11, y12, y13, y14, y15, y16, rfl, M8⟩
    have hS8 := Xk.sq_same hS M8.s
    wtm_at "xs"
    refine ⟨_, _, ns, rfl, hS8, hl, by omega, by omega, fun n hn => ?_⟩
    wtm_at "xs"
    intro bx H9 hbx s9 hb9
    have M9 := M8.same s9
    have mbx : ¬ Mu t bx := M8.ta.new hbx
    have nrb : rw ≠ bx := Xk.ne_new hbx M8.rw_
    have nwb : w ≠ bx := Xk.ne_new hbx M8.wo
    have fbx : Xk.Fr bx H := Xk.free_back hbx M8.s
    have r9 := M9.rw_
    have w9 := M9.wo
    have hxl := PkAll_len M9.rk
    have hkl := M9.tb.k
    have hul : us.length ≤ 45 := by
      have z := congrArg List.length M9.uq_
      rw [List.length_map, List.length_map] at z
      rw [z]
      exact M9.tb.l
    clear M8 s9 hbx
    wtm_at "xs"
    intro kr H10 hkr s10 hkr10
    have M10 := M9.same s10
    have w10 := M10.wo
    have nkrb : kr ≠ bx := (Xk.ne_new hkr hb9).symm
    have nkrw : kr ≠ w := (Xk.ne_new hkr w9).symm
    have mkr : ¬ Mu t kr := M9.ta.new hkr
    have hb10 := s10 _ _ hb9
    wtm_at "xs"
    intro kw H11 hkw s11 hkw11
    have M11 := M10.same s11
    have nkwb : kw ≠ bx := (Xk.ne_new hkw hb10).symm
    have nkww : kw ≠ w := (Xk.ne_new hkw w10).symm
    have mkw : ¬ Mu t kw := M10.ta.new hkw
    have hb11 := s11 _ _ hb10
    have hkr11 := s11 _ _ hkr10
    have w11 := M11.wo
    wtm_at "xs"
    intro kn H12 hkn s12 hkn12
    have M12 := M11.same s12
    have nknb : kn ≠ bx := (Xk.ne_new hkn hb11).symm
    have nknw : kn ≠ w := (Xk.ne_new hkn w11).symm
    have mkn : ¬ Mu t kn := M11.ta.new hkn
    have hb12 := s12 _ _ hb11
    have hkr12 := s12 _ _ hkr11
    have hkw12 := s12 _ _ hkw11
    have o12 := M12.ta.o
    clear M9 M10 M11 s10 s11 s12 hkr hkw hkn hkr10 hkr11 hkw11 w10 w11 w9 r9 hb9 hb10 hb11
    wtm_at "xs"
    refine Xk.x_cut (fun σ' H' => ∃ (t1 : Tl) (y : V), σ' = [some (.ref a), some (.ref bx), some (.ref f), some (.ref t1.a), some (.ref rw), some (.ref w), some (.int mo), some (.int (i : Int)), some y, some (.ref kn), y10, y11, y12, y13, y14, y15, y16] ∧ Bn K T.C_Tally H H' t1 f rw w fm xs us i bx kn y n) ?_ ?_
    · wtm_at "xs"
      refine Xk.x_itd (fun c => ?_) (fun c => ?_)
      · wtm_at "xs"
        refine ⟨t, fm, rfl, M12.ta, M12.tb, fun H13 t1 s13 g13 b13 ef eu ek em => ?_⟩
        have al : ∀ c o, H12 c = some o → ¬ Mu t1 c := fun c o e => em c (by rw [e]; exact fun z => by cases z)
        refine ⟨t1, .ref t.a, rfl, ⟨M12.s.trans s13, g13, b13, ef.trans M12.tf, Xk.st_same M12.fo s13, s13 _ _ M12.rw_, by rw [ek]; exact M12.rk.same s13, s13 _ _ M12.wo, fun u hu => (M12.vs u hu).same s13, by rw [eu]; exact M12.uq_, M12.ub, by rw [eu]; exact M12.nn, fun c hc => ?_, al _ _ M12.rw_, al _ _ M12.wo, M12.fw, M12.rww⟩, s13 _ _ hb12, fbx, al _ _ hb12, nrb, nwb, .inr ⟨t, kr, kw, xs, us, rfl, M12.tf, M12.ta.same s13, M12.tb, fun c m z => ?_, s13 _ _ hkn12, ?_, s13 _ _ hkr12, ?_, M12.rk.same s13, s13 _ _ hkw12, ?_, fun u hu => (M12.vs u hu).same s13, M12.uq_⟩⟩
        · cases e : H c with
          | none => exact absurd e hc
          | some o => exact al _ _ (M12.s _ _ e)
        · rcases z with rfl | rfl | z
          · exact mbx m
          · exact M12.mw m
          · exact em c (M12.ta.mu m) z
        · rintro (z | z | z)
          · exact nknb z
          · exact nknw z
          · exact al _ _ hkn12 z
        · rintro (z | z | z)
          · exact nkrb z
          · exact nkrw z
          · exact al _ _ hkr12 z
        · rintro (z | z | z)
          · exact nkwb z
          · exact nkww z
          · exact al _ _ hkw12 z
      · wtm_at "xs"
        exact ⟨t, .non, rfl, M12, hb12, fbx, mbx, nrb, nwb, .inl rfl⟩
    clear M12 hb12 hkr12 hkw12 o12 hkn12 mkn mkw mkr mbx nkwb nkww nkrb nkrw nknb nknw nrb nwb hkl
    rintro σ' H13 ⟨t1, y, rfl, B13⟩
    have r13 := B13.M.rw_
    have hxl1 := PkAll_len B13.M.rk
    have hkl1 := B13.M.tb.k
    wtm_at "xs"
    intro li H14 hli s14 hli14
    have B14 := B13.same s14
    have nlb : li ≠ bx := (Xk.ne_new hli B13.hb).symm
    clear B13 r13 hli s14
    wtm_at "xs"
    refine ⟨bx, 5, n, rfl, B14.hb, by decide, by decide, fun e1 e2 => ?_⟩
    obtain ⟨B15, t15⟩ := B14.tk (n / 5)
    have hli15 : upd H14 bx (.lst [.int (n / 5)]) li = some (.lst [.int 1, .int 1, .int 1, .int 2, .int 0]) := (upd_ne nlb).trans hli14
    clear B14 t15 hli14 nlb
    generalize upd H14 bx (.lst [.int (n / 5)]) = H15 at *
    obtain ⟨j, hj⟩ := Int.eq_ofNat_of_zero_le e1
    have pk : ∃ d : Int, [V.int 1, .int 1, .int 1, .int 2, .int 0][j]? = some (.int d) ∧ 0 ≤ d ∧ d ≤ 2 := by
      rcases j with _ | _ | _ | _ | _ | j
      · exact ⟨1, rfl, by decide, by decide⟩
      · exact ⟨1, rfl, by decide, by decide⟩
      · exact ⟨1, rfl, by decide, by decide⟩
      · exact ⟨2, rfl, by decide, by decide⟩
      · exact ⟨0, rfl, by decide, by decide⟩
      · omega
    obtain ⟨dl, hdl, hd0, hd2⟩ := pk
    wtm_at "xs"
    refine Xk.x_ixL (Xk.sq_of hli15) (Xk.at_nat hj hdl) ?_
    wtm_at "xs"
    have hs1 : 1 ≤ max 1 (min 4 ((xs.length : Int) + dl)) := by omega
    have hs4 : max 1 (min 4 ((xs.length : Int) + dl)) ≤ 4 := by omega
    generalize max 1 (min 4 ((xs.length : Int) + dl)) = sl at *
    clear hdl hj hli15 e1 e2 hd0 hd2
    refine ⟨bx, 2, _, rfl, B15.hb, by decide, by decide, fun e1 e2 => ?_⟩
    obtain ⟨B16, t16⟩ := B15.tk (n / 5 / 2)
    clear B15 t16
    generalize upd H15 bx (.lst [.int (n / 5 / 2)]) = H16 at *
    wtm_at "xs"
    refine ⟨bx, 2, _, rfl, B16.hb, by decide, by decide, fun e3 e4 => ?_⟩
    obtain ⟨B17, t17⟩ := B16.tk (n / 5 / 2 / 2)
    clear B16 t17
    generalize upd H16 bx (.lst [.int (n / 5 / 2 / 2)]) = H17 at *
    wtm_at "xs"
    intro bl H18 hbl s18 hbl18
    have B18 := B17.same s18
    clear B17 s18 hbl
    have eb1 : 1 ≤ 1 + n / 5 % 2 ∧ 1 + n / 5 % 2 ≤ 2 := by omega
    have eb2 : 0 ≤ n / 5 / 2 % 2 ∧ n / 5 / 2 % 2 ≤ 1 := by omega
    generalize (1 + n / 5 % 2 : Int) = bt at *
    generalize (n / 5 / 2 % 2 : Int) = bi at *
    generalize (n / 5 / 2 / 2 : Int) = n18 at *
    clear e1 e2 e3 e4
    have r18 := B18.M.rw_
    wtm_at "xs"
    refine ⟨f, rw, fm, xs, t1.ks, _, rfl, B18.M.fo, Xk.sq_of r18, B18.M.rk, by omega, by omega, by omega, fun H19 M s19 hM => ?_⟩
    have hgM : Gm (memAt fm (t1.ks.take (min sl ((xs.length : Int) + 1) - 1).toNat)) := memAt_gm B18.M.tb.fm _ fun k hk => B18.M.tb.gk k (List.mem_of_mem_take hk)
    generalize memAt fm (t1.ks.take (min sl ((xs.length : Int) + 1) - 1).toNat) = mm at *
    have B19 := B18.same s19
    have hbl19 := s19 _ _ hbl18
    clear B18 s19 r18 hbl18
    wtm_at "xs"
    rw [List.length_map]
    refine ⟨bx, _, n18, rfl, B19.hb, by have := hgM.2.2; omega, by have := hgM.2.1; omega, fun e1 e2 => ?_⟩
    obtain ⟨B20, t20⟩ := B19.tk (n18 / (mm.length : Int))
    have hM20 := t20.st.t _ _ hM
    have hbl20 := t20.tp _ _ hbl19
    clear B19 t20 hM hbl19
    generalize upd H19 bx (.lst [.int (n18 / (mm.length : Int))]) = H20 at *
    obtain ⟨j2, hj2⟩ := Int.eq_ofNat_of_zero_le e1
    have hj2l : j2 < mm.length := by omega
    have hix : mm[j2]? = some mm[j2] := List.getElem?_eq_getElem hj2l
    generalize mm[j2] = ix0 at *
    wtm_at "xs"
    refine Xk.x_ixT hM20 (Xk.at_nat hj2 (v := V.int ix0) (by rw [List.getElem?_map, hix]; rfl)) ?_
    generalize (n18 / (mm.length : Int)) = n20 at *
    clear hix hj2l hj2 e1 e2 hM20 hgM
    wtm_at "xs"
    refine Xk.x_cut (fun σ' H' => ∃ (ix n' : Int), σ' = [some (.ref a), some (.ref bx), some (.ref f), some (.ref t1.a), some (.ref rw), some (.ref w), some (.int mo), some (.int (i : Int)), some y, some (.ref kn), some (.int sl), some (.ref bl), some (.ref M), some (.int ix), y14, y15, y16] ∧ Bn K T.C_Tally H H' t1 f rw w fm xs us i bx kn y n' ∧ H' bl = some (.tup [.int bt, .int bi])) ?_ ?_
    · wtm_at "xs"
      refine ⟨bx, 5, _, rfl, B20.hb, by decide, by decide, fun e1 e2 => ?_⟩
      obtain ⟨B21, t21⟩ := B20.tk (n20 / 5)
      have hbl21 := t21.tp _ _ hbl20
      generalize upd H20 bx (.lst [.int (n20 / 5)]) = H21 at *
      wtm_at "xs"
      refine Xk.x_itd (fun c => ?_) (fun c => ?_)
      · wtm_at "xs"
        refine ⟨bx, 4, _, rfl, B21.hb, by decide, by decide, fun e3 e4 => ?_⟩
        obtain ⟨B22, t22⟩ := B21.tk (n20 / 5 / 4)
        have hbl22 := t22.tp _ _ hbl21
        exact ⟨_, _, rfl, B22, hbl22⟩
      · wtm_at "xs"
        exact ⟨_, _, rfl, B21, hbl21⟩
    clear B20 hbl20
    rintro σ' H21 ⟨ix, n21, rfl, B21, hbl21⟩
    wtm_at "xs"
    refine ⟨bx, bl, sl, n21, bt, bi, rfl, B21.hb, Xk.st_of hbl21, fun H22 e k n22 b22 hb22 hpe hgk => ?_⟩
    obtain ⟨B22, t22⟩ := B21.but b22 hb22
    have hbl22 := t22.tp _ _ hbl21
    clear B21 hbl21 b22 hb22 t22
    have w22 := B22.M.wo
    wtm_at "xs"
    intro q1 H23 hq1 s23 hq23
    have B23 := B22.same s23
    have hbl23 := s23 _ _ hbl22
    have hpe23 := hpe.same s23
    have w23 := B23.M.wo
    clear B22 hbl22 hpe s23 hq1
    wtm_at "xs"
    have F24 : Fx K (fun c => c = w) H23 (upd H23 w (.lst ((us.map fun u => V.ref u.2.a) ++ [V.ref q1]))) := .mut w23 rfl
    have w24 : upd H23 w (.lst ((us.map fun u => V.ref u.2.a) ++ [V.ref q1])) w = some (.lst ((us.map fun u => V.ref u.2.a) ++ [V.ref q1])) := upd_same
    have s24 : Same H (upd H23 w (.lst ((us.map fun u => V.ref u.2.a) ++ [V.ref q1]))) := Xk.same_mut B23.M.s B23.M.fw
    generalize upd H23 w (.lst ((us.map fun u => V.ref u.2.a) ++ [V.ref q1])) = H24 at *
    obtain ⟨M23, hb23, fb, mb, nr, nw, L23⟩ := B23
    have hq24 := F24.tu.st.t _ _ (Xk.st_of (K := K) hq23)
    have hbl24 := F24.tu.tp _ _ hbl23
    have hpe24 := hpe23.st F24.tu.st
    have ta24 := M23.ta.fx F24 fun c m z => M23.mw (z ▸ m)
    have rw24 := F24.at_ _ _ M23.rw_ M23.rww
    have rk24 := M23.rk.st F24.tu.st
    have f24 := F24.tu.st.t _ _ M23.fo
    have L24 := L23.fx F24 fun c z => .inr (.inl z)
    have w24' : H24 w = some (.lst ((us ++ [(sl, (⟨q1, bl, ix, bt, bi, e, k⟩ : Vt))]).map fun u => V.ref u.2.a)) := by
      rw [List.map_append]
      exact w24
    have vs24 : ∀ u ∈ us ++ [(sl, (⟨q1, bl, ix, bt, bi, e, k⟩ : Vt))], V4At K H24 u := fun u hu => by
      rcases List.mem_append.mp hu with hu | hu
      · exact (M23.vs u hu).tu F24.tu
      · rw [List.mem_singleton.mp hu]
        exact ⟨hq24, hbl24, hpe24⟩
    have ub24 : ∀ u ∈ us ++ [(sl, (⟨q1, bl, ix, bt, bi, e, k⟩ : Vt))], 1 ≤ u.2.t ∧ u.2.t ≤ 2 ∧ 0 ≤ u.2.x ∧ u.2.x ≤ 1 := fun u hu => by
      rcases List.mem_append.mp hu with hu | hu
      · exact M23.ub u hu
      · rw [List.mem_singleton.mp hu]
        exact ⟨eb1.1, eb1.2, eb2.1, eb2.2⟩
    have ug24 : ∀ u ∈ us ++ [(sl, (⟨q1, bl, ix, bt, bi, e, k⟩ : Vt))], Gk u.2.k ∧ u.1 ≤ 4 := fun u hu => by
      rcases List.mem_append.mp hu with hu | hu
      · have z : uq u ∈ t1.us.map uq := M23.uq_ ▸ List.mem_map_of_mem hu
        obtain ⟨u', h1, h2⟩ := List.mem_map.mp z
        have g := M23.tb.g u' h1
        have e1 : u'.1 = u.1 := congrArg (fun z : Int × (Int × Int × Int × En) => z.1) h2
        have e2 : u'.2.k = u.2.k := congrArg (fun z : Int × (Int × Int × Int × En) => z.2.2.2.2) h2
        rw [← e1, ← e2]
        exact g
      · rw [List.mem_singleton.mp hu]
        exact ⟨hgk, hs4⟩
    have ul24 : (us ++ [(sl, (⟨q1, bl, ix, bt, bi, e, k⟩ : Vt))]).length ≤ 45 := by
      have z := congrArg List.length M23.uq_
      rw [List.length_map, List.length_map] at z
      have := M23.nn
      rw [List.length_append, z]
      simp only [List.length_cons, List.length_nil]
      omega
    have uq24 : (us ++ [(sl, (⟨q1, bl, ix, bt, bi, e, k⟩ : Vt))]).map uq = t1.us.map uq ++ [(sl, (ix, bt, bi, k))] := by
      rw [List.map_append, M23.uq_]
      rfl
    have hln : t1.us.length ≤ 44 := by
      have := M23.nn
      omega
    generalize us ++ [(sl, (⟨q1, bl, ix, bt, bi, e, k⟩ : Vt))] = us2 at *
    have tb := M23.tb
    have tf := M23.tf
    have mr := M23.mr
    have mw := M23.mw
    have fw := M23.fw
    have rww := M23.rww
    have mu := M23.mu
    have nn := M23.nn
    clear M23 L23 hb23 hq23 hbl23 hpe23 w23 F24 hq24 w24
    wtm_at "xs"
    intro D0 H25 hD0 s25 hD25
    have fD0 := hD0
    wtm_at "xs"
    refine Xk.x_cut (fun σ' H' => ∃ (D : Addr) (ds : List En) (ys : List V), σ' = [some (.ref a), some (.ref bx), some (.ref f), some (.ref t1.a), some (.ref rw), some (.ref w), some (.int mo), some (.int (i : Int)), some y, some (.ref kn), some (.int sl), some (.ref bl), some (.ref M), some (.int ix), some e, some (.ref D), y16] ∧ Same H24 H' ∧ Xk.Fr D H24 ∧ H' D = some (.lst ys) ∧ Xk.PkAll K H' 4 ys (ds.map ent) ∧
      ((sl = (t1.ks.length : Int) + 1 ∧ Sg fm us2 t1.ks ds ∧ Dn fm us2 (t1.ks ++ ds)) ∨ (sl ≠ (t1.ks.length : Int) + 1 ∧ ds = []))) ?_ ?_
    · have r25 := s25 _ _ rw24
      wtm_at "xs"
      rw [hxl1]
      refine Xk.x_itd (fun c => ?_) (fun c => ?_)
      · have c' : sl = (t1.ks.length : Int) + 1 := by injection c
        wtm_at "xs"
        refine ⟨f, rw, w, fm, xs, t1.ks, us2, rfl, Xk.st_same f24 s25, tb.fm, r25, rk24.same s25, tb.k, tb.gk, s25 _ _ w24', fun u hu => (vs24 u hu).same s25, ul24, ug24, ub24, fun H26 D ys ds s26 fD hD hpD hsg hdn => ?_⟩
        exact ⟨D, ds, ys, rfl, s25.trans s26, Xk.free_back fD s25, hD, hpD, .inl ⟨c', hsg, hdn⟩⟩
      · wtm_at "xs"
        exact ⟨D0, [], [], rfl, s25, fD0, hD25, Xk.pk_nil, .inr ⟨fun z => c (by rw [z]), rfl⟩⟩
    clear hD0 fD0 s25 hD25
    rintro σ' H26 ⟨D, ds, ys, rfl, s26, fD, hD26, hpD26, hor⟩
    have mD : ¬ Mu t1 D := ta24.new fD
    have ta26 := ta24.same s26
    have o26 := ta26.o
    wtm_at "xs"
    have hf26 : SqT K H26 t1.f (fm.map V.int) := by
      rw [tf]
      exact Xk.st_same f24 s26
    refine ⟨t1, fm, sl, ix, bl, e, bt, bi, k, rfl, ta26, hf26, tb, hln, s26 _ _ hbl24, hpe24.same s26, hgk, hs4, fun H27 p ys2 ds2 t2 fx27 ta27 tb27 ea ef euq elen eks mono hp27 fp27 pk27 hor2 => ?_⟩
    have euq2 : us2.map uq = t2.us.map uq := uq24.trans euq.symm
    have eds : ds2 = ds := by
      rcases hor with ⟨h1, h2, h3⟩ | ⟨h1, h2⟩
      · rcases hor2 with ⟨g1, g2, g3⟩ | ⟨g1, g2⟩
        · exact sg_uniq (g2.map euq2.symm) h2 (g3.map euq2.symm) h3
        · exact absurd h1 g1
      · rcases hor2 with ⟨g1, g2, g3⟩ | ⟨g1, g2⟩
        · exact absurd g1 h1
        · rw [g2, h2]
    subst eds
    have rw27 := fx27.at_ _ _ (s26 _ _ rw24) mr
    have rk27 := (rk24.same s26).st fx27.tu.st
    have D27 := fx27.at_ _ _ hD26 mD
    have pkD27 := hpD26.st fx27.tu.st
    have w27 := fx27.at_ _ _ (s26 _ _ w24') mw
    have vs27 : ∀ u ∈ us2, V4At K H27 u := fun u hu => ((vs24 u hu).same s26).tu fx27.tu
    have f27 := fx27.tu.st.t _ _ (Xk.st_same f24 s26)
    have L27 := (L24.same s26).fx fx27 fun c z => .inr (.inr z)
    have al26 : ∀ c, H c ≠ none → H26 c ≠ none := fun c hc => by
      cases z : H c with
      | none => exact absurd z hc
      | some o =>
        rw [s26 _ _ (s24 _ _ z)]
        exact fun z => by cases z
    have s27 : Same H H27 := fun c o h => fx27.at_ c o (s26 _ _ (s24 _ _ h)) (mu c (by rw [h]; exact fun z => by cases z))
    have mw2 : ¬ Mu t2 w := fun z => mw (mono w (by rw [s26 _ _ w24']; exact fun z => by cases z) z)
    have mu2 : ∀ c, H c ≠ none → ¬ Mu t2 c := fun c hc z => mu c hc (mono c (al26 c hc) z)
    have yl27 := PkAll_len pkD27
    have dl27 : ds2.length ≤ 4 := by
      have := tb27.k
      rw [eks, List.length_append] at this
      omega
    clear ta26 o26 hD26 hpD26 hor hor2 fD mD s26 hf26 rw24 rk24 w24' vs24 f24 L24 s24 ta24 hbl24 hpe24 fx27
    rw [← ea]
    wtm_at "xs"
    refine Xk.x_cat rw27 D27 (by omega) fun rw2 H28 hrw2 s28 h28 => ?_
    have ta28 := ta27.same s28
    have mr2 : ¬ Mu t2 rw2 := ta27.new hrw2
    have rww2 : rw2 ≠ w := (Xk.ne_new hrw2 w27).symm
    have hp28 := s28 _ _ hp27
    have D28 := s28 _ _ D27
    have rk28 : Xk.PkAll K H28 4 (xs ++ ys) (t2.ks.map ent) := by
      rw [eks, List.map_append]
      exact pk_app (pkD27.same s28) (rk27.same s28)
    have L28 := L27.same s28
    have w28 := s28 _ _ w27
    have vs28 : ∀ u ∈ us2, V4At K H28 u := fun u hu => (vs27 u hu).same s28
    have f28 := Xk.st_same f27 s28
    have tf2 : t2.f = f := ef.trans tf
    have f28' : SqT K H28 t2.f (fm.map V.int) := by
      rw [tf2]
      exact f28
    wtm_at "xs"
    refine Xk.x_cut (fun σ' H' => σ' = [some (.ref a), some (.ref bx), some (.ref f), some (.ref t2.a), some (.ref rw2), some (.ref w), some (.int mo), some (.int (i : Int)), some y, some (.ref kn), some (.int sl), some (.ref bl), some (.ref M), some (.int ix), some e, some (.ref D), some (.ref p)] ∧ Same H28 H') ?_ ?_
    · wtm_at "xs"
      refine Xk.x_nePkL (n := 4) (m := 4) (Xk.sq_of hp28) (Xk.sq_of D28) (pk27.same s28) (pkD27.same s28) ?_
      wtm_at "xs"
      refine ⟨t2, fm, rw2, w, xs ++ ys, us2, by rw [tf2], ta28, tb27, f28', h28, rk28, w28, vs28, euq2, fun H29 s29 => ?_⟩
      wtm_at "xs"
      exact ⟨rfl, s29⟩
    rintro σ' H29 ⟨rfl, s29⟩
    have M29 : Mn K T.C_Tally H H29 t2 f rw2 w fm (xs ++ ys) us2 (i + 1) := ⟨s27.trans (s28.trans s29), ta28.same s29, tb27, tf2, Xk.st_same f28 s29, s29 _ _ h28, rk28.same s29, s29 _ _ w28, fun u hu => (vs28 u hu).same s29, euq2, ub24, by rw [elen]; omega, mu2, mr2, mw2, fw, rww2⟩
    have L29 := L28.same s29
    wtm_at "xs"
    rcases L29 with rfl | ⟨tl, kr, kw, xs0, us0, rfl, l2, l3, l4, l5, l6, l7, l8, l9, l10, l11, l12, l13, l14⟩
    · wtm_at "xs"
      exact ⟨bx, rw2, w, t2, _, us2, _, _, _, _, _, _, _, _, _, _, rfl, M29⟩
    · wtm_at "xs"
      have f29 : SqT K H29 tl.f (fm.map V.int) := by
        rw [l2]
        exact M29.fo
      refine ⟨tl, fm, kr, kw, xs0, us0, by rw [l2], l3, l4, f29, l8, l10, l11, l13, l14, fun H30 s30 => ?_⟩
      wtm_at "xs"
      exact ⟨bx, rw2, w, t2, _, us2, _, _, _, _, _, _, _, _, _, _, rfl, M29.same s30⟩
  · rintro σ' H8 ⟨bx0, rw, w, t, xs, us, y7, y8, y9, y10, y11, y12, y13, y14, y15, y16, rfl, M8⟩
    wtm_at "xs"
    exact q H8
end
theorem all_mk {l : PySem.W.OpenLaw} {w : World} {K : PySem.W.Frag} {h : Heap} {mg : Str → Option Value} {fa C_Tally f_members_of_slot f_more_than_half f_choice_of f_grounds_of f__by_ballot f_Tally___init__ f_Tally_add f_Tally__count f_Tally__next_choice f_Tally_members_of f_Tally_votes_of f_Tally_fork f__law_row f__law_take f__law_members f__law_entry f__law_members_at f__law_choice f__law_added f__law_agrees f_law : Addr} (X : K.In h) (G : h.Ns mainGlobals mg) (hfa : mg "law" = some (.ref fa))
    {od_members_of_slot an_members_of_slot od_more_than_half an_more_than_half od_choice_of an_choice_of od_grounds_of an_grounds_of od__by_ballot an__by_ballot od_Tally___init__ an_Tally___init__ od_Tally_add an_Tally_add od_Tally__count an_Tally__count od_Tally__next_choice an_Tally__next_choice od_Tally_members_of an_Tally_members_of od_Tally_votes_of an_Tally_votes_of od_Tally_fork an_Tally_fork od__law_row an__law_row od__law_take an__law_take od__law_members an__law_members od__law_entry an__law_entry od__law_members_at an__law_members_at od__law_choice an__law_choice od__law_added an__law_added od__law_agrees an__law_agrees od_law an_law : Option Addr} {sl_members_of_slot sl_more_than_half sl_choice_of sl_grounds_of sl__by_ballot sl_Tally___init__ sl_Tally_add sl_Tally__count sl_Tally__next_choice sl_Tally_members_of sl_Tally_votes_of sl_Tally_fork sl__law_row sl__law_take sl__law_members sl__law_entry sl__law_members_at sl__law_choice sl__law_added sl__law_agrees sl_law : Array (Option Value)} {oc_members_of_slot kV_members_of_slot dc_members_of_slot pm_members_of_slot cd_members_of_slot ct_members_of_slot oc_more_than_half kV_more_than_half dc_more_than_half pm_more_than_half cd_more_than_half ct_more_than_half oc_choice_of kV_choice_of dc_choice_of pm_choice_of cd_choice_of ct_choice_of oc_grounds_of kV_grounds_of dc_grounds_of pm_grounds_of cd_grounds_of ct_grounds_of oc__by_ballot kV__by_ballot dc__by_ballot pm__by_ballot cd__by_ballot ct__by_ballot oc_Tally___init__ kV_Tally___init__ dc_Tally___init__ pm_Tally___init__ cd_Tally___init__ ct_Tally___init__ oc_Tally_add kV_Tally_add dc_Tally_add pm_Tally_add cd_Tally_add ct_Tally_add oc_Tally__count kV_Tally__count dc_Tally__count pm_Tally__count cd_Tally__count ct_Tally__count oc_Tally__next_choice kV_Tally__next_choice dc_Tally__next_choice pm_Tally__next_choice cd_Tally__next_choice ct_Tally__next_choice oc_Tally_members_of kV_Tally_members_of dc_Tally_members_of pm_Tally_members_of cd_Tally_members_of ct_Tally_members_of oc_Tally_votes_of kV_Tally_votes_of dc_Tally_votes_of pm_Tally_votes_of cd_Tally_votes_of ct_Tally_votes_of oc_Tally_fork kV_Tally_fork dc_Tally_fork pm_Tally_fork cd_Tally_fork ct_Tally_fork oc__law_row kV__law_row dc__law_row pm__law_row cd__law_row ct__law_row oc__law_take kV__law_take dc__law_take pm__law_take cd__law_take ct__law_take oc__law_members kV__law_members dc__law_members pm__law_members cd__law_members ct__law_members oc__law_entry kV__law_entry dc__law_entry pm__law_entry cd__law_entry ct__law_entry oc__law_members_at kV__law_members_at dc__law_members_at pm__law_members_at cd__law_members_at ct__law_members_at oc__law_choice kV__law_choice dc__law_choice pm__law_choice cd__law_choice ct__law_choice oc__law_added kV__law_added dc__law_added pm__law_added cd__law_added ct__law_added oc__law_agrees kV__law_agrees dc__law_agrees pm__law_agrees cd__law_agrees ct__law_agrees oc_law kV_law dc_law pm_law cd_law ct_law : Value} {t_MEMBERS : Tok}
    (aC_Tally : PySem.W.nsIn K mainGlobals "Tally" = some (some (.ref C_Tally)))
    (pg_Tally : PySem.W.plainGet K C_Tally Str.empty = true)
    (hd_Tally : PySem.W.hasDictIn K C_Tally = true)
    (po_Tally : PySem.W.plainOver K C_Tally = true)
    (sa_Tally : PySem.W.findIn K (.ref C_Tally) "__setattr__" = some (some (.builtin "object.__setattr__")))
    (mk_Tally : PySem.W.makesIn K C_Tally = true)
    (kc_Tally : PySem.W.keepIn K (.ref C_Tally) = true)
    (na_Tally_first_members : PySem.W.findIn K (.ref C_Tally) "first_members" = some none)
    (na_Tally_row : PySem.W.findIn K (.ref C_Tally) "row" = some none)
    (na_Tally_votes : PySem.W.findIn K (.ref C_Tally) "votes" = some none)
    (na_Tally__by_slot : PySem.W.findIn K (.ref C_Tally) "_by_slot" = some none)
    (a_members_of_slot : PySem.W.nsIn K mainGlobals "members_of_slot" = some (some (.ref f_members_of_slot)))
    (l_members_of_slot : K.lookup f_members_of_slot = some ⟨oc_members_of_slot, od_members_of_slot, .func (PySem.W.fnOf "members_of_slot" "members_of_slot" (defArgs s_members_of_slot) (defBody s_members_of_slot) (defScope s_members_of_slot) .none kV_members_of_slot dc_members_of_slot pm_members_of_slot an_members_of_slot cd_members_of_slot ct_members_of_slot), sl_members_of_slot⟩)
    (c_members_of_slot : PySem.W.codeIn K cd_members_of_slot "members_of_slot" = true)
    (k_members_of_slot : PySem.W.keepIn K (.ref f_members_of_slot) = true)
    (a_more_than_half : PySem.W.nsIn K mainGlobals "more_than_half" = some (some (.ref f_more_than_half)))
    (l_more_than_half : K.lookup f_more_than_half = some ⟨oc_more_than_half, od_more_than_half, .func (PySem.W.fnOf "more_than_half" "more_than_half" (defArgs s_more_than_half) (defBody s_more_than_half) (defScope s_more_than_half) .none kV_more_than_half dc_more_than_half pm_more_than_half an_more_than_half cd_more_than_half ct_more_than_half), sl_more_than_half⟩)
    (c_more_than_half : PySem.W.codeIn K cd_more_than_half "more_than_half" = true)
    (k_more_than_half : PySem.W.keepIn K (.ref f_more_than_half) = true)
    (a_choice_of : PySem.W.nsIn K mainGlobals "choice_of" = some (some (.ref f_choice_of)))
    (l_choice_of : K.lookup f_choice_of = some ⟨oc_choice_of, od_choice_of, .func (PySem.W.fnOf "choice_of" "choice_of" (defArgs s_choice_of) (defBody s_choice_of) (defScope s_choice_of) .none kV_choice_of dc_choice_of pm_choice_of an_choice_of cd_choice_of ct_choice_of), sl_choice_of⟩)
    (c_choice_of : PySem.W.codeIn K cd_choice_of "choice_of" = true)
    (k_choice_of : PySem.W.keepIn K (.ref f_choice_of) = true)
    (a_grounds_of : PySem.W.nsIn K mainGlobals "grounds_of" = some (some (.ref f_grounds_of)))
    (l_grounds_of : K.lookup f_grounds_of = some ⟨oc_grounds_of, od_grounds_of, .func (PySem.W.fnOf "grounds_of" "grounds_of" (defArgs s_grounds_of) (defBody s_grounds_of) (defScope s_grounds_of) .none kV_grounds_of dc_grounds_of pm_grounds_of an_grounds_of cd_grounds_of ct_grounds_of), sl_grounds_of⟩)
    (c_grounds_of : PySem.W.codeIn K cd_grounds_of "grounds_of" = true)
    (k_grounds_of : PySem.W.keepIn K (.ref f_grounds_of) = true)
    (a__by_ballot : PySem.W.nsIn K mainGlobals "_by_ballot" = some (some (.ref f__by_ballot)))
    (l__by_ballot : K.lookup f__by_ballot = some ⟨oc__by_ballot, od__by_ballot, .func (PySem.W.fnOf "_by_ballot" "_by_ballot" (defArgs s__by_ballot) (defBody s__by_ballot) (defScope s__by_ballot) .none kV__by_ballot dc__by_ballot pm__by_ballot an__by_ballot cd__by_ballot ct__by_ballot), sl__by_ballot⟩)
    (c__by_ballot : PySem.W.codeIn K cd__by_ballot "_by_ballot" = true)
    (k__by_ballot : PySem.W.keepIn K (.ref f__by_ballot) = true)
    (a_Tally___init__ : PySem.W.findIn K (.ref C_Tally) "__init__" = some (some (.ref f_Tally___init__)))
    (i_Tally___init__ : PySem.W.isFn K (.ref f_Tally___init__) = true)
    (l_Tally___init__ : K.lookup f_Tally___init__ = some ⟨oc_Tally___init__, od_Tally___init__, .func (PySem.W.fnOf "__init__" "Tally.__init__" (defArgs s_Tally___init__) (defBody s_Tally___init__) (defScope s_Tally___init__) .none kV_Tally___init__ dc_Tally___init__ pm_Tally___init__ an_Tally___init__ cd_Tally___init__ ct_Tally___init__), sl_Tally___init__⟩)
    (c_Tally___init__ : PySem.W.codeIn K cd_Tally___init__ "Tally.__init__" = true)
    (k_Tally___init__ : PySem.W.keepIn K (.ref f_Tally___init__) = true)
    (a_Tally_add : PySem.W.findIn K (.ref C_Tally) "add" = some (some (.ref f_Tally_add)))
    (i_Tally_add : PySem.W.isFn K (.ref f_Tally_add) = true)
    (l_Tally_add : K.lookup f_Tally_add = some ⟨oc_Tally_add, od_Tally_add, .func (PySem.W.fnOf "add" "Tally.add" (defArgs s_Tally_add) (defBody s_Tally_add) (defScope s_Tally_add) .none kV_Tally_add dc_Tally_add pm_Tally_add an_Tally_add cd_Tally_add ct_Tally_add), sl_Tally_add⟩)
    (c_Tally_add : PySem.W.codeIn K cd_Tally_add "Tally.add" = true)
    (k_Tally_add : PySem.W.keepIn K (.ref f_Tally_add) = true)
    (a_Tally__count : PySem.W.findIn K (.ref C_Tally) "_count" = some (some (.ref f_Tally__count)))
    (i_Tally__count : PySem.W.isFn K (.ref f_Tally__count) = true)
    (l_Tally__count : K.lookup f_Tally__count = some ⟨oc_Tally__count, od_Tally__count, .func (PySem.W.fnOf "_count" "Tally._count" (defArgs s_Tally__count) (defBody s_Tally__count) (defScope s_Tally__count) .none kV_Tally__count dc_Tally__count pm_Tally__count an_Tally__count cd_Tally__count ct_Tally__count), sl_Tally__count⟩)
    (c_Tally__count : PySem.W.codeIn K cd_Tally__count "Tally._count" = true)
    (k_Tally__count : PySem.W.keepIn K (.ref f_Tally__count) = true)
    (a_Tally__next_choice : PySem.W.findIn K (.ref C_Tally) "_next_choice" = some (some (.ref f_Tally__next_choice)))
    (i_Tally__next_choice : PySem.W.isFn K (.ref f_Tally__next_choice) = true)
    (l_Tally__next_choice : K.lookup f_Tally__next_choice = some ⟨oc_Tally__next_choice, od_Tally__next_choice, .func (PySem.W.fnOf "_next_choice" "Tally._next_choice" (defArgs s_Tally__next_choice) (defBody s_Tally__next_choice) (defScope s_Tally__next_choice) .none kV_Tally__next_choice dc_Tally__next_choice pm_Tally__next_choice an_Tally__next_choice cd_Tally__next_choice ct_Tally__next_choice), sl_Tally__next_choice⟩)
    (c_Tally__next_choice : PySem.W.codeIn K cd_Tally__next_choice "Tally._next_choice" = true)
    (k_Tally__next_choice : PySem.W.keepIn K (.ref f_Tally__next_choice) = true)
    (a_Tally_members_of : PySem.W.findIn K (.ref C_Tally) "members_of" = some (some (.ref f_Tally_members_of)))
    (i_Tally_members_of : PySem.W.isFn K (.ref f_Tally_members_of) = true)
    (l_Tally_members_of : K.lookup f_Tally_members_of = some ⟨oc_Tally_members_of, od_Tally_members_of, .func (PySem.W.fnOf "members_of" "Tally.members_of" (defArgs s_Tally_members_of) (defBody s_Tally_members_of) (defScope s_Tally_members_of) .none kV_Tally_members_of dc_Tally_members_of pm_Tally_members_of an_Tally_members_of cd_Tally_members_of ct_Tally_members_of), sl_Tally_members_of⟩)
    (c_Tally_members_of : PySem.W.codeIn K cd_Tally_members_of "Tally.members_of" = true)
    (k_Tally_members_of : PySem.W.keepIn K (.ref f_Tally_members_of) = true)
    (a_Tally_votes_of : PySem.W.findIn K (.ref C_Tally) "votes_of" = some (some (.ref f_Tally_votes_of)))
    (i_Tally_votes_of : PySem.W.isFn K (.ref f_Tally_votes_of) = true)
    (l_Tally_votes_of : K.lookup f_Tally_votes_of = some ⟨oc_Tally_votes_of, od_Tally_votes_of, .func (PySem.W.fnOf "votes_of" "Tally.votes_of" (defArgs s_Tally_votes_of) (defBody s_Tally_votes_of) (defScope s_Tally_votes_of) .none kV_Tally_votes_of dc_Tally_votes_of pm_Tally_votes_of an_Tally_votes_of cd_Tally_votes_of ct_Tally_votes_of), sl_Tally_votes_of⟩)
    (c_Tally_votes_of : PySem.W.codeIn K cd_Tally_votes_of "Tally.votes_of" = true)
    (k_Tally_votes_of : PySem.W.keepIn K (.ref f_Tally_votes_of) = true)
    (a_Tally_fork : PySem.W.findIn K (.ref C_Tally) "fork" = some (some (.ref f_Tally_fork)))
    (i_Tally_fork : PySem.W.isFn K (.ref f_Tally_fork) = true)
    (l_Tally_fork : K.lookup f_Tally_fork = some ⟨oc_Tally_fork, od_Tally_fork, .func (PySem.W.fnOf "fork" "Tally.fork" (defArgs s_Tally_fork) (defBody s_Tally_fork) (defScope s_Tally_fork) .none kV_Tally_fork dc_Tally_fork pm_Tally_fork an_Tally_fork cd_Tally_fork ct_Tally_fork), sl_Tally_fork⟩)
    (c_Tally_fork : PySem.W.codeIn K cd_Tally_fork "Tally.fork" = true)
    (k_Tally_fork : PySem.W.keepIn K (.ref f_Tally_fork) = true)
    (a__law_row : PySem.W.nsIn K mainGlobals "_law_row" = some (some (.ref f__law_row)))
    (l__law_row : K.lookup f__law_row = some ⟨oc__law_row, od__law_row, .func (PySem.W.fnOf "_law_row" "_law_row" (defArgs s__law_row) (defBody s__law_row) (defScope s__law_row) .none kV__law_row dc__law_row pm__law_row an__law_row cd__law_row ct__law_row), sl__law_row⟩)
    (c__law_row : PySem.W.codeIn K cd__law_row "_law_row" = true)
    (k__law_row : PySem.W.keepIn K (.ref f__law_row) = true)
    (a__law_take : PySem.W.nsIn K mainGlobals "_law_take" = some (some (.ref f__law_take)))
    (l__law_take : K.lookup f__law_take = some ⟨oc__law_take, od__law_take, .func (PySem.W.fnOf "_law_take" "_law_take" (defArgs s__law_take) (defBody s__law_take) (defScope s__law_take) .none kV__law_take dc__law_take pm__law_take an__law_take cd__law_take ct__law_take), sl__law_take⟩)
    (c__law_take : PySem.W.codeIn K cd__law_take "_law_take" = true)
    (k__law_take : PySem.W.keepIn K (.ref f__law_take) = true)
    (a__law_members : PySem.W.nsIn K mainGlobals "_law_members" = some (some (.ref f__law_members)))
    (l__law_members : K.lookup f__law_members = some ⟨oc__law_members, od__law_members, .func (PySem.W.fnOf "_law_members" "_law_members" (defArgs s__law_members) (defBody s__law_members) (defScope s__law_members) .none kV__law_members dc__law_members pm__law_members an__law_members cd__law_members ct__law_members), sl__law_members⟩)
    (c__law_members : PySem.W.codeIn K cd__law_members "_law_members" = true)
    (k__law_members : PySem.W.keepIn K (.ref f__law_members) = true)
    (a__law_entry : PySem.W.nsIn K mainGlobals "_law_entry" = some (some (.ref f__law_entry)))
    (l__law_entry : K.lookup f__law_entry = some ⟨oc__law_entry, od__law_entry, .func (PySem.W.fnOf "_law_entry" "_law_entry" (defArgs s__law_entry) (defBody s__law_entry) (defScope s__law_entry) .none kV__law_entry dc__law_entry pm__law_entry an__law_entry cd__law_entry ct__law_entry), sl__law_entry⟩)
    (c__law_entry : PySem.W.codeIn K cd__law_entry "_law_entry" = true)
    (k__law_entry : PySem.W.keepIn K (.ref f__law_entry) = true)
    (a__law_members_at : PySem.W.nsIn K mainGlobals "_law_members_at" = some (some (.ref f__law_members_at)))
    (l__law_members_at : K.lookup f__law_members_at = some ⟨oc__law_members_at, od__law_members_at, .func (PySem.W.fnOf "_law_members_at" "_law_members_at" (defArgs s__law_members_at) (defBody s__law_members_at) (defScope s__law_members_at) .none kV__law_members_at dc__law_members_at pm__law_members_at an__law_members_at cd__law_members_at ct__law_members_at), sl__law_members_at⟩)
    (c__law_members_at : PySem.W.codeIn K cd__law_members_at "_law_members_at" = true)
    (k__law_members_at : PySem.W.keepIn K (.ref f__law_members_at) = true)
    (a__law_choice : PySem.W.nsIn K mainGlobals "_law_choice" = some (some (.ref f__law_choice)))
    (l__law_choice : K.lookup f__law_choice = some ⟨oc__law_choice, od__law_choice, .func (PySem.W.fnOf "_law_choice" "_law_choice" (defArgs s__law_choice) (defBody s__law_choice) (defScope s__law_choice) .none kV__law_choice dc__law_choice pm__law_choice an__law_choice cd__law_choice ct__law_choice), sl__law_choice⟩)
    (c__law_choice : PySem.W.codeIn K cd__law_choice "_law_choice" = true)
    (k__law_choice : PySem.W.keepIn K (.ref f__law_choice) = true)
    (a__law_added : PySem.W.nsIn K mainGlobals "_law_added" = some (some (.ref f__law_added)))
    (l__law_added : K.lookup f__law_added = some ⟨oc__law_added, od__law_added, .func (PySem.W.fnOf "_law_added" "_law_added" (defArgs s__law_added) (defBody s__law_added) (defScope s__law_added) .none kV__law_added dc__law_added pm__law_added an__law_added cd__law_added ct__law_added), sl__law_added⟩)
    (c__law_added : PySem.W.codeIn K cd__law_added "_law_added" = true)
    (k__law_added : PySem.W.keepIn K (.ref f__law_added) = true)
    (a__law_agrees : PySem.W.nsIn K mainGlobals "_law_agrees" = some (some (.ref f__law_agrees)))
    (l__law_agrees : K.lookup f__law_agrees = some ⟨oc__law_agrees, od__law_agrees, .func (PySem.W.fnOf "_law_agrees" "_law_agrees" (defArgs s__law_agrees) (defBody s__law_agrees) (defScope s__law_agrees) .none kV__law_agrees dc__law_agrees pm__law_agrees an__law_agrees cd__law_agrees ct__law_agrees), sl__law_agrees⟩)
    (c__law_agrees : PySem.W.codeIn K cd__law_agrees "_law_agrees" = true)
    (k__law_agrees : PySem.W.keepIn K (.ref f__law_agrees) = true)
    (a_law : PySem.W.nsIn K mainGlobals "law" = some (some (.ref f_law)))
    (l_law : K.lookup f_law = some ⟨oc_law, od_law, .func (PySem.W.fnOf "law" "law" (defArgs s_law) (defBody s_law) (defScope s_law) .none kV_law dc_law pm_law an_law cd_law ct_law), sl_law⟩)
    (c_law : PySem.W.codeIn K cd_law "law" = true)
    (k_law : PySem.W.keepIn K (.ref f_law) = true)
    (z_MEMBERS : PySem.W.nsIn K mainGlobals "MEMBERS" = some (some (.str "members" t_MEMBERS)))
    (z_int : PySem.W.nsIn K mainGlobals "int" = some none)
    (z_isinstance : PySem.W.nsIn K mainGlobals "isinstance" = some none)
    (z_len : PySem.W.nsIn K mainGlobals "len" = some none)
    (z_list : PySem.W.nsIn K mainGlobals "list" = some none)
    (z_max : PySem.W.nsIn K mainGlobals "max" = some none)
    (z_min : PySem.W.nsIn K mainGlobals "min" = some none)
    (z_range : PySem.W.nsIn K mainGlobals "range" = some none)
    (z_reversed : PySem.W.nsIn K mainGlobals "reversed" = some none)
    (z_set : PySem.W.nsIn K mainGlobals "set" = some none)
    (z_sorted : PySem.W.nsIn K mainGlobals "sorted" = some none)
    (z_tuple : PySem.W.nsIn K mainGlobals "tuple" = some none)
    : ∃ fd : FuncData, (∀ (s : Shared) (v : Value), BindsTo s fd ⟨[v], []⟩ [("script", v)]) ∧ ∀ base : Heap, K.In base → base.Ns mainGlobals mg → FnOk l.prog w K mg base CX0 7 fa fd ["script"] (sp_law K) := by
  have e := hfa.symm.trans (PySem.W.mg_of X G a_law)
  cases e
  have F_members_of_slot := fun_mk (st := s_members_of_slot) l_members_of_slot c_members_of_slot k_members_of_slot
  have b_members_of_slot := F_members_of_slot.binds (ps := ["first_members", "row", "slot"]) fun _ _ _ _ _ _ us hl => match us, hl with | [_, _, _], _ => rfl
  have F_more_than_half := fun_mk (st := s_more_than_half) l_more_than_half c_more_than_half k_more_than_half
  have b_more_than_half := F_more_than_half.binds (ps := ["members", "indexes"]) fun _ _ _ _ _ _ us hl => match us, hl with | [_, _], _ => rfl
  have F_choice_of := fun_mk (st := s_choice_of) l_choice_of c_choice_of k_choice_of
  have b_choice_of := F_choice_of.binds (ps := ["members", "votes"]) fun _ _ _ _ _ _ us hl => match us, hl with | [_, _], _ => rfl
  have F_grounds_of := fun_mk (st := s_grounds_of) l_grounds_of c_grounds_of k_grounds_of
  have b_grounds_of := F_grounds_of.binds (ps := ["members", "votes"]) fun _ _ _ _ _ _ us hl => match us, hl with | [_, _], _ => rfl
  have F__by_ballot := fun_mk (st := s__by_ballot) l__by_ballot c__by_ballot k__by_ballot
  have b__by_ballot := F__by_ballot.binds (ps := ["members", "votes"]) fun _ _ _ _ _ _ us hl => match us, hl with | [_, _], _ => rfl
  have F_Tally___init__ := fun_mk (st := s_Tally___init__) l_Tally___init__ c_Tally___init__ k_Tally___init__
  have b_Tally___init__ := F_Tally___init__.binds (ps := ["self", "first_members"]) fun _ _ _ _ _ _ us hl => match us, hl with | [_, _], _ => rfl
  have F_Tally_add := fun_mk (st := s_Tally_add) l_Tally_add c_Tally_add k_Tally_add
  have b_Tally_add := F_Tally_add.binds (ps := ["self", "slot", "index", "ballot", "entry"]) fun _ _ _ _ _ _ us hl => match us, hl with | [_, _, _, _, _], _ => rfl
  have F_Tally__count := fun_mk (st := s_Tally__count) l_Tally__count c_Tally__count k_Tally__count
  have b_Tally__count := F_Tally__count.binds (ps := ["self"]) fun _ _ _ _ _ _ us hl => match us, hl with | [_], _ => rfl
  have F_Tally__next_choice := fun_mk (st := s_Tally__next_choice) l_Tally__next_choice c_Tally__next_choice k_Tally__next_choice
  have b_Tally__next_choice := F_Tally__next_choice.binds (ps := ["self"]) fun _ _ _ _ _ _ us hl => match us, hl with | [_], _ => rfl
  have F_Tally_members_of := fun_mk (st := s_Tally_members_of) l_Tally_members_of c_Tally_members_of k_Tally_members_of
  have b_Tally_members_of := F_Tally_members_of.binds (ps := ["self", "slot"]) fun _ _ _ _ _ _ us hl => match us, hl with | [_, _], _ => rfl
  have F_Tally_votes_of := fun_mk (st := s_Tally_votes_of) l_Tally_votes_of c_Tally_votes_of k_Tally_votes_of
  have b_Tally_votes_of := F_Tally_votes_of.binds (ps := ["self", "slot"]) fun _ _ _ _ _ _ us hl => match us, hl with | [_, _], _ => rfl
  have F_Tally_fork := fun_mk (st := s_Tally_fork) l_Tally_fork c_Tally_fork k_Tally_fork
  have b_Tally_fork := F_Tally_fork.binds (ps := ["self"]) fun _ _ _ _ _ _ us hl => match us, hl with | [_], _ => rfl
  have F__law_row := fun_mk (st := s__law_row) l__law_row c__law_row k__law_row
  have b__law_row := F__law_row.binds (ps := ["script", "k"]) fun _ _ _ _ _ _ us hl => match us, hl with | [_, _], _ => rfl
  have F__law_take := fun_mk (st := s__law_take) l__law_take c__law_take k__law_take
  have b__law_take := F__law_take.binds (ps := ["box", "size"]) fun _ _ _ _ _ _ us hl => match us, hl with | [_, _], _ => rfl
  have F__law_members := fun_mk (st := s__law_members) l__law_members c__law_members k__law_members
  have b__law_members := F__law_members.binds (ps := ["box", "size"]) fun _ _ _ _ _ _ us hl => match us, hl with | [_, _], _ => rfl
  have F__law_entry := fun_mk (st := s__law_entry) l__law_entry c__law_entry k__law_entry
  have b__law_entry := F__law_entry.binds (ps := ["box", "slot", "ballot"]) fun _ _ _ _ _ _ us hl => match us, hl with | [_, _, _], _ => rfl
  have F__law_members_at := fun_mk (st := s__law_members_at) l__law_members_at c__law_members_at k__law_members_at
  have b__law_members_at := F__law_members_at.binds (ps := ["first", "row", "slot"]) fun _ _ _ _ _ _ us hl => match us, hl with | [_, _, _], _ => rfl
  have F__law_choice := fun_mk (st := s__law_choice) l__law_choice c__law_choice k__law_choice
  have b__law_choice := F__law_choice.binds (ps := ["members", "votes"]) fun _ _ _ _ _ _ us hl => match us, hl with | [_, _], _ => rfl
  have F__law_added := fun_mk (st := s__law_added) l__law_added c__law_added k__law_added
  have b__law_added := F__law_added.binds (ps := ["first", "row", "votes"]) fun _ _ _ _ _ _ us hl => match us, hl with | [_, _, _], _ => rfl
  have F__law_agrees := fun_mk (st := s__law_agrees) l__law_agrees c__law_agrees k__law_agrees
  have b__law_agrees := F__law_agrees.binds (ps := ["tally", "first", "row", "votes"]) fun _ _ _ _ _ _ us hl => match us, hl with | [_, _, _, _], _ => rfl
  have F_law := fun_mk (st := s_law) l_law c_law k_law
  have b_law := F_law.binds (ps := ["script"]) fun _ _ _ _ _ _ us hl => match us, hl with | [_], _ => rfl
  let T : Txt K mg := ⟨C_Tally, ⟨pg_Tally, hd_Tally, po_Tally, sa_Tally⟩, PySem.W.mg_of X G aC_Tally, na_Tally_first_members, na_Tally_row, na_Tally_votes, na_Tally__by_slot, t_MEMBERS, PySem.W.mg_of X G z_MEMBERS, f_members_of_slot, _, F_members_of_slot, b_members_of_slot, PySem.W.mg_of X G a_members_of_slot, f_more_than_half, _, F_more_than_half, b_more_than_half, PySem.W.mg_of X G a_more_than_half, f_choice_of, _, F_choice_of, b_choice_of, PySem.W.mg_of X G a_choice_of, f_grounds_of, _, F_grounds_of, b_grounds_of, PySem.W.mg_of X G a_grounds_of, f__by_ballot, _, F__by_ballot, b__by_ballot, PySem.W.mg_of X G a__by_ballot, f_Tally___init__, _, F_Tally___init__, b_Tally___init__, ⟨mk_Tally, a_Tally___init__, i_Tally___init__, kc_Tally⟩, f_Tally_add, _, F_Tally_add, b_Tally_add, ⟨a_Tally_add, i_Tally_add, k_Tally_add⟩, f_Tally__count, _, F_Tally__count, b_Tally__count, ⟨a_Tally__count, i_Tally__count, k_Tally__count⟩, f_Tally__next_choice, _, F_Tally__next_choice, b_Tally__next_choice, ⟨a_Tally__next_choice, i_Tally__next_choice, k_Tally__next_choice⟩, f_Tally_members_of, _, F_Tally_members_of, b_Tally_members_of, ⟨a_Tally_members_of, i_Tally_members_of, k_Tally_members_of⟩, f_Tally_votes_of, _, F_Tally_votes_of, b_Tally_votes_of, ⟨a_Tally_votes_of, i_Tally_votes_of, k_Tally_votes_of⟩, f_Tally_fork, _, F_Tally_fork, b_Tally_fork, ⟨a_Tally_fork, i_Tally_fork, k_Tally_fork⟩, f__law_row, _, F__law_row, b__law_row, PySem.W.mg_of X G a__law_row, f__law_take, _, F__law_take, b__law_take, PySem.W.mg_of X G a__law_take, f__law_members, _, F__law_members, b__law_members, PySem.W.mg_of X G a__law_members, f__law_entry, _, F__law_entry, b__law_entry, PySem.W.mg_of X G a__law_entry, f__law_members_at, _, F__law_members_at, b__law_members_at, PySem.W.mg_of X G a__law_members_at, f__law_choice, _, F__law_choice, b__law_choice, PySem.W.mg_of X G a__law_choice, f__law_added, _, F__law_added, b__law_added, PySem.W.mg_of X G a__law_added, f__law_agrees, _, F__law_agrees, b__law_agrees, PySem.W.mg_of X G a__law_agrees, fa, _, F_law, b_law, PySem.W.mg_of X G a_law, PySem.W.mg_none_of X G z_int, PySem.W.mg_none_of X G z_isinstance, PySem.W.mg_none_of X G z_len, PySem.W.mg_none_of X G z_list, PySem.W.mg_none_of X G z_max, PySem.W.mg_none_of X G z_min, PySem.W.mg_none_of X G z_range, PySem.W.mg_none_of X G z_reversed, PySem.W.mg_none_of X G z_set, PySem.W.mg_none_of X G z_sorted, PySem.W.mg_none_of X G z_tuple⟩
  exact ⟨PySem.W.fnOf "law" "law" (defArgs s_law) (defBody s_law) (defScope s_law) .none kV_law dc_law pm_law an_law cd_law ct_law, fun s v => .of_eq rfl, fun base _ _ => ok_law T⟩
end K47
open PySem PySem.W PyProof.Rows
set_option maxRecDepth 100000 in
set_option maxHeartbeats 0 in
theorem PySem.Challenge.cw_crosskeep_k47_a_tally_holds : PySem.Challenge.rw_crosskeep_k47_a_tally.Holds := by
  w_on; o_law; k_head; (case hw => w_witness2)
  k_fill
  refine L2.walk_of (l := PySem.Challenge.rw_crosskeep_k47_a_tally) (n := 63) (k := 7) (x := "script") (CX := fun _ => L2.CX0) (sp := fun w => K47.sp_law _) rfl (by decide) rfl ⟨rfl, by decide, by decide⟩ (fun w h Y => PySem.W.kIn_of Y) ?F (fun _ _ a ns hl _ hS => ⟨a, ns, rfl, hS, hl, fun _ => rfl⟩) (fun _ _ _ _ _ h => h)
  case F =>
    intro w mg fa h KX G hmg
    refine' K47.all_mk KX G hmg ?aC_Tally ?pg_Tally ?hd_Tally ?po_Tally ?sa_Tally ?mk_Tally ?kc_Tally ?na_Tally_first_members ?na_Tally_row ?na_Tally_votes ?na_Tally__by_slot ?a_members_of_slot ?l_members_of_slot ?c_members_of_slot ?k_members_of_slot ?a_more_than_half ?l_more_than_half ?c_more_than_half ?k_more_than_half ?a_choice_of ?l_choice_of ?c_choice_of ?k_choice_of ?a_grounds_of ?l_grounds_of ?c_grounds_of ?k_grounds_of ?a__by_ballot ?l__by_ballot ?c__by_ballot ?k__by_ballot ?a_Tally___init__ ?i_Tally___init__ ?l_Tally___init__ ?c_Tally___init__ ?k_Tally___init__ ?a_Tally_add ?i_Tally_add ?l_Tally_add ?c_Tally_add ?k_Tally_add ?a_Tally__count ?i_Tally__count ?l_Tally__count ?c_Tally__count ?k_Tally__count ?a_Tally__next_choice ?i_Tally__next_choice ?l_Tally__next_choice ?c_Tally__next_choice ?k_Tally__next_choice ?a_Tally_members_of ?i_Tally_members_of ?l_Tally_members_of ?c_Tally_members_of ?k_Tally_members_of ?a_Tally_votes_of ?i_Tally_votes_of ?l_Tally_votes_of ?c_Tally_votes_of ?k_Tally_votes_of ?a_Tally_fork ?i_Tally_fork ?l_Tally_fork ?c_Tally_fork ?k_Tally_fork ?a__law_row ?l__law_row ?c__law_row ?k__law_row ?a__law_take ?l__law_take ?c__law_take ?k__law_take ?a__law_members ?l__law_members ?c__law_members ?k__law_members ?a__law_entry ?l__law_entry ?c__law_entry ?k__law_entry ?a__law_members_at ?l__law_members_at ?c__law_members_at ?k__law_members_at ?a__law_choice ?l__law_choice ?c__law_choice ?k__law_choice ?a__law_added ?l__law_added ?c__law_added ?k__law_added ?a__law_agrees ?l__law_agrees ?c__law_agrees ?k__law_agrees ?a_law ?l_law ?c_law ?k_law ?z_MEMBERS ?z_int ?z_isinstance ?z_len ?z_list ?z_max ?z_min ?z_range ?z_reversed ?z_set ?z_sorted ?z_tuple
    (case aC_Tally => k_is)
    (case pg_Tally => k_is)
    (case hd_Tally => k_is)
    (case po_Tally => k_is)
    (case sa_Tally => k_is)
    (case mk_Tally => k_is)
    (case kc_Tally => k_is)
    (case na_Tally_first_members => k_is)
    (case na_Tally_row => k_is)
    (case na_Tally_votes => k_is)
    (case na_Tally__by_slot => k_is)
    (case a_members_of_slot => k_is)
    (case l_members_of_slot => k_is)
    (case c_members_of_slot => k_is)
    (case k_members_of_slot => k_is)
    (case a_more_than_half => k_is)
    (case l_more_than_half => k_is)
    (case c_more_than_half => k_is)
    (case k_more_than_half => k_is)
    (case a_choice_of => k_is)
    (case l_choice_of => k_is)
    (case c_choice_of => k_is)
    (case k_choice_of => k_is)
    (case a_grounds_of => k_is)
    (case l_grounds_of => k_is)
    (case c_grounds_of => k_is)
    (case k_grounds_of => k_is)
    (case a__by_ballot => k_is)
    (case l__by_ballot => k_is)
    (case c__by_ballot => k_is)
    (case k__by_ballot => k_is)
    (case a_Tally___init__ => k_is)
    (case i_Tally___init__ => k_is)
    (case l_Tally___init__ => k_is)
    (case c_Tally___init__ => k_is)
    (case k_Tally___init__ => k_is)
    (case a_Tally_add => k_is)
    (case i_Tally_add => k_is)
    (case l_Tally_add => k_is)
    (case c_Tally_add => k_is)
    (case k_Tally_add => k_is)
    (case a_Tally__count => k_is)
    (case i_Tally__count => k_is)
    (case l_Tally__count => k_is)
    (case c_Tally__count => k_is)
    (case k_Tally__count => k_is)
    (case a_Tally__next_choice => k_is)
    (case i_Tally__next_choice => k_is)
    (case l_Tally__next_choice => k_is)
    (case c_Tally__next_choice => k_is)
    (case k_Tally__next_choice => k_is)
    (case a_Tally_members_of => k_is)
    (case i_Tally_members_of => k_is)
    (case l_Tally_members_of => k_is)
    (case c_Tally_members_of => k_is)
    (case k_Tally_members_of => k_is)
    (case a_Tally_votes_of => k_is)
    (case i_Tally_votes_of => k_is)
    (case l_Tally_votes_of => k_is)
    (case c_Tally_votes_of => k_is)
    (case k_Tally_votes_of => k_is)
    (case a_Tally_fork => k_is)
    (case i_Tally_fork => k_is)
    (case l_Tally_fork => k_is)
    (case c_Tally_fork => k_is)
    (case k_Tally_fork => k_is)
    (case a__law_row => k_is)
    (case l__law_row => k_is)
    (case c__law_row => k_is)
    (case k__law_row => k_is)
    (case a__law_take => k_is)
    (case l__law_take => k_is)
    (case c__law_take => k_is)
    (case k__law_take => k_is)
    (case a__law_members => k_is)
    (case l__law_members => k_is)
    (case c__law_members => k_is)
    (case k__law_members => k_is)
    (case a__law_entry => k_is)
    (case l__law_entry => k_is)
    (case c__law_entry => k_is)
    (case k__law_entry => k_is)
    (case a__law_members_at => k_is)
    (case l__law_members_at => k_is)
    (case c__law_members_at => k_is)
    (case k__law_members_at => k_is)
    (case a__law_choice => k_is)
    (case l__law_choice => k_is)
    (case c__law_choice => k_is)
    (case k__law_choice => k_is)
    (case a__law_added => k_is)
    (case l__law_added => k_is)
    (case c__law_added => k_is)
    (case k__law_added => k_is)
    (case a__law_agrees => k_is)
    (case l__law_agrees => k_is)
    (case c__law_agrees => k_is)
    (case k__law_agrees => k_is)
    (case a_law => k_is)
    (case l_law => k_is)
    (case c_law => k_is)
    (case k_law => k_is)
    (case z_MEMBERS => k_is)
    (case z_int => k_is)
    (case z_isinstance => k_is)
    (case z_len => k_is)
    (case z_list => k_is)
    (case z_max => k_is)
    (case z_min => k_is)
    (case z_range => k_is)
    (case z_reversed => k_is)
    (case z_set => k_is)
    (case z_sorted => k_is)
    (case z_tuple => k_is)
#print axioms PySem.Challenge.cw_crosskeep_k47_a_tally_holds

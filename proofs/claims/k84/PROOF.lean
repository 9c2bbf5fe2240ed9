import PyProof.Rows.All
import Wide.All
import OpenK.AllK
import Wide.FinOn
import HandS.ForMost
import HandS.TryOnly
import HandS.IsInst
import HandS.Evl
import HandS.Wide
import HandS.TupAny
import HandS.SortInts
import HandS.Style
import HandS.Strs
import HandS.SetFor
import HandS.Conv
import HandS.More
import HandS.Walk
import HandS.WideBits
import HandS.Property
import HandS.TupLe
import HandS.Defaults
import HandS.Deep
import HandS.RevRange
import PyProof.StrOps2
import HandS.TupMul
import HandS.DictComp
import KE.GoesMore
import KE.SortKeyHeap
import KE.DataCmp
import HandS.SetKeys
import PyProof.DictMoreH
import KE.DataMinMax
import HandS.TupLen
import PyProof.WalkLemmas
import PyProof.Walk
import PyProof.Seq
import PyProof.SeqWrite
import KE.SortData
import KE.DatumOrd
import PyProof.ConsumeWalk
import PySem.Challenge.RW_crosskeep_k84_names_are_sorted
set_option Elab.async false
set_option linter.all false
set_option maxRecDepth 100000
set_option maxHeartbeats 4000000

/-! ## readings, one step at a time (a layer of our own over the hand layer) -/
namespace Xk
open PySem PySem.Spec PyProof.Rows L2

section
variable {K : PySem.W.Frag} {σ : L2.St} {H H0 H1 H2 : Hp} {Q : VK} {ta tb tc te : TE} {t u : TT} {D : Ends} {tz tu tw : TS} {g : TG} {x y z v : V} {i j : Int} {b : Bool}

/-! ### values -/
theorem rel_ref {a : Addr} : RelV (.ref a) (.ref a) := rfl
theorem rel_ty {T : String} : RelV (.ty T) (.type T) := rfl
theorem rel_int {tk : Tok} : RelV (.int i) (.int i tk) := ⟨tk, rfl⟩
theorem rel_str {s : Str} {tk : Tok} : RelV (.str s) (.str s tk) := ⟨tk, rfl⟩

/-! ### heaps -/
/-- nothing stands at p -/
structure Fr (p : Addr) (H : Hp) : Prop where
  is : H p = none
theorem same_fr {p : Addr} {o : HO} (h : Fr p H) : Same H (upd H p o) := fun c x e => by
  rw [upd_ne (ne_of_none e h.is)]
  exact e
theorem same_new {p : Addr} {o : HO} (h : H p = none) : Same H (upd H p o) := fun c x e => by
  rw [upd_ne (ne_of_none e h)]
  exact e
theorem same_mut {p : Addr} {o : HO} (e : Same H H1) (h : Fr p H) : Same H (upd H1 p o) := fun c x ha => by
  rw [upd_ne (ne_of_none ha h.is)]
  exact e c x ha
theorem same_at {a : Addr} {o : HO} (e : Same H H1) (h : H a = some o) : H1 a = some o := e a o h
theorem free_back {p : Addr} (h : Fr p H1) (e : Same H H1) : Fr p H := ⟨Same.free e h.is⟩
theorem ne_new {a p : Addr} {o : HO} (h' : Fr p H) (h : H a = some o) : a ≠ p := ne_of_none h h'.is
theorem sq_of {a : Addr} {xs : List V} (h : H a = some (.lst xs)) : SqL K H a xs := Or.inl (Or.inl h)
theorem st_of {a : Addr} {xs : List V} (h : H a = some (.tup xs)) : SqT K H a xs := Or.inl (Or.inl h)
theorem sq_same {a : Addr} {xs : List V} (h : SqL K H a xs) (e : Same H H1) : SqL K H1 a xs := e.seq h
theorem st_same {a : Addr} {xs : List V} (h : SqT K H a xs) (e : Same H H1) : SqT K H1 a xs := by
  rcases h with (h | ⟨o, h⟩) | h
  · exact .inl (.inl (e _ _ h))
  · exact .inl (.inr ⟨o, e _ _ h⟩)
  · exact .inr h
theorem size_ok {n : Nat} (h : n ≤ 100000) : n ≤ sizeLine := Nat.le_trans h (by decide)
theorem size_lt {n : Nat} (h : n < 100000) : n < sizeLine := Nat.lt_of_lt_of_le h (by decide)

/-- all that was tracked but at p is as it was -/
def But (p : Addr) (H H' : Hp) : Prop := ∀ b o, b ≠ p → H b = some o → H' b = some o
theorem But.refl (p : Addr) (H : Hp) : But p H H := fun _ _ _ h => h
theorem but_same {p : Addr} (e : Same H H1) : But p H H1 := fun b o _ h => e b o h
theorem but_trans {p : Addr} (e : But p H H1) (e' : But p H1 H2) : But p H H2 := fun b o n h => e' b o n (e b o n h)
theorem but_mut {p : Addr} {o : HO} (e : But p H H1) : But p H (upd H1 p o) := fun b u n h => by
  rw [upd_ne n]
  exact e b u n h
theorem but_new {p q : Addr} {o : HO} (e : But p H H1) (h : Fr q H) : But p H (upd H1 q o) := fun b u n g => by
  rw [upd_ne (ne_of_none g h.is)]
  exact e b u n g
theorem but_at {p a : Addr} {o : HO} (e : But p H H1) (n : a ≠ p) (h : H a = some o) : H1 a = some o := e a o n h
theorem none_but {p a : Addr} {o u : HO} (h : H p = some o) (e : But p H H1) (h1 : H1 p = some u) (ha : Fr a H1) : Fr a H := by
  refine ⟨?_⟩
  cases q : H a with
  | none => rfl
  | some v =>
    by_cases n : a = p
    · subst n
      rw [ha.is] at h1
      cases h1
    · have := e a v n q
      rw [ha.is] at this
      cases this
theorem fr_upd {p q : Addr} {o : HO} (h : Fr p (upd H q o)) : Fr p H := by
  refine ⟨?_⟩
  have h1 := h.is
  unfold upd at h1
  split at h1
  · cases h1
  · exact h1
theorem same_but {p : Addr} (e : But p H H1) (h : Fr p H0) (e0 : Same H0 H) : Same H0 H1 := fun b o g => e b o (ne_of_none g h.is) (e0 b o g)

/-! ### expressions -/
theorem x_var {n : Nat} (h : σ[n]? = some (some v)) (q : Q v H) : tVar n σ H Q := ⟨v, h, q⟩
theorem x_c (q : Q v H) : tC v σ H Q := q
theorem x_op {r : R2} (q : ta σ H fun x H1 => tb σ H1 fun y H2 => r x y H2 Q) : tOp r ta tb σ H Q := q
theorem x_un {r : V → Hp → VK → Prop} (q : ta σ H fun x H1 => r x H1 Q) : tUn r ta σ H Q := q
theorem x_I0 {f : Int → Int → V} (q : Q (f i j) H) : rI0 f (.int i) (.int j) H Q := ⟨i, j, rfl, rfl, q⟩
theorem x_I {C : Int → Int → Prop} {f : Int → Int → V} (hc : C i j) (q : Q (f i j) H) : rI C f (.int i) (.int j) H Q := ⟨i, j, rfl, rfl, hc, q⟩
theorem x_U {f : Int → V} (q : Q (f i) H) : rU f (.int i) H Q := ⟨i, rfl, q⟩
theorem x_eq (h : scal x y = true) (q : Q (.bl (decide (x = y))) H) : rEq x y H Q := ⟨h, q⟩
theorem x_ne (h : scal x y = true) (q : Q (.bl (!decide (x = y))) H) : rNe x y H Q := ⟨h, q⟩
theorem x_ixL {p : Addr} {xs : List V} (h : SqL K H p xs) (ha : atI xs i = some v) (q : Q v H) : rIxL K (.ref p) (.int i) H Q := ⟨p, xs, i, v, rfl, rfl, h, ha, q⟩
theorem x_ixT {p : Addr} {xs : List V} (h : SqT K H p xs) (ha : atI xs i = some v) (q : Q v H) : rIxT K (.ref p) (.int i) H Q := ⟨p, xs, i, v, rfl, rfl, h, ha, q⟩
theorem x_ixS {w : Str} {c : Nat} (h : w.length ≤ 100000) (ha : atI w.cps.toList i = some c) (q : Q (.str ⟨#[c]⟩) H) : rIxS (.str w) (.int i) H Q := ⟨w, i, c, rfl, rfl, size_ok h, ha, q⟩
theorem x_nil {R : List V → Hp → Prop} (q : R [] H) : tNil σ H R := q
theorem x_cons {tr : TA} {R : List V → Hp → Prop} (q : ta σ H fun x H1 => tr σ H1 fun xs H2 => R (x :: xs) H2) : tCons ta tr σ H R := q
def New (Q : VK) (o : HO) (n : Nat) (H : Hp) : Prop := n ≤ sizeLine ∧ ∀ p, H p = none → Q (.ref p) (upd H p o)
theorem x_lst {tr : TA} (q : tr σ H fun xs H1 => New Q (.lst xs) xs.length H1) : tLst tr σ H Q := q
theorem x_tup {tr : TA} (q : tr σ H fun xs H1 => New Q (.tup xs) xs.length H1) : tTup tr σ H Q := q
/-- what is new is told by what it holds; the heap gets a name -/
theorem x_new {n : Nat} {o : HO} (hl : n ≤ 100000) (k : ∀ p H2, Fr p H → Same H H2 → H2 p = some o → Q (.ref p) H2) : New Q o n H :=
  ⟨size_ok hl, fun p hp => k p _ ⟨hp⟩ (same_new hp) upd_same⟩
theorem x_new1 {o : HO} (k : ∀ p H2, Fr p H → Same H H2 → H2 p = some o → Q (.ref p) H2) : ∀ p, H p = none → Q (.ref p) (upd H p o) :=
  fun p hp => k p _ ⟨hp⟩ (same_new hp) upd_same
theorem x_cb {r : List V → Hp → VK → Prop} {tr : TA} (q : tr σ H fun vs H1 => r vs H1 Q) : tCB r tr σ H Q := q
theorem x_call {sp : Sp} {dvs : List V} {E : XK} {tr : TA} (q : tr σ H fun vs H1 => sp (vs ++ dvs) H1 Q E) : tCall sp dvs E tr σ H Q := q
theorem x_sl {r : V → Option Int → Option Int → Hp → VK → Prop} {tl th : TO} (q : te σ H fun x H1 => tl σ H1 fun l H2 => th σ H2 fun u H3 => r x l u H3 Q) : tSl r te tl th σ H Q := q
theorem x_nopart {R : Option Int → Hp → Prop} (q : R none H) : tNoPart σ H R := q
theorem x_part {R : Option Int → Hp → Prop} (q : te σ H fun x H1 => ∃ i, x = .int i ∧ R (some i) H1) : tPart te σ H R := q
theorem x_if (q : t σ H fun c H1 => if c = true then ta σ H1 Q else tb σ H1 Q) : tIf t ta tb σ H Q := q
theorem x_andV (q : ta σ H fun x H1 => ∃ c, x = .bl c ∧ if c = true then tb σ H1 Q else Q (.bl false) H1) : tAndV ta tb σ H Q := q
theorem x_orV (q : ta σ H fun x H1 => ∃ c, x = .bl c ∧ if c = true then Q (.bl true) H1 else tb σ H1 Q) : tOrV ta tb σ H Q := q
theorem x_notV (q : ta σ H fun x H1 => ∃ c, x = .bl c ∧ Q (.bl (!c)) H1) : tNotV ta σ H Q := q
theorem x_bl {R : Bool → Prop} (q : R b) : ∃ c, V.bl b = .bl c ∧ R c := ⟨b, rfl, q⟩
theorem x_isI {R : Int → Prop} (q : R i) : ∃ c, V.int i = .int c ∧ R c := ⟨i, rfl, q⟩

/-! ### built-ins by names -/
def nInt : List V → Hp → VK → Prop := fun xs H Q => (∃ i, xs = [.int i] ∧ Q (.int i) H) ∨ ∃ k, xs = [.bl k] ∧ Q (.int (if k then 1 else 0)) H
theorem call_nInt {X : Cx} : CallR X (.type "int") nInt := call_int1
theorem x_nInt (q : Q (.int i) H) : nInt [.int i] H Q := .inl ⟨i, rfl, q⟩
theorem x_nIntB (q : Q (.int (if b then 1 else 0)) H) : nInt [.bl b] H Q := .inr ⟨b, rfl, q⟩
def nLen (K : PySem.W.Frag) : List V → Hp → VK → Prop := fun xs H Q => ∃ p ys, xs = [.ref p] ∧ (SqL K H p ys ∨ SqT K H p ys) ∧ Q (.int ys.length) H
theorem call_nLen {X : Cx} : CallR X (.builtin "len") (nLen X.K) := call_len_seq
theorem x_lenL {p : Addr} {ys : List V} (h : SqL K H p ys) (q : Q (.int ys.length) H) : nLen K [.ref p] H Q := ⟨p, ys, rfl, .inl h, q⟩
theorem x_lenT {p : Addr} {ys : List V} (h : SqT K H p ys) (q : Q (.int ys.length) H) : nLen K [.ref p] H Q := ⟨p, ys, rfl, .inr h, q⟩
def nListOf (K : PySem.W.Frag) : List V → Hp → VK → Prop := fun xs H Q => ∃ p ys, xs = [.ref p] ∧ (SqL K H p ys ∨ SqT K H p ys) ∧ ∀ l, H l = none → Q (.ref l) (upd H l (.lst ys))
theorem call_nListOf {X : Cx} : CallR X (.type "list") (nListOf X.K) := call_list_of
theorem x_listL {p : Addr} {ys : List V} (h : SqL K H p ys) (k : ∀ l H2, Fr l H → Same H H2 → H2 l = some (.lst ys) → Q (.ref l) H2) : nListOf K [.ref p] H Q := ⟨p, ys, rfl, .inl h, x_new1 k⟩
theorem x_listT {p : Addr} {ys : List V} (h : SqT K H p ys) (k : ∀ l H2, Fr l H → Same H H2 → H2 l = some (.lst ys) → Q (.ref l) H2) : nListOf K [.ref p] H Q := ⟨p, ys, rfl, .inr h, x_new1 k⟩
def nTupleOf (K : PySem.W.Frag) : List V → Hp → VK → Prop := fun xs H Q => ∃ p ys, xs = [.ref p] ∧ ((SqL K H p ys ∧ ∀ l, H l = none → Q (.ref l) (upd H l (.tup ys))) ∨ (SqT K H p ys ∧ Q (.ref p) H))
theorem call_nTupleOf {X : Cx} : CallR X (.type "tuple") (nTupleOf X.K) := call_tuple_of
theorem x_tupleL {p : Addr} {ys : List V} (h : SqL K H p ys) (k : ∀ l H2, Fr l H → Same H H2 → H2 l = some (.tup ys) → Q (.ref l) H2) : nTupleOf K [.ref p] H Q := ⟨p, ys, rfl, .inl ⟨h, x_new1 k⟩⟩
theorem x_tupleT {p : Addr} {ys : List V} (h : SqT K H p ys) (q : Q (.ref p) H) : nTupleOf K [.ref p] H Q := ⟨p, ys, rfl, .inr ⟨h, q⟩⟩
theorem kit_T {a c : String} (h : kitB a c = some true) : kitB a c = some true := h
theorem kit_F {a c : String} (h : kitB a c = some false) : kitB a c = some false := h
theorem x_isi {c : String} {tt : String} {k : Bool} (ty : TyX K H x (.type tt)) (e : kitB tt c = some k) (q : Q (.bl k) H) : rIsi K [x, .ty c] H Q := ⟨x, .ty c, .type tt, .type c, k, rfl, .ty _, ty, kit_ty e, q⟩
theorem x_isiInt {c : String} {k : Bool} (e : kitB "int" c = some k) (q : Q (.bl k) H) : rIsi K [.int i, .ty c] H Q := x_isi (.base (.int i)) e q
theorem x_isiBl {c : String} {k b : Bool} (e : kitB "bool" c = some k) (q : Q (.bl k) H) : rIsi K [.bl b, .ty c] H Q := x_isi (.base (.bl b)) e q
theorem x_isiStr {c : String} {k : Bool} {s : Str} (e : kitB "str" c = some k) (q : Q (.bl k) H) : rIsi K [.str s, .ty c] H Q := x_isi (.base (.str s)) e q
theorem x_isiNon {c : String} {k : Bool} (e : kitB "NoneType" c = some k) (q : Q (.bl k) H) : rIsi K [.non, .ty c] H Q := x_isi (.base .non) e q
theorem x_isiLst {c : String} {k : Bool} {a : Addr} {xs : List V} (h : H a = some (.lst xs)) (e : kitB "list" c = some k) (q : Q (.bl k) H) : rIsi K [.ref a, .ty c] H Q := x_isi (.base (.lst h)) e q
theorem x_isiTup {c : String} {k : Bool} {a : Addr} {xs : List V} (h : H a = some (.tup xs)) (e : kitB "tuple" c = some k) (q : Q (.bl k) H) : rIsi K [.ref a, .ty c] H Q := x_isi (.base (.tup h)) e q

def nSorted (K : PySem.W.Frag) : List V → Hp → VK → Prop := fun vs H Q => ∃ (a : Addr) (ns : List Int), vs = [V.ref a] ∧ SqL K H a (ns.map V.int) ∧ ns.length < 64 ∧
  ∀ (ns' : List Int) (p : Addr), ns'.Perm ns → ns'.Pairwise (· ≤ ·) → H p = none → Q (.ref p) (upd H p (.lst (ns'.map V.int)))
theorem x_sorted {a : Addr} {ns : List Int} (h : SqL K H a (ns.map V.int)) (hl : ns.length < 64) (k : ∀ p H2 (ns' : List Int), ns'.Perm ns → ns'.Pairwise (· ≤ ·) → Fr p H → Same H H2 → H2 p = some (.lst (ns'.map V.int)) → Q (.ref p) H2) : rSorted K [.ref a] H Q :=
  ⟨a, ns, rfl, h, hl, fun ns' p h1 h2 h3 => k p _ ns' h1 h2 ⟨h3⟩ (same_new h3) upd_same⟩
/-- set(t), t a tuple of ints -/
def rSetOfI (K : PySem.W.Frag) (w : World) : List V → Hp → VK → Prop := fun vs H Q => ∃ (p : Addr) (ns : List Int), vs = [V.ref p] ∧ SqT K H p (ns.map V.int) ∧ ns.length ≤ 1000 ∧ ∀ a n, H a = none → n ≤ ns.length → Q (.ref a) (upd H a (SetO w a (fun j => decide (j ∈ ns)) n))
theorem cr_setOfI {X : Cx} (hc : X.calm = true) : CallR X (.type "set") (rSetOfI X.K X.w) := by
  intro pins s σ H xs us Q I r h
  obtain ⟨p0, ns, rfl, hq, hl, q⟩ := h
  cases r with
  | cons r rr =>
    cases rr
    cases r
    obtain ⟨its, rv, pt, hz⟩ := I.tuple hq
    have hi : IntsAre its.toArray.toList ns := ints_of_vals rv
    have hd := I.ok.hd hc
    refine call_set_tupI ns hd (show s.heap.IsTuple p0 its.toArray from pt) hi (by unfold scanBound; omega) fun h' tk c R1 hcn k => ?_
    exact ⟨.ref _, upd H s.heap.objs.size (SetO X.w s.heap.objs.size (fun j => decide (j ∈ ns)) c), I.laid (t' := tk) k (Nat.le_refl _) (setO_new R1), rfl, q _ _ (I.hok.fresh (Nat.le_refl _)) hcn⟩
theorem x_setOfI {w : World} {p : Addr} {ns : List Int} (h : SqT K H p (ns.map V.int)) (hl : ns.length ≤ 1000) (k : ∀ a H2 n, Fr a H → Same H H2 → H2 a = some (SetO w a (fun j => decide (j ∈ ns)) n) → n ≤ ns.length → Q (.ref a) H2) : rSetOfI K w [.ref p] H Q :=
  ⟨p, ns, rfl, h, hl, fun a n h1 h2 => k a _ n ⟨h1⟩ (same_new h1) upd_same h2⟩
theorem x_sortedSet {w : World} {a : Addr} {S : Int → Bool} {n : Nat} (h : H a = some (SetO w a S n)) (hl : n < 64) (k : ∀ p H2 (ns : List Int), ns.Pairwise (· < ·) → (∀ k : Int, k ∈ ns ↔ S k = true) → ns.length = n → Fr p H → Same H H2 → H2 p = some (.lst (ns.map V.int)) → Q (.ref p) H2) : rSortedSet w [.ref a] H Q :=
  ⟨a, S, n, rfl, h, hl, fun ns p h1 h2 h3 h4 => k p _ ns h1 h2 h3 ⟨h4⟩ (same_new h4) upd_same⟩
theorem x_all {a : Addr} {bs : List Bool} (h : SqL K H a (bs.map V.bl)) (q : Q (.bl (bs.all id)) H) : rAll K [.ref a] H Q := ⟨a, bs, rfl, h, q⟩
theorem x_any {a : Addr} {bs : List Bool} (h : SqL K H a (bs.map V.bl)) (q : Q (.bl (bs.any id)) H) : rAny K [.ref a] H Q := ⟨a, bs, rfl, h, q⟩
theorem x_sum {a : Addr} {ns : List Int} (h : SqL K H a (ns.map V.int)) (q : Q (.int ns.sum) H) : rSum K [.ref a] H Q := ⟨a, ns, rfl, h, q⟩
theorem x_inL {p : Addr} {xs : List V} (h : SqL K H p xs) (hx : flatV x = true) (ha : xs.all flatV = true) (q : Q (.bl (inV x xs)) H) : rIn K false x (.ref p) H Q := ⟨p, xs, rfl, .inl h, hx, ha, q⟩
theorem x_inT {p : Addr} {xs : List V} (h : SqT K H p xs) (hx : flatV x = true) (ha : xs.all flatV = true) (q : Q (.bl (inV x xs)) H) : rIn K false x (.ref p) H Q := ⟨p, xs, rfl, .inr h, hx, ha, q⟩
theorem x_niL {p : Addr} {xs : List V} (h : SqL K H p xs) (hx : flatV x = true) (ha : xs.all flatV = true) (q : Q (.bl (!inV x xs)) H) : rIn K true x (.ref p) H Q := ⟨p, xs, rfl, .inl h, hx, ha, q⟩
theorem x_niT {p : Addr} {xs : List V} (h : SqT K H p xs) (hx : flatV x = true) (ha : xs.all flatV = true) (q : Q (.bl (!inV x xs)) H) : rIn K true x (.ref p) H Q := ⟨p, xs, rfl, .inr h, hx, ha, q⟩
theorem flat_ints : ∀ ns : List Int, (ns.map V.int).all flatV = true
  | [] => rfl
  | n :: r => by
    rw [List.map_cons, List.all_cons, flat_ints r]
    rfl
theorem in_ints (i : Int) : ∀ ns : List Int, inV (.int i) (ns.map V.int) = decide (i ∈ ns)
  | [] => by simp [inV]
  | n :: r => by
    have h := in_ints i r
    unfold inV at h ⊢
    rw [List.map_cons, List.any_cons, h]
    by_cases e : n = i
    · subst e
      simp [eqV]
    · have e' : ¬ i = n := fun z => e z.symm
      simp [eqV, e, e']

def nIsN : R2 := fun x y H Q => y = .non ∧ Q (.bl (decide (x = .non))) H
def nNotN : R2 := fun x y H Q => y = .non ∧ Q (.bl (!decide (x = .non))) H
theorem op_nIsN {X : Cx} : OpR X (compareOp .Is) nIsN := op_isN
theorem op_nNotN {X : Cx} : OpR X (compareOp .IsNot) nNotN := op_notN
theorem x_nIsN (q : Q (.bl (decide (x = .non))) H) : nIsN x .non H Q := ⟨rfl, q⟩
theorem x_nNotN (q : Q (.bl (!decide (x = .non))) H) : nNotN x .non H Q := ⟨rfl, q⟩
def nAndM : R2 := fun x y H Q => ∃ (i : Int) (k : Nat), x = .int i ∧ y = .int (2 ^ k - 1) ∧ Q (.int (i % 2 ^ k)) H
theorem op_nAndM {X : Cx} : OpR X (binaryOp .BitAnd) nAndM := op_andM
theorem x_and255 (q : Q (.int (i % 256)) H) : nAndM (.int i) (.int 255) H Q := ⟨i, 8, rfl, rfl, q⟩

/-! ### the same rules, K told: within a comprehension's block too -/
section
variable {X : Cx} {w : World}
theorem k_in (e : X.K = K) : OpR X (compareOp .In) (rIn K false) := e ▸ op_in_seq
theorem k_enum {e : Expr} {ta : TA} {p pos tpos : Pos} {elts : List Expr} {kk : Nat} (hk : X.K = K) (hg : Gl X "enumerate") (hm : X.mg "enumerate" = none) (ha : PA X [e] ta) (hs : starEach [e] X.env = [(false, eval e X.env)] := by rfl) :
    PI X (.Tuple elts kk tpos) (.Call (.Name "enumerate" p) [e] [] pos) (iEnum K ta) := hk ▸ pi_enum hg hm ha hs
theorem k_gtup {es : List Expr} {k : Nat} {pos : Pos} {gs : TGs} {n : Nat} (hk : X.K = K) (hc : X.calm = true) (h : PGs X es gs)
    (hn : (assignEach es X.env).length = n := by rfl) (hst : (assignEach es X.env).findIdx? (·.1) = none := by rfl) : PG X (.Tuple es k pos) (gTup K n gs) := hk ▸ pg_tup hc h hn hst
theorem k_nin (e : X.K = K) : OpR X (compareOp .NotIn) (rIn K true) := e ▸ op_notIn_seq
theorem k_ixL (e : X.K = K) : IxR X (rIxL K) := e ▸ ix_list
theorem k_ixT (e : X.K = K) : IxR X (rIxT K) := e ▸ ix_tup
theorem k_slL (e : X.K = K) : SlR X (rSlL K) := e ▸ sl_list
theorem k_len (e : X.K = K) : CallR X (.builtin "len") (nLen K) := e ▸ call_nLen
theorem k_list (e : X.K = K) : CallR X (.type "list") (nListOf K) := e ▸ call_nListOf
theorem k_tuple (e : X.K = K) : CallR X (.type "tuple") (nTupleOf K) := e ▸ call_nTupleOf
theorem k_isi (e : X.K = K) : CallR X (.builtin "isinstance") (rIsi K) := e ▸ call_isi
theorem k_all (hc : X.calm = true) (e : X.K = K) : CallR X (.builtin "all") (rAll K) := e ▸ cr_all hc
theorem k_any (hc : X.calm = true) (e : X.K = K) : CallR X (.builtin "any") (rAny K) := e ▸ cr_any hc
theorem k_sum (hc : X.calm = true) (e : X.K = K) : CallR X (.builtin "sum") (rSum K) := e ▸ cr_sum hc
theorem k_sorted (e : X.K = K) : CallR X (.builtin "sorted") (rSorted K) := e ▸ cr_sorted
theorem k_sortedS (e : X.K = K) : CallR X (.builtin "sorted") (rSortedS K) := e ▸ cr_sortedS
theorem k_sortedSet (hc : X.calm = true) (e : X.w = w) : CallR X (.builtin "sorted") (rSortedSet w) := e ▸ cr_sortedSet hc
theorem k_setOfI (hc : X.calm = true) (e : X.K = K) (e' : X.w = w) : CallR X (.type "set") (rSetOfI K w) := e ▸ e' ▸ cr_setOfI hc
theorem k_eqD (hu : X.A.units + 64 < cLine) (e : X.K = K) : OpR X (compareOp .Eq) (rEqD K) := e ▸ op_eqD hu
theorem k_neD (hu : X.A.units + 64 < cLine) (e : X.K = K) : OpR X (compareOp .NotEq) (rNeD K) := e ▸ op_neD hu
end

/-! ### tests -/
theorem x_test {R : Bool → Hp → Prop} (q : te σ H fun x H1 => ∃ k, x = .bl k ∧ R k H1) : tTest te σ H R := q
theorem x_B {R : Bool → Hp → Prop} (q : te σ H fun x H1 => ∃ k, x = .bl k ∧ R k H1) : tB te σ H R := q
theorem x_and {R : Bool → Hp → Prop} (q : t σ H fun c H1 => if c = true then u σ H1 R else R false H1) : tAnd t u σ H R := q
theorem x_or {R : Bool → Hp → Prop} (q : t σ H fun c H1 => if c = true then R true H1 else u σ H1 R) : tOr t u σ H R := q
theorem x_not {R : Bool → Hp → Prop} (q : t σ H fun c H1 => R (!c) H1) : tNot t σ H R := q
theorem x_yes {R : Bool → Hp → Prop} (q : R true H) : tYes σ H R := q
theorem x_chain {r r' : R2} (q : ta σ H fun x H1 => tb σ H1 fun y H2 => r x y H2 fun z H3 => ∃ k, z = .bl k ∧ (if k = true then tc σ H3 fun w' H4 => r' y w' H4 Q else Q (.bl false) H3)) : tChain r r' ta tb tc σ H Q := q
theorem x_itd {p A B : Prop} [Decidable p] (h1 : p → A) (h2 : ¬p → B) : if decide p = true then A else B := by
  by_cases h : p
  · rw [if_pos (decide_eq_true h)]
    exact h1 h
  · rw [if_neg (by rw [decide_eq_false h]; decide)]
    exact h2 h
theorem x_itn {p A B : Prop} [Decidable p] (h1 : ¬p → A) (h2 : p → B) : if (!decide p) = true then A else B := by
  by_cases h : p
  · rw [decide_eq_true h, if_neg (by decide)]
    exact h2 h
  · rw [decide_eq_false h, if_pos (by decide)]
    exact h1 h
theorem x_itb {A B : Prop} (h1 : b = true → A) (h2 : b = false → B) : if b = true then A else B := by
  cases b with
  | true => rw [if_pos rfl]; exact h1 rfl
  | false => rw [if_neg (by decide)]; exact h2 rfl
theorem x_itnb {A B : Prop} (h1 : b = false → A) (h2 : b = true → B) : if (!b) = true then A else B := by
  cases b with
  | true => exact h2 rfl
  | false => exact h1 rfl

theorem x_nT {A B : Prop} (h : B) : if (!true) = true then A else B := h
theorem x_nF {A B : Prop} (h : A) : if (!false) = true then A else B := h
theorem x_dY {p A B : Prop} [Decidable p] (hp : p) (h : A) : if decide p = true then A else B := x_itd (fun _ => h) fun z => absurd hp z
theorem x_dN {p A B : Prop} [Decidable p] (hp : ¬p) (h : B) : if decide p = true then A else B := x_itd (fun z => absurd z hp) fun _ => h
theorem x_ndY {p A B : Prop} [Decidable p] (hp : p) (h : B) : if (!decide p) = true then A else B := x_itn (fun z => absurd hp z) fun _ => h
theorem x_ndN {p A B : Prop} [Decidable p] (hp : ¬p) (h : A) : if (!decide p) = true then A else B := x_itn (fun _ => h) fun z => absurd z hp

/-! ### statements -/
theorem x_seq (q : tu { D with nx := tz D } σ H) : tSeq tu tz D σ H := q
theorem x_sasg {n : Nat} (q : te σ H fun v H1 => tz D (σ.set n (some v)) H1) : tSeq (tAsg te (gName n)) tz D σ H := q
theorem x_asg {n : Nat} (q : te σ H fun v H1 => D.nx (σ.set n (some v)) H1) : tAsg te (gName n) D σ H := q
theorem x_sasgG (q : te σ H fun v H1 => g v σ H1 (tz D)) : tSeq (tAsg te g) tz D σ H := q
theorem x_asgG (q : te σ H fun v H1 => g v σ H1 D.nx) : tAsg te g D σ H := q
theorem x_ret (q : te σ H D.rt) : tRet te D σ H := q
theorem x_retN (q : D.rt .non H) : tRetN D σ H := q
theorem x_next (q : D.nx σ H) : tNext D σ H := q
theorem x_brk (q : D.bk σ H) : tBreak D σ H := q
theorem x_ct (q : D.ct σ H) : tCont D σ H := q
theorem x_sif (q : t σ H fun b H1 => if b = true then tu { D with nx := tz D } σ H1 else tw { D with nx := tz D } σ H1) : tSeq (tIfS t tu tw) tz D σ H := q
theorem x_ifS (q : t σ H fun b H1 => if b = true then tu D σ H1 else tw D σ H1) : tIfS t tu tw D σ H := q
theorem x_sdrop (q : te σ H fun _ H1 => tz D σ H1) : tSeq (tDrop te) tz D σ H := q
theorem x_drop (q : te σ H fun _ H1 => D.nx σ H1) : tDrop te D σ H := q
theorem x_saug {n : Nat} {ti : TIp} (h : σ[n]? = some (some x)) (q : te σ H fun y H1 => ti x y H1 fun z H2 => tz D (σ.set n (some z)) H2) : tSeq (tAug n te ti) tz D σ H := ⟨x, h, q⟩
theorem x_aug {n : Nat} {ti : TIp} (h : σ[n]? = some (some x)) (q : te σ H fun y H1 => ti x y H1 fun z H2 => D.nx (σ.set n (some z)) H2) : tAug n te ti D σ H := ⟨x, h, q⟩
theorem x_ipI {f : Int → Int → Int} (q : Q (.int (f i j)) H) : ipI f (.int i) (.int j) H Q := ⟨i, j, rfl, rfl, q⟩
/-- an if, then the rest: what follows is shown once -/
theorem x_cut (M : L2.St → Hp → Prop) (h : tu { D with nx := M } σ H) (k : ∀ σ' H', M σ' H' → tz D σ' H') : Evl.tCut tu tz D σ H := ⟨M, h, k⟩
theorem x_nocut (h : tu { D with nx := tz D } σ H) : Evl.tCut tu tz D σ H := ⟨_, h, fun _ _ q => q⟩

theorem x_nocutW (h : tSeq (tWhile t tu) tz D σ H) : Evl.tCut (tWhile t tu) tz D σ H := ⟨_, h, fun _ _ q => q⟩

/-! ### targets -/
theorem x_gName {n : Nat} {R : L2.St → Hp → Prop} (q : R (σ.set n (some v)) H) : gName n v σ H R := q
theorem x_gTup {n : Nat} {gs : TGs} {R : L2.St → Hp → Prop} {a : Addr} {xs : List V} (h : SqT K H a xs) (hn : xs.length = n) (q : gs xs σ H R) : gTup K n gs (.ref a) σ H R := ⟨a, xs, rfl, h, hn, q⟩
theorem x_gLst {n : Nat} {gs : TGs} {R : L2.St → Hp → Prop} {a : Addr} {xs : List V} (h : SqL K H a xs) (hn : xs.length = n) (q : gs xs σ H R) : gLst K n gs (.ref a) σ H R := ⟨a, xs, rfl, h, hn, q⟩
theorem x_gCons {gs : TGs} {R : L2.St → Hp → Prop} {vs : List V} (q : g v σ H fun σ' H' => gs vs σ' H' R) : gCons g gs (v :: vs) σ H R := ⟨v, vs, rfl, q⟩
theorem x_gNil {R : L2.St → Hp → Prop} (q : R σ H) : gNil [] σ H R := ⟨rfl, q⟩
theorem x_gSub {to ti : TE} {ts : TSet} {R : L2.St → Hp → Prop} (q : to σ H fun o H1 => ti σ H1 fun i H2 => ts o i v H2 fun H3 => R σ H3) : gSub to ti ts v σ H R := q
theorem ixN_nat {n j : Nat} (hj : j < n) : ixN n (j : Int) = some j := by
  unfold ixN
  rw [if_pos (by omega), if_pos (by omega)]
  simp
theorem ixN_of {n j : Nat} {k : Int} (e : k = (j : Int)) (hj : j < n) : ixN n k = some j := by
  rw [e]
  exact ixN_nat hj
theorem at_nat {α : Type} {xs : List α} {k : Int} {j : Nat} {v : α} (e : k = (j : Int)) (h : xs[j]? = some v) : atI xs k = some v := by
  rw [e]
  exact atI_nat h
theorem at_neg {α : Type} {xs : List α} {k : Int} {j : Nat} {v : α} (hk : k < 0) (e : k + (xs.length : Int) = (j : Int)) (h : xs[j]? = some v) : atI xs k = some v := by
  unfold atI ixN
  rw [if_neg (by omega), if_pos (by omega)]
  have e2 : (k + (xs.length : Int)).toNat = j := by omega
  rw [e2]
  exact h
theorem x_setL {p : Addr} {xs : List V} {k : Int} {j : Nat} {R : Hp → Prop} (h : H p = some (.lst xs)) (hj : ixN xs.length k = some j) (q : R (upd H p (.lst (xs.set j v)))) : rSetL (.ref p) (.int k) v H R := ⟨p, xs, k, j, rfl, rfl, h, hj, q⟩
/-- xs.append(e) -/
theorem x_bm {T : String} {r : V → List V → Hp → VK → Prop} {tr : TA} (q : te σ H fun x H1 => tyV K T x H1 ∧ tr σ H1 fun xs H2 => r x xs H2 Q) : tBM K T r te tr σ H Q := q
theorem x_bm0 {T : String} {r : V → List V → Hp → VK → Prop} (q : te σ H fun x H1 => tyV K T x H1 ∧ r x [] H1 Q) : tBM0 K T r te σ H Q := q
theorem x_tyL {a : Addr} {xs : List V} {P : Prop} (h : SqL K H a xs) (q : P) : tyV K "list" (.ref a) H ∧ P := ⟨.inl ⟨rfl, xs, h⟩, q⟩
theorem x_app {l : Addr} {xs : List V} (h : H l = some (.lst xs)) (hz : xs.length < 100000) (q : Q .non (upd H l (.lst (xs ++ [v])))) : rAppend (.ref l) [v] H Q := ⟨l, xs, v, rfl, rfl, h, size_lt hz, q⟩
theorem x_cat {a c : Addr} {xs ys : List V} (h : H a = some (.lst xs)) (h' : H c = some (.lst ys)) (hz : xs.length + ys.length ≤ 100000) (k : ∀ p H2, Fr p H → Same H H2 → H2 p = some (.lst (xs ++ ys)) → Q (.ref p) H2) : rCat (.ref a) (.ref c) H Q :=
  ⟨a, c, xs, ys, rfl, rfl, h, h', size_ok hz, x_new1 k⟩
theorem x_slL {a : Addr} {xs : List V} {lo hi : Option Int} (h : SqL K H a xs) (k : ∀ p H2, Fr p H → Same H H2 → H2 p = some (.lst (cutV xs lo hi)) → Q (.ref p) H2) : rSlL K (.ref a) lo hi H Q := ⟨a, xs, rfl, h, x_new1 k⟩

/-! ### loops -/
theorem x_forR {n : Nat} (q : te σ H fun x H1 => ∃ m : Int, x = .int m ∧ 0 ≤ m ∧ m ≤ 100000 ∧ ∃ Pv : Nat → L2.St → Hp → Prop, Pv 0 σ H1 ∧
      (∀ (i : Nat) σ' H', (i : Int) < m → Pv i σ' H' → tu { D with nx := Pv (i + 1), ct := Pv (i + 1), bk := D.nx } (σ'.set n (some (.int (i : Int)))) H') ∧ (∀ σ' H', Pv m.toNat σ' H' → D.nx σ' H'))
    (mono : ∀ Q Q' : VK, (∀ v H1, Q v H1 → Q' v H1) → te σ H Q → te σ H Q') : tFor (iRng1 (tCons te tNil)) (gName n) tu D σ H := by
  refine mono _ _ (fun v H1 h => ?_) q
  obtain ⟨m, rfl, h0, h1, Pv, p0, ps, pd⟩ := h
  refine ⟨m, rfl, by omega, by omega, for_range (lo := 0) (n := m.toNat) Pv p0 (fun i σ' H' hi p => ?_) pd⟩
  have e0 : (0 : Int) + (i : Int) = (i : Int) := Int.zero_add _
  show tu { D with nx := Pv (i + 1), ct := Pv (i + 1), bk := D.nx } (σ'.set n (some (.int ((0 : Int) + (i : Int))))) H'
  rw [e0]
  exact ps i σ' H' (by omega) p
def RRange (n : Nat) (m : Int) (tu : TS) (D : Ends) (σ : L2.St) (H : Hp) : Prop := ∃ Pv : Nat → L2.St → Hp → Prop, Pv 0 σ H ∧
      (∀ (i : Nat) σ' H', (i : Int) < m → Pv i σ' H' → tu { D with nx := Pv (i + 1), ct := Pv (i + 1), bk := D.nx } (σ'.set n (some (.int (i : Int)))) H') ∧ (∀ σ' H', Pv m.toNat σ' H' → D.nx σ' H')
def rRange (n : Nat) (tu : TS) (D : Ends) (σ : L2.St) : List V → Hp → Prop := fun vs H => ∃ j : Int, vs = [.int j] ∧ -(2 ^ 62) ≤ j ∧ j < 2 ^ 62 ∧ ∃ W : Nat → Nat → L2.St → Hp → Prop, (∃ m, W 0 m σ H) ∧ ∀ i m σ H, W i m σ H →
  ((Itr 0 j.toNat).stop i H ∧ D.nx σ H) ∨ ((Itr 0 j.toNat).go i H ∧ ∃ N : L2.St → Hp → Prop, (∀ σ' H', N σ' H' → ∃ m', m' < m ∧ W (i + 1) m' σ' H') ∧ ∀ x H', (Itr 0 j.toNat).yld i H x H' → gName n x σ H' fun σ2 H2 => tu { D with nx := N, ct := N, bk := D.nx } σ2 H2)
theorem x_forR1 {n : Nat} {tr : TA} (q : tr σ H (rRange n tu D σ)) : tFor (iRng1 tr) (gName n) tu D σ H := q
theorem x_range {n : Nat} {m : Int} (Pv : Nat → L2.St → Hp → Prop) (hm : 0 ≤ m ∧ m ≤ 100000) (p0 : Pv 0 σ H)
    (ps : ∀ (i : Nat) σ' H', (i : Int) < m → Pv i σ' H' → tu { D with nx := Pv (i + 1), ct := Pv (i + 1), bk := D.nx } (σ'.set n (some (.int (i : Int)))) H') (pd : ∀ σ' H', Pv m.toNat σ' H' → D.nx σ' H') : rRange n tu D σ [.int m] H := by
  refine ⟨m, rfl, by omega, by omega, for_range (lo := 0) (n := m.toNat) Pv p0 (fun i σ' H' hi p => ?_) pd⟩
  have e0 : (0 : Int) + (i : Int) = (i : Int) := Int.zero_add _
  show tu { D with nx := Pv (i + 1), ct := Pv (i + 1), bk := D.nx } (σ'.set n (some (.int ((0 : Int) + (i : Int))))) H'
  rw [e0]
  exact ps i σ' H' (by omega) p
def rForL (K : PySem.W.Frag) (g : TG) (tu : TS) (D : Ends) (σ : L2.St) : VK := fun x H => ∃ a, x = .ref a ∧ (∃ xs, SqL K H a xs) ∧ ∃ W : Nat → Nat → L2.St → Hp → Prop, (∃ m, W 0 m σ H) ∧ ∀ i m σ H, W i m σ H →
  ((Itl K a).stop i H ∧ D.nx σ H) ∨ ((Itl K a).go i H ∧ ∃ N : L2.St → Hp → Prop, (∀ σ' H', N σ' H' → ∃ m', m' < m ∧ W (i + 1) m' σ' H') ∧ ∀ x H', (Itl K a).yld i H x H' → g x σ H' fun σ2 H2 => tu { D with nx := N, ct := N, bk := D.nx } σ2 H2)
theorem x_forL1 (q : te σ H (rForL K g tu D σ)) : tFor (iList K te) g tu D σ H := q
theorem x_forL {a : Addr} {xs : List V} (Pv : Nat → L2.St → Hp → Prop) (hx : SqL K H a xs) (p0 : Pv 0 σ H) (hl : ∀ i σ' H', i ≤ xs.length → Pv i σ' H' → SqL K H' a xs)
    (ps : ∀ i x σ' H', xs[i]? = some x → Pv i σ' H' → g x σ' H' fun σ2 H2 => tu { D with nx := Pv (i + 1), ct := Pv (i + 1), bk := D.nx } σ2 H2) (pd : ∀ σ' H', Pv xs.length σ' H' → D.nx σ' H') : rForL K g tu D σ (.ref a) H :=
  ⟨a, rfl, ⟨xs, hx⟩, for_list Pv p0 hl ps pd⟩
def rForT (K : PySem.W.Frag) (g : TG) (tu : TS) (D : Ends) (σ : L2.St) : VK := fun x H => ∃ a, x = .ref a ∧ (∃ xs, SqT K H a xs) ∧ ∃ W : Nat → Nat → L2.St → Hp → Prop, (∃ m, W 0 m σ H) ∧ ∀ i m σ H, W i m σ H →
  ((Itt K a).stop i H ∧ D.nx σ H) ∨ ((Itt K a).go i H ∧ ∃ N : L2.St → Hp → Prop, (∀ σ' H', N σ' H' → ∃ m', m' < m ∧ W (i + 1) m' σ' H') ∧ ∀ x H', (Itt K a).yld i H x H' → g x σ H' fun σ2 H2 => tu { D with nx := N, ct := N, bk := D.nx } σ2 H2)
theorem x_forT1 (q : te σ H (rForT K g tu D σ)) : tFor (iTup K te) g tu D σ H := q
theorem x_forT {a : Addr} {xs : List V} (Pv : Nat → L2.St → Hp → Prop) (hx : SqT K H a xs) (p0 : Pv 0 σ H) (hl : ∀ i σ' H', i ≤ xs.length → Pv i σ' H' → SqT K H' a xs)
    (ps : ∀ i x σ' H', xs[i]? = some x → Pv i σ' H' → g x σ' H' fun σ2 H2 => tu { D with nx := Pv (i + 1), ct := Pv (i + 1), bk := D.nx } σ2 H2) (pd : ∀ σ' H', Pv xs.length σ' H' → D.nx σ' H') : rForT K g tu D σ (.ref a) H :=
  ⟨a, rfl, ⟨xs, hx⟩, for_tup Pv p0 hl ps pd⟩
/-- while: W by a number that falls -/
def Falls (W : Nat → L2.St → Hp → Prop) (m : Nat) : L2.St → Hp → Prop := fun σ' H' => ∃ m', m' < m ∧ W m' σ' H'
theorem x_while (W : Nat → L2.St → Hp → Prop) (m0 : Nat) (h0 : W m0 σ H) (hs : ∀ m σ' H', W m σ' H' → t σ' H' fun b H1 => if b = true then tu { D with nx := Falls W m, ct := Falls W m, bk := D.nx } σ' H1 else D.nx σ' H1)
    (mono : ∀ (σ' : L2.St) (H' : Hp) (R R' : Bool → Hp → Prop), (∀ y H4, R y H4 → R' y H4) → t σ' H' R → t σ' H' R') : tWhile t tu D σ H :=
  ⟨W, ⟨m0, h0⟩, fun m σ' H' hw => mono _ _ _ _ (fun b H1 q => by
    cases b with
    | true =>
      rw [if_pos rfl] at q ⊢
      exact ⟨Falls W m, fun _ _ h => h, q⟩
    | false =>
      rw [if_neg (by decide)] at q ⊢
      exact q) (hs m σ' H' hw)⟩
def WTurn (W : Nat → L2.St → Hp → Prop) (m : Nat) (tu : TS) (D : Ends) (σ : L2.St) : Bool → Hp → Prop := fun b H1 => if b = true then ∃ N : L2.St → Hp → Prop, (∀ σ' H', N σ' H' → ∃ m', m' < m ∧ W m' σ' H') ∧ tu { D with nx := N, ct := N, bk := D.nx } σ H1 else D.nx σ H1
theorem x_while1 (W : Nat → L2.St → Hp → Prop) (m0 : Nat) (h0 : W m0 σ H) (hs : ∀ m σ' H', W m σ' H' → t σ' H' (WTurn W m tu D σ')) : tWhile t tu D σ H := ⟨W, ⟨m0, h0⟩, hs⟩
theorem x_wT {W : Nat → L2.St → Hp → Prop} {m : Nat} (q : tu { D with nx := Falls W m, ct := Falls W m, bk := D.nx } σ H) : WTurn W m tu D σ true H := by
  unfold WTurn
  rw [if_pos rfl]
  exact ⟨Falls W m, fun _ _ h => h, q⟩
theorem x_wF {W : Nat → L2.St → Hp → Prop} {m : Nat} (q : D.nx σ H) : WTurn W m tu D σ false H := by
  unfold WTurn
  rw [if_neg (by decide)]
  exact q
theorem x_wd {W : Nat → L2.St → Hp → Prop} {m : Nat} {p : Prop} [Decidable p] (h1 : p → WTurn W m tu D σ true H) (h2 : ¬p → WTurn W m tu D σ false H) : WTurn W m tu D σ (decide p) H := by
  by_cases h : p
  · rw [decide_eq_true h]
    exact h1 h
  · rw [decide_eq_false h]
    exact h2 h
theorem x_wn {W : Nat → L2.St → Hp → Prop} {m : Nat} {p : Prop} [Decidable p] (h1 : ¬p → WTurn W m tu D σ true H) (h2 : p → WTurn W m tu D σ false H) : WTurn W m tu D σ (!decide p) H := by
  by_cases h : p
  · rw [decide_eq_true h]
    exact h2 h
  · rw [decide_eq_false h]
    exact h1 h

/-! ### comprehensions -/
def RLc (J : It) (g : TG) (tt : TT) (te : TE) (vs : List Nat) (σ : L2.St) (Q : VK) : Hp → Prop := fun H1 => ∀ D, H1 D = none → ∃ W : Nat → Nat → Hp → Prop, (∃ m, W 0 m (upd H1 D (.lst []))) ∧ ∀ i m H, W i m H →
  (J.stop i H ∧ Q (.ref D) H) ∨ (J.go i H ∧ ∃ Nx : Hp → Prop, (∀ H', Nx H' → ∃ m', m' < m ∧ W (i + 1) m' H') ∧ ∀ x H', J.yld i H x H' → g x (wipe σ vs) H' fun σ2 H2 => wipe σ2 vs = wipe σ vs ∧ tt σ2 H2 fun b H3 =>
    if b = true then te σ2 H3 fun y H4 => ∃ acc, H4 D = some (.lst acc) ∧ acc.length < sizeLine ∧ Nx (upd H4 D (.lst (acc ++ [y]))) else Nx H3)
def rLcL (K : PySem.W.Frag) (g : TG) (tt : TT) (te : TE) (vs : List Nat) (σ : L2.St) (Q : VK) : VK := fun x H1 => ∃ a, x = .ref a ∧ (∃ xs, SqL K H1 a xs) ∧ RLc (Itl K a) g tt te vs σ Q H1
def rLcT (K : PySem.W.Frag) (g : TG) (tt : TT) (te : TE) (vs : List Nat) (σ : L2.St) (Q : VK) : VK := fun x H1 => ∃ a, x = .ref a ∧ (∃ xs, SqT K H1 a xs) ∧ RLc (Itt K a) g tt te vs σ Q H1
def rLcR (g : TG) (tt : TT) (te : TE) (vs : List Nat) (σ : L2.St) (Q : VK) : List V → Hp → Prop := fun xs H1 => ∃ j : Int, xs = [.int j] ∧ -(2 ^ 62) ≤ j ∧ j < 2 ^ 62 ∧ RLc (Itr 0 j.toNat) g tt te vs σ Q H1
theorem x_lcL1 {tx : TE} {vs : List Nat} (q : tx σ H (rLcL K g t te vs σ Q)) : tLc (iList K tx) g t te vs σ H Q := q
theorem x_lcT1 {tx : TE} {vs : List Nat} (q : tx σ H (rLcT K g t te vs σ Q)) : tLc (iTup K tx) g t te vs σ H Q := q
theorem x_lcR1 {tr : TA} {vs : List Nat} (q : tr σ H (rLcR g t te vs σ Q)) : tLc (iRng1 tr) g t te vs σ H Q := q
/-- a list comprehension: Pv of the new list's place, the turn and the heap -/
theorem x_lcL {a : Addr} {xs : List V} {vs : List Nat} (Pv : Addr → Nat → Hp → Prop) (hx : SqL K H a xs) (h0 : ∀ Dl, Fr Dl H → Pv Dl 0 (upd H Dl (.lst []))) (hl : ∀ Dl i H', Fr Dl H → Pv Dl i H' → SqL K H' a xs)
    (hs : ∀ Dl, Fr Dl H → ∀ i x H', xs[i]? = some x → Pv Dl i H' → g x (wipe σ vs) H' fun σ2 H2 => wipe σ2 vs = wipe σ vs ∧ t σ2 H2 fun b H3 =>
      if b = true then te σ2 H3 fun y H4 => ∃ acc, H4 Dl = some (.lst acc) ∧ acc.length < sizeLine ∧ Pv Dl (i + 1) (upd H4 Dl (.lst (acc ++ [y]))) else Pv Dl (i + 1) H3)
    (hd : ∀ Dl H', Fr Dl H → Pv Dl xs.length H' → Q (.ref Dl) H') : rLcL K g t te vs σ Q (.ref a) H := ⟨a, rfl, ⟨xs, hx⟩, fun Dl hD =>
  lc_list (xs := xs) (Pv Dl) (h0 Dl ⟨hD⟩) (fun i H' _ p => hl Dl i H' ⟨hD⟩ p) (fun i x H' hi p => hs Dl ⟨hD⟩ i x H' hi p) (fun H' p => hd Dl H' ⟨hD⟩ p)⟩
theorem x_lcT {a : Addr} {xs : List V} {vs : List Nat} (Pv : Addr → Nat → Hp → Prop) (hx : SqT K H a xs) (h0 : ∀ Dl, Fr Dl H → Pv Dl 0 (upd H Dl (.lst []))) (hl : ∀ Dl i H', Fr Dl H → Pv Dl i H' → SqT K H' a xs)
    (hs : ∀ Dl, Fr Dl H → ∀ i x H', xs[i]? = some x → Pv Dl i H' → g x (wipe σ vs) H' fun σ2 H2 => wipe σ2 vs = wipe σ vs ∧ t σ2 H2 fun b H3 =>
      if b = true then te σ2 H3 fun y H4 => ∃ acc, H4 Dl = some (.lst acc) ∧ acc.length < sizeLine ∧ Pv Dl (i + 1) (upd H4 Dl (.lst (acc ++ [y]))) else Pv Dl (i + 1) H3)
    (hd : ∀ Dl H', Fr Dl H → Pv Dl xs.length H' → Q (.ref Dl) H') : rLcT K g t te vs σ Q (.ref a) H := ⟨a, rfl, ⟨xs, hx⟩, fun Dl hD =>
  lc_tup (xs := xs) (Pv Dl) (h0 Dl ⟨hD⟩) (fun i H' _ p => hl Dl i H' ⟨hD⟩ p) (fun i x H' hi p => hs Dl ⟨hD⟩ i x H' hi p) (fun H' p => hd Dl H' ⟨hD⟩ p)⟩
theorem x_lcR {m : Int} {vs : List Nat} (Pv : Addr → Nat → Hp → Prop) (hm : 0 ≤ m ∧ m ≤ 100000) (h0 : ∀ Dl, Fr Dl H → Pv Dl 0 (upd H Dl (.lst [])))
    (hs : ∀ Dl, Fr Dl H → ∀ (i : Nat) H', (i : Int) < m → Pv Dl i H' → g (.int (i : Int)) (wipe σ vs) H' fun σ2 H2 => wipe σ2 vs = wipe σ vs ∧ t σ2 H2 fun b H3 =>
      if b = true then te σ2 H3 fun y H4 => ∃ acc, H4 Dl = some (.lst acc) ∧ acc.length < sizeLine ∧ Pv Dl (i + 1) (upd H4 Dl (.lst (acc ++ [y]))) else Pv Dl (i + 1) H3)
    (hd : ∀ Dl H', Fr Dl H → Pv Dl m.toNat H' → Q (.ref Dl) H') : rLcR g t te vs σ Q [.int m] H := ⟨m, rfl, by omega, by omega, fun Dl hD =>
  lc_range (lo := 0) (n := m.toNat) (Pv Dl) (h0 Dl ⟨hD⟩) (fun i H' hi p => by
    have e0 : (0 : Int) + (i : Int) = (i : Int) := Int.zero_add _
    rw [e0]
    exact hs Dl ⟨hD⟩ i H' (by omega) p) (fun H' p => hd Dl H' ⟨hD⟩ p)⟩
def rLcE (K : PySem.W.Frag) (g : TG) (tt : TT) (te : TE) (vs : List Nat) (σ : L2.St) (Q : VK) : List V → Hp → Prop := fun vs' H1 => ∃ a xs, vs' = [.ref a] ∧ SqL K H1 a xs ∧ RLc (Ite K a) g tt te vs σ Q H1
theorem x_lcE1 {tr : TA} {vs : List Nat} (q : tr σ H (rLcE K g t te vs σ Q)) : tLc (iEnum K tr) g t te vs σ H Q := q
theorem x_lcE {a : Addr} {xs : List V} {vs : List Nat} (Pv : Addr → Nat → Hp → Prop) (hx : SqL K H a xs) (h0 : ∀ Dl, Fr Dl H → Pv Dl 0 (upd H Dl (.lst []))) (hl : ∀ Dl i H', Fr Dl H → Pv Dl i H' → SqL K H' a xs)
    (hs : ∀ Dl, Fr Dl H → ∀ i x H1 T H', xs[i]? = some x → Pv Dl i H1 → Fr T H1 → Same H1 H' → H' T = some (.tup [.int (i : Nat), x]) → g (.ref T) (wipe σ vs) H' fun σ2 H2 => wipe σ2 vs = wipe σ vs ∧ t σ2 H2 fun b H3 =>
      if b = true then te σ2 H3 fun y H4 => ∃ acc, H4 Dl = some (.lst acc) ∧ acc.length < sizeLine ∧ Pv Dl (i + 1) (upd H4 Dl (.lst (acc ++ [y]))) else Pv Dl (i + 1) H3)
    (hd : ∀ Dl H', Fr Dl H → Pv Dl xs.length H' → Q (.ref Dl) H') : rLcE K g t te vs σ Q [.ref a] H := ⟨a, xs, rfl, hx, fun Dl hD =>
  lc_it walk_enum (Pv Dl) (h0 Dl ⟨hD⟩) (fun i H' _ p => hl Dl i H' ⟨hD⟩ p) (fun i x H1 H' hi p y => by
    obtain ⟨T, u, v, rfl, hT, rfl, e1, e2⟩ := y
    cases Option.some.inj e1
    exact hs Dl ⟨hD⟩ i v H1 T _ e2 p ⟨hT⟩ (same_new hT) upd_same) (fun H' p => hd Dl H' ⟨hD⟩ p)⟩
/-- the end of a turn: what is kept goes into the list -/
def Keep (Dl : Addr) (N : Hp → Prop) : VK := fun y H => ∃ acc, H Dl = some (.lst acc) ∧ acc.length < sizeLine ∧ N (upd H Dl (.lst (acc ++ [y])))
theorem x_keep {Dl : Addr} {N : Hp → Prop} {acc : List V} (h : H Dl = some (.lst acc)) (hz : acc.length < 100000) (q : N (upd H Dl (.lst (acc ++ [y])))) : ∃ acc, H Dl = some (.lst acc) ∧ acc.length < sizeLine ∧ N (upd H Dl (.lst (acc ++ [y]))) := ⟨acc, h, size_lt hz, q⟩
theorem x_wiped {A : Prop} {a b : L2.St} (h : a = b) (q : A) : a = b ∧ A := ⟨h, q⟩
end

/-! ### lists -/
theorem map_at {α β : Type} {f : α → β} {xs : List α} {j : Nat} {x : α} (h : xs[j]? = some x) : (xs.map f)[j]? = some (f x) := by
  rw [List.getElem?_map, h]
  rfl
theorem of_map_at {α β : Type} {f : α → β} {xs : List α} {j : Nat} {y : β} (h : (xs.map f)[j]? = some y) : ∃ x, xs[j]? = some x ∧ y = f x := by
  rw [List.getElem?_map] at h
  obtain ⟨x, hx, rfl⟩ := Option.map_eq_some_iff.mp h
  exact ⟨x, hx, rfl⟩
theorem at_lt {α : Type} {xs : List α} {j : Nat} {x : α} (h : xs[j]? = some x) : j < xs.length := (List.getElem?_eq_some_iff.mp h).1
theorem lt_at {α : Type} {xs : List α} {j : Nat} (h : j < xs.length) : ∃ x, xs[j]? = some x := ⟨xs[j], List.getElem?_eq_getElem h⟩
theorem drop_at {α : Type} {xs : List α} {j : Nat} {x : α} (h : xs[j]? = some x) : xs.drop j = x :: xs.drop (j + 1) := by
  obtain ⟨h1, h2⟩ := List.getElem?_eq_some_iff.mp h
  rw [List.drop_eq_getElem_cons h1, h2]
theorem snoc_map {α β : Type} {f : α → β} {xs : List α} {x : α} : xs.map f ++ [f x] = (xs ++ [x]).map f := by
  rw [List.map_append]
  rfl
theorem mem_snoc {α : Type} {P : α → Prop} {xs : List α} {x : α} (h : ∀ y ∈ xs, P y) (hx : P x) : ∀ y ∈ xs ++ [x], P y := fun y hy => by
  rcases List.mem_append.mp hy with hy | hy
  · exact h y hy
  · rw [List.mem_singleton.mp hy]
    exact hx

def upto (a b : Int) : List Int := (List.range (b - a).toNat).map fun i => a + (i : Nat)
theorem rgV_ints (a b : Int) : rgV a b = (upto a b).map V.int := by
  unfold rgV upto
  rw [List.map_map]
  rfl
theorem upto_len (a b : Int) : (upto a b).length = (b - a).toNat := by
  unfold upto
  rw [List.length_map, List.length_range]
def nRg (Q : VK) : Int → Int → Hp → Prop := fun a b H1 => RgOk a b ∧ ∀ q, H1 q = none → Q (.ref q) (upd H1 q (.lst (rgV a b)))
theorem x_lstRg {σ : L2.St} {H : Hp} {Q : VK} {te : L2.St → Hp → (Int → Int → Hp → Prop) → Prop} (q : te σ H (nRg Q)) : tLstRg te σ H Q := q
theorem x_rg1 {σ : L2.St} {H : Hp} {ta : TE} {R : Int → Int → Hp → Prop} (q : ta σ H fun x H1 => ∃ n, x = .int n ∧ R 0 n H1) : tRg1 ta σ H R := q
theorem x_nRg {H : Hp} {Q : VK} {a b : Int} (h : 0 ≤ a ∧ a ≤ 100000 ∧ 0 ≤ b ∧ b ≤ 100000) (k : ∀ p H2, Fr p H → Same H H2 → H2 p = some (.lst ((upto a b).map V.int)) → Q (.ref p) H2) : nRg Q a b H :=
  ⟨RgOk.of_le (by omega) (by omega) (by omega) (by omega), fun p hp => k p _ ⟨hp⟩ (same_new hp) (by rw [upd_same, rgV_ints])⟩
theorem upto_at {a b : Int} {j : Nat} (h : (j : Int) < b - a) : (upto a b)[j]? = some (a + j) := by
  unfold upto
  rw [List.getElem?_map, List.getElem?_range (by omega)]
  rfl

/-! ### lists of lists of ints -/
/-- at a stands a list of lists of ints: L their places and what they hold -/
def LL (H : Hp) (a : Addr) (L : List (Addr × List Int)) : Prop := H a = some (.lst (L.map fun e => V.ref e.1)) ∧ ∀ e ∈ L, H e.1 = some (.lst (e.2.map V.int))
theorem ll_same {H H' : Hp} {a : Addr} {L : List (Addr × List Int)} (e : Same H H') (h : LL H a L) : LL H' a L := ⟨e _ _ h.1, fun p hp => e _ _ (h.2 p hp)⟩
theorem ll_nil {H : Hp} {a : Addr} (h : H a = some (.lst [])) : LL H a [] := ⟨h, fun _ z => absurd z List.not_mem_nil⟩
theorem ll_snoc {H H' : Hp} {a p : Addr} {ns : List Int} {L : List (Addr × List Int)} (h : LL H a L) (h1 : H' a = some (.lst ((L.map fun e => V.ref e.1) ++ [V.ref p]))) (h2 : H' p = some (.lst (ns.map V.int))) (k : ∀ e ∈ L, H' e.1 = H e.1) : LL H' a (L ++ [(p, ns)]) := by
  refine ⟨?_, fun e he => ?_⟩
  · rw [h1, List.map_append]
    rfl
  · rcases List.mem_append.mp he with he | he
    · rw [k e he]
      exact h.2 e he
    · rw [List.mem_singleton.mp he]
      exact h2

/-! ### data -/
def dInts (ns : List Int) : List PyData := ns.map PyData.int
theorem dp_ints {K : PySem.W.Frag} {H : Hp} : ∀ ns : List Int, DpAll K H (ns.map V.int) (dInts ns)
  | [] => .nil
  | n :: r => .cons (.int n) (dp_ints r)
theorem canLay_ints : ∀ ns : List Int, PyData.canLayAll0 (dInts ns) = true
  | [] => by simp [dInts, PyData.canLayAll0]
  | n :: r => by
    have h := canLay_ints r
    unfold dInts at h ⊢
    rw [List.map_cons]
    simp only [PyData.canLayAll0, PyData.canLay0, h, Bool.and_self]
theorem eqv_ints : ∀ ns ms : List Int, PyData.eqvAll (dInts ns) (dInts ms) = decide (ns = ms)
  | [], [] => by simp [dInts, PyData.eqvAll]
  | [], m :: r => by simp [dInts, PyData.eqvAll]
  | n :: r, [] => by simp [dInts, PyData.eqvAll]
  | n :: r, m :: q => by
    have h := eqv_ints r q
    unfold dInts at h ⊢
    rw [List.map_cons, List.map_cons, PyData.eqvAll, h, PyData.eqv]
    by_cases h1 : n = m <;> by_cases h2 : r = q <;> simp [h1, h2]
theorem canLayAll_map {α : Type} {f : α → PyData} : ∀ (xs : List α), (∀ x ∈ xs, (f x).canLay0 = true) → PyData.canLayAll0 (xs.map f) = true
  | [], _ => by simp [PyData.canLayAll0]
  | x :: r, h => by
    have h1 := h x List.mem_cons_self
    have h2 := canLayAll_map r fun y hy => h y (List.mem_cons_of_mem _ hy)
    rw [List.map_cons]
    simp only [PyData.canLayAll0, h1, h2, Bool.and_self]
theorem depthAll_map {α : Type} {f : α → PyData} {n : Nat} : ∀ (xs : List α), (∀ x ∈ xs, (f x).depth ≤ n) → PyData.depthAll (xs.map f) ≤ n
  | [], _ => by simp [PyData.depthAll]
  | x :: r, h => by
    have h1 := h x List.mem_cons_self
    have h2 := depthAll_map r fun y hy => h y (List.mem_cons_of_mem _ hy)
    rw [List.map_cons, PyData.depthAll]
    omega
theorem depth_ints : ∀ ns : List Int, PyData.depthAll (dInts ns) = 0
  | [] => by simp [dInts, PyData.depthAll]
  | n :: r => by
    have h := depth_ints r
    unfold dInts at h ⊢
    rw [List.map_cons, PyData.depthAll, h, PyData.depth]
    rfl
theorem shaped_lints (ns : List Int) : SeqAt.shaped (.list (dInts ns)) = true := by
  unfold SeqAt.shaped
  rw [PyData.canLay0, canLay_ints, PyData.depth, depth_ints]
  rfl
theorem shaped_tints (ns : List Int) : SeqAt.shaped (.tuple (dInts ns)) = true := by
  unfold SeqAt.shaped
  rw [PyData.canLay0, canLay_ints, PyData.depth, depth_ints]
  rfl
theorem eqv_lints (ns ms : List Int) : PyData.eqv (.list (dInts ns)) (.list (dInts ms)) = decide (ns = ms) := by
  rw [PyData.eqv]
  exact eqv_ints ns ms
theorem eqv_tints (ns ms : List Int) : PyData.eqv (.tuple (dInts ns)) (.tuple (dInts ms)) = decide (ns = ms) := by
  rw [PyData.eqv]
  exact eqv_ints ns ms
theorem shaped_of {d : PyData} (h1 : d.canLay0 = true) (h2 : d.depth ≤ 64) : SeqAt.shaped d = true := by
  unfold SeqAt.shaped
  rw [h1, decide_eq_true h2]
  rfl
theorem canLay_lints (ns : List Int) : PyData.canLay0 (.list (dInts ns)) = true := by
  rw [PyData.canLay0, canLay_ints]
theorem depth_lints (ns : List Int) : PyData.depth (.list (dInts ns)) = 1 := by
  rw [PyData.depth, depth_ints]
/-- lists of lists of ints as data -/
def dLists (ps : List (List Int)) : List PyData := ps.map fun p => .list (dInts p)
theorem canLay_lists (ps : List (List Int)) : PyData.canLayAll0 (dLists ps) = true := canLayAll_map ps fun p _ => canLay_lints p
theorem depth_lists (ps : List (List Int)) : PyData.depthAll (dLists ps) ≤ 1 := depthAll_map ps fun p _ => Nat.le_of_eq (depth_lints p)
theorem dp_list {K : PySem.W.Frag} {H : Hp} : ∀ (L : List (Addr × List Int)), (∀ e ∈ L, H e.1 = some (.lst (e.2.map V.int))) → DpAll K H (L.map fun e => V.ref e.1) (dLists (L.map (·.2)))
  | [], _ => .nil
  | e :: r, h => .cons (.lst (sq_of (h e List.mem_cons_self)) (dp_ints _)) (dp_list r fun x hx => h x (List.mem_cons_of_mem _ hx))
theorem dp_LL {K : PySem.W.Frag} {H : Hp} {a : Addr} {L : List (Addr × List Int)} (h : LL H a L) : Dp K H (.ref a) (.list (dLists (L.map (·.2)))) := .lst (sq_of h.1) (dp_list L h.2)
mutual
theorem dp_same {K : PySem.W.Frag} {H H' : Hp} (e : Same H H') : ∀ (d : PyData) (v : V), Dp K H v d → Dp K H' v d
  | .none, _, h => by cases h; exact .non
  | .bool b, _, h => by cases h; exact .bl b
  | .int i, _, h => by cases h; exact .int i
  | .str x, _, h => by cases h; exact .str x
  | .list ds, _, h => by
    cases h with
    | lst hs ha => exact .lst (sq_same hs e) (dpAll_same e ds _ ha)
  | .tuple ds, _, h => by
    cases h with
    | tup hs ha => exact .tup (st_same hs e) (dpAll_same e ds _ ha)
  | .dict _, _, h => by cases h
theorem dpAll_same {K : PySem.W.Frag} {H H' : Hp} (e : Same H H') : ∀ (ds : List PyData) (vs : List V), DpAll K H vs ds → DpAll K H' vs ds
  | [], _, h => by cases h; exact .nil
  | d :: ds, _, h => by
    cases h with
    | cons h1 h2 => exact .cons (dp_same e d _ h1) (dpAll_same e ds _ h2)
end
/-- equal data -/
theorem x_neSame {K : PySem.W.Frag} {H : Hp} {Q : VK} {x y : V} {d : PyData} (h : Dp K H x d) (h' : Dp K H y d) (c : d.canLay0 = true) (n : d.depth ≤ 64) (q : Q (.bl false) H) : rNeD K x y H Q :=
  ⟨d, d, h, h', shaped_of c n, shaped_of c n, by rw [SeqAt.eqv_refl d c]; exact q⟩
theorem x_eqSame {K : PySem.W.Frag} {H : Hp} {Q : VK} {x y : V} {d : PyData} (h : Dp K H x d) (h' : Dp K H y d) (c : d.canLay0 = true) (n : d.depth ≤ 64) (q : Q (.bl true) H) : rEqD K x y H Q :=
  ⟨d, d, h, h', shaped_of c n, shaped_of c n, by rw [SeqAt.eqv_refl d c]; exact q⟩
section
variable {K : PySem.W.Frag} {H : Hp} {Q : VK} {a c : Addr} {ns ms : List Int}
theorem x_neInts (h : SqL K H a (ns.map V.int)) (h' : SqL K H c (ms.map V.int)) (q : Q (.bl (!decide (ns = ms))) H) : rNeD K (.ref a) (.ref c) H Q :=
  ⟨.list (dInts ns), .list (dInts ms), .lst h (dp_ints ns), .lst h' (dp_ints ms), shaped_lints ns, shaped_lints ms, by rw [eqv_lints]; exact q⟩
theorem x_eqInts (h : SqL K H a (ns.map V.int)) (h' : SqL K H c (ms.map V.int)) (q : Q (.bl (decide (ns = ms))) H) : rEqD K (.ref a) (.ref c) H Q :=
  ⟨.list (dInts ns), .list (dInts ms), .lst h (dp_ints ns), .lst h' (dp_ints ms), shaped_lints ns, shaped_lints ms, by rw [eqv_lints]; exact q⟩
theorem x_neTInts (h : SqT K H a (ns.map V.int)) (h' : SqT K H c (ms.map V.int)) (q : Q (.bl (!decide (ns = ms))) H) : rNeD K (.ref a) (.ref c) H Q :=
  ⟨.tuple (dInts ns), .tuple (dInts ms), .tup h (dp_ints ns), .tup h' (dp_ints ms), shaped_tints ns, shaped_tints ms, by rw [eqv_tints]; exact q⟩
theorem x_eqTInts (h : SqT K H a (ns.map V.int)) (h' : SqT K H c (ms.map V.int)) (q : Q (.bl (decide (ns = ms))) H) : rEqD K (.ref a) (.ref c) H Q :=
  ⟨.tuple (dInts ns), .tuple (dInts ms), .tup h (dp_ints ns), .tup h' (dp_ints ms), shaped_tints ns, shaped_tints ms, by rw [eqv_tints]; exact q⟩
end
end Xk
/-! ## slices stored and deleted, properties, own objects -/
namespace Xk
open PySem PySem.Spec PyProof.Rows L2
section
variable {X : Cx} {o : Expr} {lo hi : Option Expr} {to : TE} {tl th : TO} {pos p2 tpos : Pos}
/-- o[lo:hi] = another list -/
def gSubSl (to : TE) (tl th : TO) : TG := fun v σ H R => to σ H fun x H1 => tl σ H1 fun l H2 => th σ H2 fun u H3 => ∃ (a b : Addr) (xs ys : List V) (i j : Int), x = .ref a ∧ v = .ref b ∧ l = some i ∧ u = some j ∧
  H3 a = some (.lst xs) ∧ H3 b = some (.lst ys) ∧ a ≠ b ∧ 0 ≤ i ∧ i ≤ j ∧ j ≤ xs.length ∧ xs.length + ys.length ≤ sizeLine ∧ R σ (upd H3 a (.lst (xs.take i.toNat ++ ys ++ xs.drop j.toNat)))
theorem pg_subSl (ho : PE X o to) (hl : PO X lo tl) (hu : PO X hi th)
    (ha : ∀ v, assign (.Subscript o (.Slice lo hi none p2) pos) X.env v = (do
      let ov ← holding [v] (eval o X.env)
      let iv ← holding [v, ov] (eval (.Slice lo hi none p2) X.env)
      standAt pos
      holding [v, ov, iv] (setItem ov iv v)
      release [iv, v, ov] []) := by intro _; rfl) : PG X (.Subscript o (.Slice lo hi none p2) pos) (gSubSl to tl th) := by
  refine ⟨fun pins s σ H v u Q I r h => ?_⟩
  rw [ha]
  refine wpAny_bind (wpAny_holding (thn (ho.run pins s σ H _ I h) fun ov s1 ⟨x, H1, I1, r1, q1⟩ => ?_))
  refine wpAny_bind (wpAny_holding ?_)
  refine wpAny_Slice (thn (hl.run pins s1 σ H1 _ I1 q1) fun vl s2 ⟨l, H2, I2, pl, q2⟩ => thn (hu.run pins s2 σ H2 _ I2 q2) fun vu s3 ⟨w, H3, I3, pu, q3⟩ => ?_)
  rw [evalPart_none]
  refine wpAny_pure ?_
  have I4 : Inv X pins σ H3 { s3 with heap := s3.heap.push { cls := .type "slice", data := .fields #[vl, vu, .none] } } := I3.kept (t' := s3.toks) fun b ob q => Heap.get?_push_of_some _ q
  obtain ⟨a, b, xs, ys, i, j, rfl, rfl, rfl, rfl, hA, hB, hne, h0, hij, hj, hz, q⟩ := q3
  cases r1
  cases r
  cases pl with
  | int _ ti =>
  cases pu with
  | int _ tj =>
  refine wpAny_bind (wpAny_standAt (wpAny_bind (wpAny_holding ?_)))
  exact set_slice I4 hA hB hne (Heap.IsSliceOf.new ..) ⟨_, rfl⟩ ⟨_, rfl⟩ h0 hij hj hz fun s' I5 => wpAny_release ⟨σ, _, I5, q⟩

theorem sel_take (f : Nat → Bool) (i n : Nat) (h : ∀ k : Nat, f k = (decide ((i : Int) ≤ (k : Int)) && decide ((k : Int) < (n : Int)) && (((k : Int) - (i : Int)) % 1 == 0))) :
    ∀ (xs : List Value) (m : Nat), m + xs.length ≤ n → (xs.zipIdx m).filterMap (fun (x, k) => if f k then none else some x) = xs.take (i - m)
  | [], m, hm => by simp
  | x :: r, m, hm => by
    rw [List.length_cons] at hm
    have ih := sel_take f i n h r (m + 1) (by omega)
    rw [List.zipIdx_cons, List.filterMap_cons]
    have hf : f m = decide (i ≤ m) := by
      rw [h m]
      by_cases h1 : i ≤ m
      · have h2 : (i : Int) ≤ (m : Int) := by omega
        have h3 : (m : Int) < (n : Int) := by omega
        have h4 : ((m : Int) - (i : Int)) % 1 = 0 := by omega
        rw [h4, decide_eq_true h1, decide_eq_true h2, decide_eq_true h3]
        rfl
      · have h2 : ¬ (i : Int) ≤ (m : Int) := by omega
        rw [decide_eq_false h1, decide_eq_false h2]
        rfl
    by_cases h1 : i ≤ m
    · have e : f m = true := by rw [hf, decide_eq_true h1]
      simp only [e, if_true]
      rw [ih, show i - (m + 1) = 0 by omega, show i - m = 0 by omega]
      rfl
    · have e : f m = false := by rw [hf, decide_eq_false h1]
      simp only [e]
      show x :: _ = _
      rw [ih, show i - m = (i - (m + 1)) + 1 by omega]
      rfl
theorem bounds_from {i n : Nat} (hi : i ≤ n) : sliceBounds (some (i : Int)) none none n = ((i : Int), (n : Int), 1) := by
  simp only [sliceBounds, Option.getD_none]
  have h1 : ¬ ((i : Int) < 0) := by omega
  simp only [h1, if_false, show (1 : Int) > 0 by decide, if_true]
  congr 1
  omega
section
variable {prog : Program} {w : World} {A : Around} {E : Value → Shared → Prop} {s : Shared}
open PySem.P PySem.F in
theorem delItem_tail {l sl : Addr} {items : Array Value} {n : Nat} {vl : Value} {i : Nat} {Q : Unit → Shared → Prop}
    (e : s.heap.get? l = some { cls := .type "list", data := .seq items n }) (hs : s.heap.IsSliceOf sl vl .none .none) (pl : IsPart vl (some (i : Int))) (hi : i ≤ items.size) (hsz : items.size ≤ sizeLine)
    (h : ∀ f : Array Value → Array Value, f items = (items.toList.take i).toArray → Q () { s with heap := s.heap.update l (Obj.mapSeq f) }) :
    wpAny (model prog w) A (delItem (.ref l) (.ref sl)) Q E s := by
  have hl : s.heap.IsList l items := PySem.IsL.isList e
  obtain ⟨os, hos, hcs, hds⟩ := id hs
  have hTs : s.TypeIs (.ref sl) "slice" := ⟨os, hos, hcs⟩
  have hstep : ¬ ((rawPart none == rawInt 0) = true) := Bool.false_ne_true
  unfold delItem
  refine wpAny_holding ?_
  refine wpAny_bind (wpAny_sequenceKey hl.typeIs (by decide) ?_)
  refine wpAny_bind (wpAny_callSpecial?_slot (name := Str.ofString "__delitem__") hl.typeIs PySem.F.slot_list_delitem
    (wpAny_call_entry PySem.F.slot_list_delitem hl.typeIs PySem.F.entry_list_delitem ?_ (PySem.F.args_list_delitem_2 _ _)))
  show wpAny _ _ (Builtin.List.listSubscript? (.ref sl) >>= _) _ _ s
  refine wpAny_bind ?_
  unfold Builtin.List.listSubscript?
  refine wpAny_bind (wpAny_specialOf hTs slice_no_index ?_)
  simp only [Option.isNone_none, if_true]
  refine wpAny_pure ?_
  show wpAny _ _ (typeOf (.ref sl) >>= _) _ _ s
  refine wpAny_bind (wpAny_typeOf hTs ?_)
  first
    | rw [if_neg (by decide)]
    | refine PySem.W.KFB.if_not (by decide) ?_
  rw [listSliceParts_eq]
  refine wpAny_bind (wpAny_bind (wpAny_field hos hds (x := .none) rfl (wpAny_bind (wpAny_listPart .none ?_))))
  rw [if_neg hstep]
  refine wpAny_bind (wpAny_field hos hds (x := vl) rfl (wpAny_bind (wpAny_listPart pl ?_)))
  refine wpAny_bind (wpAny_field hos hds (x := .none) rfl (wpAny_bind (wpAny_listPart .none (wpAny_pure ?_))))
  refine wpAny_bind (m := Builtin.List.listItems (.ref l)) ?_
  unfold Builtin.List.listItems
  refine wpAny_bind (wpAny_seqItems e rfl (wpAny_pure ?_))
  refine wpAny_bind (wpAny_of_eq ((sliceIndices_raw (some (i : Int)) none none items.size (by simp)).trans (congrArg (pure : Int × Int × Int → Sem (Int × Int × Int)) (bounds_from hi))) ?_)
  refine wpAny_bind (wpAny_rule ?_)
  show wpAny _ _ (updateSeq l _ >>= _) _ _ s
  have hf := sel_take _ i items.size (fun k => rfl) items.toList 0 (by simp)
  refine wpAny_bind (wpAny_updateSeq (hz := hsz) (_hz' := ?_) e rfl ?_)
  refine wpAny_bind (wpAny_letGo ?_)
  · exact wpAny_pure ⟨.none, rfl, wpAny_pure (h _ (congrArg List.toArray hf))⟩
  · refine Nat.le_trans (Nat.le_of_eq (congrArg Array.size (congrArg List.toArray hf))) ?_
    rw [List.size_toArray, List.length_take, Array.length_toList]
    omega
end
variable {pins : List (Addr × Obj)}
theorem del_tail {s : Shared} {σ : L2.St} {H : Hp} {l sl : Addr} {xs : List V} {i : Nat} {vl : Value} {Q : Unit → Shared → Prop} (I : Inv X pins σ H s) (hH : H l = some (.lst xs))
    (hs : s.heap.IsSliceOf sl vl .none .none) (pl : IsPart vl (some (i : Int))) (hi : i ≤ xs.length) (h : ∀ s', Inv X pins σ (upd H l (.lst (xs.take i))) s' → Q () s') :
    wpAny (model X.prog X.w) X.A (delItem (.ref l) (.ref sl)) Q X.xe s := by
  obtain ⟨z, its, n, r, hl, e⟩ := I.lstM hH
  refine delItem_tail e hs pl (by rw [List.size_toArray]; omega) (by rw [List.size_toArray]; omega) fun f hf => h _ ?_
  refine I.lset (its' := its.take i) (t' := s.toks) hH e ?_ (r.take i) ?_
  · rw [hf]
  · rw [List.length_take]
    omega
/-- del o[i:] -/
def tDelT (to : TE) (tl : TO) : TS := fun D σ H => to σ H fun x H1 => tl σ H1 fun u H2 => ∃ (l : Addr) (xs : List V) (i : Nat), x = .ref l ∧ u = some (i : Int) ∧ H2 l = some (.lst xs) ∧ i ≤ xs.length ∧ D.nx σ (upd H2 l (.lst (xs.take i)))
theorem ps_delT (ho : PE X o to) (hl : PO X lo tl) : PS X (.Delete [.Subscript o (.Slice lo none none p2) tpos] pos) (tDelT to tl) := by
  refine ⟨fun pins s σ H D I h => ?_⟩
  refine wpAny_Delete (wpAny_deleteEach_cons (wpAny_delete_Subscript (thn (ho.run pins s σ H _ I h) fun u s1 ⟨x, H1, I1, rx, q1⟩ => ?_)))
  refine wpAny_Slice (thn (hl.run pins s1 σ H1 _ I1 q1) fun vl s2 ⟨w, H2, I2, pl, q2⟩ => ?_)
  rw [evalPart_none]
  refine wpAny_pure (wpAny_pure ?_)
  have I4 : Inv X pins σ H2 { s2 with heap := s2.heap.push { cls := .type "slice", data := .fields #[vl, .none, .none] } } := I2.kept (t' := s2.toks) fun b ob q => Heap.get?_push_of_some _ q
  obtain ⟨l, xs, i, rfl, rfl, hA, hi, q⟩ := q2
  cases rx
  exact del_tail I4 hA (Heap.IsSliceOf.new ..) pl hi fun s3 I3 => wpAny_deleteEach_nil ⟨σ, _, I3, q⟩
end
section
variable {K : PySem.W.Frag} {σ σ2 : L2.St} {H H1 H2 : Hp} {Q : VK} {ta tv te te1 : TE} {D : Ends} {tz : TS} {g g1 : TG} {t tt1 : TT} {x v : V}
theorem k_pil {X : Cx} {tg l : Expr} {tl : TE} (e : X.K = K) (h : PE X l tl) : PI X tg l (iList K tl) := e ▸ pi_list h
/-- the inner for of a comprehension -/
def RIn (J : It) (g1 : TG) (tt1 : TT) (te : TE) (vs1 : List Nat) (σ2 : L2.St) (Dl : Addr) (N : Hp → Prop) : Hp → Prop := fun H4 => ∃ W1 : Nat → Nat → Hp → Prop, (∃ m, W1 0 m H4) ∧ ∀ j k H, W1 j k H →
  (J.stop j H ∧ N H) ∨ (J.go j H ∧ ∃ Nx1 : Hp → Prop, (∀ H', Nx1 H' → ∃ k', k' < k ∧ W1 (j + 1) k' H') ∧ ∀ x H', J.yld j H x H' → g1 x (wipe σ2 vs1) H' fun σ3 H5 => wipe σ3 vs1 = wipe σ2 vs1 ∧ tt1 σ3 H5 fun b H6 =>
    if b = true then te σ3 H6 fun y H7 => ∃ acc, H7 Dl = some (.lst acc) ∧ acc.length < sizeLine ∧ Nx1 (upd H7 Dl (.lst (acc ++ [y]))) else Nx1 H6)
def rInL (K : PySem.W.Frag) (g1 : TG) (tt1 : TT) (te : TE) (vs1 : List Nat) (σ2 : L2.St) (Dl : Addr) (N : Hp → Prop) : VK := fun x H4 => ∃ a, x = .ref a ∧ (∃ xs, SqL K H4 a xs) ∧ RIn (Itl K a) g1 tt1 te vs1 σ2 Dl N H4
theorem x_infL {a Dl : Addr} {xs : List V} {vs1 : List Nat} {N : Hp → Prop} (Pv : Nat → Hp → Prop) (hx : SqL K H a xs) (p0 : Pv 0 H) (hl : ∀ i H', Pv i H' → SqL K H' a xs)
    (hs : ∀ i x H', xs[i]? = some x → Pv i H' → g1 x (wipe σ2 vs1) H' fun σ3 H5 => wipe σ3 vs1 = wipe σ2 vs1 ∧ tt1 σ3 H5 fun b H6 => if b = true then te σ3 H6 (fun y H7 => ∃ acc, H7 Dl = some (.lst acc) ∧ acc.length < sizeLine ∧ Pv (i + 1) (upd H7 Dl (.lst (acc ++ [y])))) else Pv (i + 1) H6)
    (hd : ∀ H', Pv xs.length H' → N H') : rInL K g1 tt1 te vs1 σ2 Dl N (.ref a) H := by
  refine ⟨a, rfl, ⟨xs, hx⟩, fun i m H => m = xs.length - i ∧ i ≤ xs.length ∧ Pv i H, ⟨xs.length, by simp, Nat.zero_le _, p0⟩, ?_⟩
  rintro i m H' ⟨rfl, hi, p⟩
  have q := hl i H' p
  by_cases hlt : i < xs.length
  · refine .inr ⟨⟨xs, xs[i], q, by simp [hlt]⟩, Pv (i + 1), fun H' p' => ⟨xs.length - (i + 1), by omega, rfl, hlt, p'⟩, fun x H2 y => ?_⟩
    obtain ⟨e, y⟩ := y
    subst e
    exact hs i x _ (y xs q) p
  · have e : i = xs.length := by omega
    subst e
    exact .inl ⟨⟨xs, q, Nat.le_refl _⟩, hd H' p⟩
/-- the outer for -/
def rLc2L (K : PySem.W.Frag) (g : TG) (te1 : TE) (g1 : TG) (tt1 : TT) (te : TE) (vs vs1 : List Nat) (σ : L2.St) (Q : VK) : VK := fun x H1 => ∃ a, x = .ref a ∧ (∃ xs, SqL K H1 a xs) ∧ ∀ D, H1 D = none → ∃ W : Nat → Nat → Hp → Prop, (∃ m, W 0 m (upd H1 D (.lst []))) ∧ ∀ i m H, W i m H →
  ((Itl K a).stop i H ∧ Q (.ref D) H) ∨ ((Itl K a).go i H ∧ ∃ Nx : Hp → Prop, (∀ H', Nx H' → ∃ m', m' < m ∧ W (i + 1) m' H') ∧ ∀ x H', (Itl K a).yld i H x H' → g x (wipe σ vs) H' fun σ2 H2 => wipe σ2 vs = wipe σ vs ∧
    te1 σ2 H2 (rInL K g1 tt1 te vs1 σ2 D Nx))
theorem x_lc2 {tx : TE} {vs vs1 : List Nat} (q : tx σ H (rLc2L K g te1 g1 tt1 te vs vs1 σ Q)) : tLc2 (iList K tx) g tYes (iList K te1) g1 tt1 te vs vs1 σ H Q := q
theorem x_lc2L {a : Addr} {xs : List V} {vs vs1 : List Nat} (Pv : Addr → Nat → Hp → Prop) (hx : SqL K H a xs) (h0 : ∀ Dl, Fr Dl H → Pv Dl 0 (upd H Dl (.lst []))) (hl : ∀ Dl i H', Fr Dl H → Pv Dl i H' → SqL K H' a xs)
    (hs : ∀ Dl, Fr Dl H → ∀ i x H', xs[i]? = some x → Pv Dl i H' → g x (wipe σ vs) H' fun σ2 H2 => wipe σ2 vs = wipe σ vs ∧ te1 σ2 H2 (rInL K g1 tt1 te vs1 σ2 Dl (Pv Dl (i + 1))))
    (hd : ∀ Dl H', Fr Dl H → Pv Dl xs.length H' → Q (.ref Dl) H') : rLc2L K g te1 g1 tt1 te vs vs1 σ Q (.ref a) H := by
  refine ⟨a, rfl, ⟨xs, hx⟩, fun Dl hD => ⟨fun i m H => m = xs.length - i ∧ i ≤ xs.length ∧ Pv Dl i H, ⟨xs.length, by simp, Nat.zero_le _, h0 Dl ⟨hD⟩⟩, ?_⟩⟩
  rintro i m H' ⟨rfl, hi, p⟩
  have q := hl Dl i H' ⟨hD⟩ p
  by_cases hlt : i < xs.length
  · refine .inr ⟨⟨xs, xs[i], q, by simp [hlt]⟩, Pv Dl (i + 1), fun H' p' => ⟨xs.length - (i + 1), by omega, rfl, hlt, p'⟩, fun x H2 y => ?_⟩
    obtain ⟨e, y⟩ := y
    subst e
    exact hs Dl ⟨hD⟩ i x _ (y xs q) p
  · have e : i = xs.length := by omega
    subst e
    exact .inl ⟨⟨xs, q, Nat.le_refl _⟩, hd Dl H' ⟨hD⟩ p⟩
/-- attributes -/
theorem x_fld {a C dx : Addr} {fs : List (Str × V)} {f : Str} (h : H a = some (.ins C dx fs)) (c : Cls K C) (n : NoAttr K C f) (l : fs.lookup f = some v) (q : Q v H) : (∃ a' C dx fs v, V.ref a = .ref a' ∧ H a' = some (.ins C dx fs) ∧ Cls K C ∧ NoAttr K C f ∧ fs.lookup f = some v ∧ Q v H) :=
  ⟨a, C, dx, fs, v, rfl, h, c, n, l, q⟩
/-- what is read from an instance -/
def rFld (K : PySem.W.Frag) (f : Str) (Q : VK) : VK := fun x H1 => ∃ a C dx fs v, x = .ref a ∧ H1 a = some (.ins C dx fs) ∧ Cls K C ∧ NoAttr K C f ∧ fs.lookup f = some v ∧ Q v H1
theorem x_fld1 {f : Str} (q : ta σ H (rFld K f Q)) : tFld K ta f σ H Q := q
theorem x_rFld {a C dx : Addr} {fs : List (Str × V)} {f : Str} (h : H a = some (.ins C dx fs)) (c : Cls K C) (n : NoAttr K C f) (l : fs.lookup f = some v) (q : Q v H) : rFld K f Q (.ref a) H := ⟨a, C, dx, fs, v, rfl, h, c, n, l, q⟩
def rSetF (K : PySem.W.Frag) (f : Str) (y : V) (R : Hp → Prop) : VK := fun x H2 => ∃ a C dx fs, x = .ref a ∧ H2 a = some (.ins C dx fs) ∧ Cls K C ∧ NoAttr K C f ∧ fs.length < 1000 ∧ R (upd H2 a (.ins C dx (putF f y fs)))
theorem x_sfld {f : Str} (q : tv σ H fun y H1 => ta σ H1 (rSetF K f y (D.nx σ))) : sFld K ta tv f D σ H := q
theorem x_ssfld {f : Str} (q : tv σ H fun y H1 => ta σ H1 (rSetF K f y fun H2 => tz D σ H2)) : tSeq (sFld K ta tv f) tz D σ H := q
theorem x_rSetF {a C dx : Addr} {fs : List (Str × V)} {f : Str} {R : Hp → Prop} (h : H a = some (.ins C dx fs)) (c : Cls K C) (n : NoAttr K C f) (l : fs.length < 1000) (q : R (upd H a (.ins C dx (putF f x fs)))) : rSetF K f x R (.ref a) H := ⟨a, C, dx, fs, rfl, h, c, n, l, q⟩
def rProp (C : Addr) (sp : Sp) (dvs : List V) (E : XK) (Q : VK) : VK := fun x H1 => ∃ a dx fs, x = .ref a ∧ H1 a = some (.ins C dx fs) ∧ sp (.ref a :: dvs) H1 Q E
theorem x_prop {C : Addr} {sp : Sp} {dvs : List V} {E : XK} (q : ta σ H (rProp C sp dvs E Q)) : tProp C sp dvs E ta σ H Q := q
theorem x_rProp {a C dx : Addr} {fs : List (Str × V)} {sp : Sp} {dvs : List V} {E : XK} (h : H a = some (.ins C dx fs)) (q : sp (.ref a :: dvs) H Q E) : rProp C sp dvs E Q (.ref a) H := ⟨a, dx, fs, rfl, h, q⟩
def rMeth (C : Addr) (m : Str) (tr : TA) (sp : Sp) (dvs : List V) (E : XK) (σ : L2.St) (Q : VK) : VK := fun x H1 => ∃ a dx fs, x = .ref a ∧ H1 a = some (.ins C dx fs) ∧ fs.lookup m = none ∧ tr σ H1 fun vs H2 => sp (x :: (vs ++ dvs)) H2 Q E
theorem x_meth {C : Addr} {m : Str} {tr : TA} {sp : Sp} {dvs : List V} {E : XK} (q : ta σ H (rMeth C m tr sp dvs E σ Q)) : tMeth C m sp dvs E ta tr σ H Q := q
theorem x_rMeth {a C dx : Addr} {fs : List (Str × V)} {m : Str} {tr : TA} {sp : Sp} {dvs : List V} {E : XK} (h : H a = some (.ins C dx fs)) (l : fs.lookup m = none) (q : tr σ H fun vs H2 => sp (.ref a :: (vs ++ dvs)) H2 Q E) : rMeth C m tr sp dvs E σ Q (.ref a) H := ⟨a, dx, fs, rfl, h, l, q⟩
def rMake (C : Addr) (sp : Sp) (dvs : List V) (E : XK) (Q : VK) : List V → Hp → Prop := fun vs H1 => ∀ x dx, H1 x = none → H1 dx = none → dx ≠ x → sp (.ref x :: (vs ++ dvs)) (upd (upd H1 dx (.own x)) x (.ins C dx [])) (fun v H2 => v = .non ∧ Q (.ref x) H2) E
theorem x_make {C : Addr} {tr : TA} {sp : Sp} {dvs : List V} {E : XK} (q : tr σ H (rMake C sp dvs E Q)) : tMake C sp dvs E tr σ H Q := q
theorem x_rMake {C : Addr} {sp : Sp} {dvs vs : List V} {E : XK} (k : ∀ x dx H2, Fr x H → Fr dx H → dx ≠ x → Same H H2 → H2 dx = some (.own x) → H2 x = some (.ins C dx []) → sp (.ref x :: (vs ++ dvs)) H2 (fun v H3 => v = .non ∧ Q (.ref x) H3) E) : rMake C sp dvs E Q vs H :=
  fun x dx hx hd hn => k x dx _ ⟨hx⟩ ⟨hd⟩ hn (same_mut (same_fr ⟨hd⟩) ⟨hx⟩) ((upd_ne hn).trans upd_same) upd_same
/-- slices stored and deleted -/
def rDelT (R : Hp → Prop) (l : Addr) (xs : List V) (i : Nat) (u : Option Int) (H2 : Hp) : Prop := u = some (i : Int) ∧ H2 l = some (.lst xs) ∧ i ≤ xs.length ∧ R (upd H2 l (.lst (xs.take i)))
theorem x_delT {to : TE} {tl : TO} (q : to σ H fun x H1 => tl σ H1 fun u H2 => ∃ l xs i, x = .ref l ∧ rDelT (D.nx σ) l xs i u H2) : tDelT to tl D σ H := q
theorem x_sdelT {to : TE} {tl : TO} (q : to σ H fun x H1 => tl σ H1 fun u H2 => ∃ l xs i, x = .ref l ∧ rDelT (fun H3 => tz D σ H3) l xs i u H2) : tSeq (tDelT to tl) tz D σ H := q
theorem x_rDelT {l : Addr} {xs : List V} {i : Nat} {k : Int} {R : Hp → Prop} (e : k = (i : Int)) (h : H l = some (.lst xs)) (hi : i ≤ xs.length) (q : R (upd H l (.lst (xs.take i)))) : ∃ l' xs i', V.ref l = .ref l' ∧ rDelT R l' xs i' (some k) H := ⟨l, xs, i, rfl, by rw [e], h, hi, q⟩
end
end Xk
/-! ## pairs in order, defs with defaults -/
namespace Xk
open PySem PySem.Spec PyProof.Rows L2
/-- the pair (p, q) stands below (r, s) -/
def Bf (p q r s : Int) : Prop := p < r ∨ (p = r ∧ q < s)
instance {p q r s : Int} : Decidable (Bf p q r s) := by unfold Bf; infer_instance
section
variable {X : Cx} {K : PySem.W.Frag} {H : Hp} {Q : VK} {a b : Addr} {p q r s : Int}
theorem pair_in {pins : List (Addr × Obj)} {σ : L2.St} {z : Shared} (I : Inv X pins σ H z) (h : SqT X.K H a [.int p, .int q]) : ∃ t u, z.heap.IsTuple a #[.int p t, .int q u] := by
  obtain ⟨vs, rv, it, _⟩ := I.tuple h
  cases rv with
  | cons x y =>
    cases y with
    | cons y w =>
      cases w
      obtain ⟨t, rfl⟩ := x
      obtain ⟨u, rfl⟩ := y
      exact ⟨t, u, it⟩
theorem eq_ints {A : Around} {z : Shared} (i j : Int) (t u : Tok) : SeqAt.EqAt A z (.int i t) (.int j u) (decide (i = j)) := by
  have h : (i == j) = decide (i = j) := by
    by_cases e : i = j
    · subst e
      simp
    · simp [e]
  rw [← h]
  exact SeqAt.EqAt.int_int _ _ _ _
def rGeP (K : PySem.W.Frag) : R2 := fun x y H Q => ∃ a b p q r s, x = .ref a ∧ y = .ref b ∧ SqT K H a [.int p, .int q] ∧ SqT K H b [.int r, .int s] ∧ Q (.bl (!decide (Bf p q r s))) H
def rLtP (K : PySem.W.Frag) : R2 := fun x y H Q => ∃ a b p q r s, x = .ref a ∧ y = .ref b ∧ SqT K H a [.int p, .int q] ∧ SqT K H b [.int r, .int s] ∧ Q (.bl (decide (Bf p q r s))) H
theorem op_geP (hu : X.A.units < cLine) : OpR X (compareOp .GtE) (rGeP X.K) := by
  intro pins σ0 σ H x y v u Q I rx ry h
  obtain ⟨a, b, p, q, r, s, rfl, rfl, ha, hb, k⟩ := h
  cases rx
  cases ry
  obtain ⟨t1, t2, ia⟩ := pair_in I ha
  obtain ⟨t3, t4, ib⟩ := pair_in I hb
  have R := Ob.RcOp.tuples_ge (e := fun j => if j = 0 then decide (p = r) else decide (q = s)) (r := fun j => if j = 0 then decide (r ≤ p) else decide (s ≤ q)) ia ib hu
    (fun j h1 h2 => match j, h1, h2 with | 0, _, _ => eq_ints _ _ _ _ | 1, _, _ => eq_ints _ _ _ _ | j + 2, z, _ => absurd (show j + 2 < 2 from z) (by omega))
    (fun j h1 h2 _ => match j, h1, h2 with | 0, _, _ => Ob.RcOp.ge_int _ _ _ _ | 1, _, _ => Ob.RcOp.ge_int _ _ _ _ | j + 2, z, _ => absurd (show j + 2 < 2 from z) (by omega))
  refine R X.prog X.w X.xe _ ?_
  have e : Ob.lexAt (fun j => if j = 0 then decide (p = r) else decide (q = s)) (fun j => if j = 0 then decide (r ≤ p) else decide (s ≤ q)) (decide (2 ≥ 2)) 0 2 = !decide (Bf p q r s) := by
    simp only [Ob.lexAt_succ, Ob.lexAt_zero, Bf]
    by_cases h1 : p = r
    · by_cases h2 : q = s
      · simp [h1, h2]
      · by_cases h3 : s ≤ q
        · have h4 : ¬ q < s := by omega
          simp [h1, h2, h3, h4]
        · have h4 : q < s := by omega
          simp [h1, h2, h3, h4]
    · by_cases h3 : r ≤ p
      · have h4 : ¬ p < r := by omega
        simp [h1, h3, h4]
      · have h4 : p < r := by omega
        simp [h1, h3, h4]
  exact ⟨.bl _, H, I, rfl, (congrArg (fun z => Q (.bl z) H) e).mpr k⟩
theorem op_ltP (hu : X.A.units < cLine) : OpR X (compareOp .Lt) (rLtP X.K) := by
  intro pins σ0 σ H x y v u Q I rx ry h
  obtain ⟨a, b, p, q, r, s, rfl, rfl, ha, hb, k⟩ := h
  cases rx
  cases ry
  obtain ⟨t1, t2, ia⟩ := pair_in I ha
  obtain ⟨t3, t4, ib⟩ := pair_in I hb
  have R := Ob.RcOp.tuples_lt (e := fun j => if j = 0 then decide (p = r) else decide (q = s)) (r := fun j => if j = 0 then decide (p < r) else decide (q < s)) ia ib hu
    (fun j h1 h2 => match j, h1, h2 with | 0, _, _ => eq_ints _ _ _ _ | 1, _, _ => eq_ints _ _ _ _ | j + 2, z, _ => absurd (show j + 2 < 2 from z) (by omega))
    (fun j h1 h2 _ => match j, h1, h2 with | 0, _, _ => Ob.RcOp.lt_int _ _ _ _ | 1, _, _ => Ob.RcOp.lt_int _ _ _ _ | j + 2, z, _ => absurd (show j + 2 < 2 from z) (by omega))
  refine R X.prog X.w X.xe _ ?_
  have e : Ob.lexAt (fun j => if j = 0 then decide (p = r) else decide (q = s)) (fun j => if j = 0 then decide (p < r) else decide (q < s)) (decide (2 < 2)) 0 2 = decide (Bf p q r s) := by
    simp only [Ob.lexAt_succ, Ob.lexAt_zero, Bf]
    by_cases h1 : p = r
    · by_cases h2 : q = s
      · simp [h1, h2]
      · by_cases h3 : q < s
        · simp [h1, h2, h3]
        · simp [h1, h2, h3]
    · by_cases h3 : p < r
      · simp [h1, h3]
      · simp [h1, h3]
  exact ⟨.bl _, H, I, rfl, (congrArg (fun z => Q (.bl z) H) e).mpr k⟩
theorem k_geP (hu : X.A.units + 64 < cLine) (e : X.K = K) : OpR X (compareOp .GtE) (rGeP K) := e ▸ op_geP (by omega)
theorem k_ltP (hu : X.A.units + 64 < cLine) (e : X.K = K) : OpR X (compareOp .Lt) (rLtP K) := e ▸ op_ltP (by omega)
theorem x_geP (h : SqT K H a [.int p, .int q]) (h' : SqT K H b [.int r, .int s]) (k : Q (.bl (!decide (Bf p q r s))) H) : rGeP K (.ref a) (.ref b) H Q := ⟨a, b, p, q, r, s, rfl, rfl, h, h', k⟩
theorem x_ltP (h : SqT K H a [.int p, .int q]) (h' : SqT K H b [.int r, .int s]) (k : Q (.bl (decide (Bf p q r s))) H) : rLtP K (.ref a) (.ref b) H Q := ⟨a, b, p, q, r, s, rfl, rfl, h, h', k⟩
def nMax2 : List V → Hp → VK → Prop := fun xs H Q => ∃ i j : Int, xs = [.int i, .int j] ∧ Q (.int (max i j)) H
def nMin2 : List V → Hp → VK → Prop := fun xs H Q => ∃ i j : Int, xs = [.int i, .int j] ∧ Q (.int (min i j)) H
theorem call_nMax2 (hc : X.calm = true) : CallR X (.builtin "max") nMax2 := by
  intro pins s σ H xs us Q I r h
  obtain ⟨i, j, e, q⟩ := h
  refine call_max2 hc pins s σ H xs us Q I r ⟨i, j, e, ?_⟩
  have z : (if j > i then j else i) = max i j := by
    by_cases h : i < j
    · rw [if_pos h]
      omega
    · rw [if_neg h]
      omega
  rw [z]
  exact q
theorem call_nMin2 (hc : X.calm = true) : CallR X (.builtin "min") nMin2 := by
  intro pins s σ H xs us Q I r h
  obtain ⟨i, j, e, q⟩ := h
  refine call_min2 hc pins s σ H xs us Q I r ⟨i, j, e, ?_⟩
  have z : (if j < i then j else i) = min i j := by
    by_cases h : j < i
    · rw [if_pos h]
      omega
    · rw [if_neg h]
      omega
  rw [z]
  exact q
theorem x_nMax2 {i j : Int} (k : Q (.int (max i j)) H) : nMax2 [.int i, .int j] H Q := ⟨i, j, rfl, k⟩
theorem x_nMin2 {i j : Int} (k : Q (.int (min i j)) H) : nMin2 [.int i, .int j] H Q := ⟨i, j, rfl, k⟩
/-- lists and tuples stay, though an own object changes -/
structure Sk (K : PySem.W.Frag) (H H' : Hp) : Prop where
  l : ∀ a xs, SqL K H a xs → SqL K H' a xs
  t : ∀ a xs, SqT K H a xs → SqT K H' a xs
theorem sk_same {H' : Hp} (e : Same H H') : Sk K H H' := ⟨fun _ _ h => sq_same h e, fun _ _ h => st_same h e⟩
theorem Sk.refl (H : Hp) : Sk K H H := ⟨fun _ _ h => h, fun _ _ h => h⟩
theorem Sk.trans {H' H'' : Hp} (e : Sk K H H') (e' : Sk K H' H'') : Sk K H H'' := ⟨fun a xs h => e'.l a xs (e.l a xs h), fun a xs h => e'.t a xs (e.t a xs h)⟩
theorem sk_but {H' : Hp} {C dx : Addr} {fs : List (Str × V)} (hi : H a = some (.ins C dx fs)) (e : But a H H') : Sk K H H' := by
  have key : ∀ b o, H b = some o → (∀ C dx fs, o ≠ .ins C dx fs) → H' b = some o := fun b o hb hn => e b o (fun z => by
    subst z
    exact hn _ _ _ (Option.some.inj (hb.symm.trans hi))) hb
  constructor
  · intro b xs h
    rcases h with (h | ⟨o, h⟩) | h
    · exact .inl (.inl (key _ _ h fun _ _ _ z => by cases z))
    · exact .inl (.inr ⟨o, key _ _ h fun _ _ _ z => by cases z⟩)
    · exact .inr h
  · intro b xs h
    rcases h with (h | ⟨o, h⟩) | h
    · exact .inl (.inl (key _ _ h fun _ _ _ z => by cases z))
    · exact .inl (.inr ⟨o, key _ _ h fun _ _ _ z => by cases z⟩)
    · exact .inr h
mutual
theorem dp_sk {H' : Hp} (e : Sk K H H') : ∀ (d : PyData) (v : V), Dp K H v d → Dp K H' v d
  | .none, _, h => by cases h; exact .non
  | .bool b, _, h => by cases h; exact .bl b
  | .int i, _, h => by cases h; exact .int i
  | .str x, _, h => by cases h; exact .str x
  | .list ds, _, h => by
    cases h with
    | lst hs ha => exact .lst (e.l _ _ hs) (dps_sk e ds _ ha)
  | .tuple ds, _, h => by
    cases h with
    | tup hs ha => exact .tup (e.t _ _ hs) (dps_sk e ds _ ha)
  | .dict _, _, h => by cases h
theorem dps_sk {H' : Hp} (e : Sk K H H') : ∀ (ds : List PyData) (vs : List V), DpAll K H vs ds → DpAll K H' vs ds
  | [], _, h => by cases h; exact .nil
  | d :: ds, _, h => by
    cases h with
    | cons h1 h2 => exact .cons (dp_sk e d _ h1) (dps_sk e ds _ h2)
end
/-- tuples stay -/
structure St (K : PySem.W.Frag) (H H' : Hp) : Prop where
  t : ∀ a xs, SqT K H a xs → SqT K H' a xs
theorem Sk.st {H' : Hp} (e : Sk K H H') : St K H H' := ⟨e.t⟩
theorem St.refl (H : Hp) : St K H H := ⟨fun _ _ h => h⟩
theorem St.trans {H' H'' : Hp} (e : St K H H') (e' : St K H' H'') : St K H H'' := ⟨fun a xs h => e'.t a xs (e.t a xs h)⟩
theorem tt_same {H' : Hp} (e : Same H H') : St K H H' := ⟨fun _ _ h => st_same h e⟩
theorem tt_but {H' : Hp} {o : HO} (hi : H a = some o) (h1 : ∀ xs, o ≠ .tup xs) (h2 : ∀ u xs, o ≠ .frz u (.tup xs)) (e : But a H H') : St K H H' := by
  refine ⟨fun b xs h => ?_⟩
  rcases h with (h | ⟨u, h⟩) | h
  · exact .inl (.inl (e b _ (fun z => by subst z; exact h1 xs (Option.some.inj (hi.symm.trans h))) h))
  · exact .inl (.inr ⟨u, e b _ (fun z => by subst z; exact h2 u xs (Option.some.inj (hi.symm.trans h))) h⟩)
  · exact .inr h
theorem tt_butL {H' : Hp} {ys : List V} (hi : H a = some (.lst ys)) (e : But a H H') : St K H H' := tt_but hi (fun _ z => by cases z) (fun _ _ z => by cases z) e
theorem tt_butO {H' : Hp} {C dx : Addr} {fs : List (Str × V)} (hi : H a = some (.ins C dx fs)) (e : But a H H') : St K H H' := tt_but hi (fun _ z => by cases z) (fun _ _ z => by cases z) e
theorem tt_mutL {o : HO} {ys : List V} (hi : H a = some (.lst ys)) : St K H (upd H a o) := tt_butL hi (but_mut (But.refl _ _))
mutual
/-- none, ints, truth values, texts, and tuples of such -/
def tupD : PyData → Bool
  | .none | .bool _ | .int _ => true
  | .str x => PyData.canLay0 (.str x)
  | .tuple xs => tupDs xs
  | .list _ | .dict _ => false
def tupDs : List PyData → Bool
  | [] => true
  | x :: xs => tupD x && tupDs xs
end
mutual
theorem tupD_lay : ∀ (d : PyData), tupD d = true → d.canLay0 = true
  | .none, _ => rfl
  | .bool _, _ => rfl
  | .int _, _ => rfl
  | .str x, h => h
  | .tuple xs, h => tupDs_lay xs h
  | .list _, h => by cases h
  | .dict _, h => by cases h
theorem tupDs_lay : ∀ (ds : List PyData), tupDs ds = true → PyData.canLayAll0 ds = true
  | [], _ => rfl
  | x :: xs, h => by
    have h2 : (tupD x && tupDs xs) = true := h
    rw [Bool.and_eq_true] at h2
    show (x.canLay0 && PyData.canLayAll0 xs) = true
    rw [tupD_lay x h2.1, tupDs_lay xs h2.2]
    rfl
end
mutual
theorem dp_st {H' : Hp} (e : St K H H') : ∀ (d : PyData) (v : V), tupD d = true → Dp K H v d → Dp K H' v d
  | .none, _, _, h => by cases h; exact .non
  | .bool b, _, _, h => by cases h; exact .bl b
  | .int i, _, _, h => by cases h; exact .int i
  | .str x, _, _, h => by cases h; exact .str x
  | .list ds, _, c, _ => by cases c
  | .tuple ds, _, c, h => by
    cases h with
    | tup hs ha => exact .tup (e.t _ _ hs) (dps_st e ds _ c ha)
  | .dict _, _, _, h => by cases h
theorem dps_st {H' : Hp} (e : St K H H') : ∀ (ds : List PyData) (vs : List V), tupDs ds = true → DpAll K H vs ds → DpAll K H' vs ds
  | [], _, _, h => by cases h; exact .nil
  | d :: ds, _, c, h => by
    have h2 : (tupD d && tupDs ds) = true := c
    rw [Bool.and_eq_true] at h2
    cases h with
    | cons h3 h4 => exact .cons (dp_st e d _ h2.1 h3) (dps_st e ds _ h2.2 h4)
end
/-- packable data at v, not deep -/
def Pk (K : PySem.W.Frag) (H : Hp) (n : Nat) (v : V) (d : PyData) : Prop := Dp K H v d ∧ tupD d = true ∧ d.depth ≤ n
theorem Pk.st {H' : Hp} {n : Nat} {v : V} {d : PyData} (h : Pk K H n v d) (e : St K H H') : Pk K H' n v d := ⟨dp_st e d v h.2.1 h.1, h.2⟩
theorem Pk.sk {H' : Hp} {n : Nat} {v : V} {d : PyData} (h : Pk K H n v d) (e : Sk K H H') : Pk K H' n v d := h.st e.st
theorem Pk.same {H' : Hp} {n : Nat} {v : V} {d : PyData} (h : Pk K H n v d) (e : Same H H') : Pk K H' n v d := h.st (tt_same e)
theorem Pk.mono {n m : Nat} {v : V} {d : PyData} (h : Pk K H n v d) (l : n ≤ m) : Pk K H m v d := ⟨h.1, h.2.1, Nat.le_trans h.2.2 l⟩
theorem Pk.lay {n : Nat} {v : V} {d : PyData} (h : Pk K H n v d) : d.canLay0 = true := tupD_lay d h.2.1
theorem pk_non {n : Nat} : Pk K H n .non .none := ⟨.non, rfl, Nat.zero_le _⟩
theorem pk_int {n : Nat} {i : Int} : Pk K H n (.int i) (.int i) := ⟨.int i, rfl, Nat.zero_le _⟩
theorem pk_str {n : Nat} {x : Str} (h : PyData.canLay0 (.str x) = true := by decide +kernel) : Pk K H n (.str x) (.str x) := ⟨.str x, h, Nat.zero_le _⟩
/-- packable data, one behind another -/
def PkAll (K : PySem.W.Frag) (H : Hp) (n : Nat) (vs : List V) (ds : List PyData) : Prop := DpAll K H vs ds ∧ tupDs ds = true ∧ PyData.depthAll ds ≤ n
theorem PkAll.st {H' : Hp} {n : Nat} {vs : List V} {ds : List PyData} (h : PkAll K H n vs ds) (e : St K H H') : PkAll K H' n vs ds := ⟨dps_st e ds vs h.2.1 h.1, h.2⟩
theorem PkAll.same {H' : Hp} {n : Nat} {vs : List V} {ds : List PyData} (h : PkAll K H n vs ds) (e : Same H H') : PkAll K H' n vs ds := h.st (tt_same e)
theorem PkAll.mono {n m : Nat} {vs : List V} {ds : List PyData} (h : PkAll K H n vs ds) (l : n ≤ m) : PkAll K H m vs ds := ⟨h.1, h.2.1, Nat.le_trans h.2.2 l⟩
theorem PkAll.lay {n : Nat} {vs : List V} {ds : List PyData} (h : PkAll K H n vs ds) : PyData.canLayAll0 ds = true := tupDs_lay ds h.2.1
theorem pk_nil {n : Nat} : PkAll K H n [] [] := ⟨.nil, rfl, Nat.zero_le _⟩
theorem pk_cons {n : Nat} {v : V} {vs : List V} {d : PyData} {ds : List PyData} (h : Pk K H n v d) (h' : PkAll K H n vs ds) : PkAll K H n (v :: vs) (d :: ds) :=
  ⟨.cons h.1 h'.1, by show (tupD d && tupDs ds) = true; rw [h.2.1, h'.2.1]; rfl, by show max _ _ ≤ n; have := h.2.2; have := h'.2.2; omega⟩
theorem PkAll.uncons {n : Nat} {v : V} {vs : List V} {ds : List PyData} (h : PkAll K H n (v :: vs) ds) : ∃ d es, ds = d :: es ∧ Pk K H n v d ∧ PkAll K H n vs es := by
  obtain ⟨h1, h2, h3⟩ := h
  cases h1 with
  | cons a b =>
    rename_i d es
    have h4 : (tupD d && tupDs es) = true := h2
    rw [Bool.and_eq_true] at h4
    have h5 : max d.depth (PyData.depthAll es) ≤ n := h3
    exact ⟨d, es, rfl, ⟨a, h4.1, by omega⟩, ⟨b, h4.2, by omega⟩⟩
theorem pk_snoc {n : Nat} : ∀ {vs : List V} {ds : List PyData} {v : V} {d : PyData}, PkAll K H n vs ds → Pk K H n v d → PkAll K H n (vs ++ [v]) (ds ++ [d])
  | [], ds, v, d, h, h' => by
    obtain ⟨h1, _, _⟩ := h
    cases h1
    exact pk_cons h' pk_nil
  | w :: vs, ds, v, d, h, h' => by
    obtain ⟨e, es, rfl, h1, h2⟩ := h.uncons
    exact pk_cons h1 (pk_snoc h2 h')
theorem PkAll.len {n : Nat} : ∀ {vs : List V} {ds : List PyData}, PkAll K H n vs ds → vs.length = ds.length
  | [], ds, h => by
    obtain ⟨h1, _, _⟩ := h
    cases h1
    rfl
  | w :: vs, ds, h => by
    obtain ⟨e, es, rfl, h1, h2⟩ := h.uncons
    show vs.length + 1 = es.length + 1
    rw [h2.len]
theorem PkAll.take {n : Nat} : ∀ {vs : List V} {ds : List PyData} (k : Nat), PkAll K H n vs ds → PkAll K H n (vs.take k) (ds.take k)
  | vs, ds, 0, h => pk_nil
  | [], ds, k + 1, h => by
    obtain ⟨h1, _, _⟩ := h
    cases h1
    exact pk_nil
  | w :: vs, ds, k + 1, h => by
    obtain ⟨e, es, rfl, h1, h2⟩ := h.uncons
    exact pk_cons h1 (h2.take k)
theorem PkAll.at {n : Nat} : ∀ {vs : List V} {ds : List PyData} {i : Nat} {v : V}, PkAll K H n vs ds → vs[i]? = some v → ∃ d, ds[i]? = some d ∧ Pk K H n v d
  | [], ds, i, v, h, e => by simp at e
  | w :: vs, ds, 0, v, h, e => by
    obtain ⟨d, es, rfl, h1, h2⟩ := h.uncons
    cases (show w = v from Option.some.inj e)
    exact ⟨d, rfl, h1⟩
  | w :: vs, ds, i + 1, v, h, e => by
    obtain ⟨d, es, rfl, h1, h2⟩ := h.uncons
    exact h2.at e
theorem pk_tup {n : Nat} {a : Addr} {vs : List V} {ds : List PyData} (h : SqT K H a vs) (h1 : PkAll K H n vs ds) : Pk K H (n + 1) (.ref a) (.tuple ds) :=
  ⟨.tup h h1.1, h1.2.1, Nat.add_le_add_right h1.2.2 1⟩
theorem pk_tup1 {n : Nat} {a : Addr} {v : V} {d : PyData} (h : SqT K H a [v]) (h1 : Pk K H n v d) : Pk K H (n + 1) (.ref a) (.tuple [d]) := pk_tup h (pk_cons h1 pk_nil)
theorem pk_tup2 {n : Nat} {a : Addr} {v w : V} {d e : PyData} (h : SqT K H a [v, w]) (h1 : Pk K H n v d) (h2 : Pk K H n w e) : Pk K H (n + 1) (.ref a) (.tuple [d, e]) := pk_tup h (pk_cons h1 (pk_cons h2 pk_nil))
theorem pk_tup3 {n : Nat} {a : Addr} {u v w : V} {c d e : PyData} (h : SqT K H a [u, v, w]) (h0 : Pk K H n u c) (h1 : Pk K H n v d) (h2 : Pk K H n w e) : Pk K H (n + 1) (.ref a) (.tuple [c, d, e]) := pk_tup h (pk_cons h0 (pk_cons h1 (pk_cons h2 pk_nil)))
/-- equal data, one way or the other -/
theorem x_nePk {n m : Nat} {x y : V} {d : PyData} (h : Pk K H n x d) (h' : Pk K H m y d) (q : Q (.bl false) H) (l : n ≤ 64 := by decide) : rNeD K x y H Q := x_neSame h.1 h'.1 h.lay (Nat.le_trans h.2.2 l) q
theorem x_eqPk {n m : Nat} {x y : V} {d : PyData} (h : Pk K H n x d) (h' : Pk K H m y d) (q : Q (.bl true) H) (l : n ≤ 64 := by decide) : rEqD K x y H Q := x_eqSame h.1 h'.1 h.lay (Nat.le_trans h.2.2 l) q
theorem lay_list {ds : List PyData} (h : PyData.canLayAll0 ds = true) : PyData.canLay0 (.list ds) = true := h
theorem x_nePkL {n m : Nat} {p q' : Addr} {xs ys : List V} {ds : List PyData} (hp : SqL K H p xs) (hq : SqL K H q' ys) (h : PkAll K H n xs ds) (h' : PkAll K H m ys ds) (q : Q (.bl false) H) (l : n ≤ 63 := by decide) : rNeD K (.ref p) (.ref q') H Q :=
  x_neSame (.lst hp h.1) (.lst hq h'.1) (lay_list h.lay) (Nat.add_le_add_right (Nat.le_trans h.2.2 l) 1) q
theorem x_eqPkL {n m : Nat} {p q' : Addr} {xs ys : List V} {ds : List PyData} (hp : SqL K H p xs) (hq : SqL K H q' ys) (h : PkAll K H n xs ds) (h' : PkAll K H m ys ds) (q : Q (.bl true) H) (l : n ≤ 63 := by decide) : rEqD K (.ref p) (.ref q') H Q :=
  x_eqSame (.lst hp h.1) (.lst hq h'.1) (lay_list h.lay) (Nat.add_le_add_right (Nat.le_trans h.2.2 l) 1) q
theorem u65 {k : Nat} {A : Around} (r : Room k A) : A.units + 65 < cLine := by
  have := r.un
  omega
theorem k_inD (hu : X.A.units + 65 < cLine) (e : X.K = K) : OpR X (compareOp .In) (rInD K) := e ▸ op_inD hu
theorem k_ninD (hu : X.A.units + 65 < cLine) (e : X.K = K) : OpR X (compareOp .NotIn) (rNotInD K) := e ▸ op_notInD hu
/-- whether d is among ds -/
def inD (d : PyData) (ds : List PyData) : Bool := ds.any fun z => PyData.eqv z d
theorem x_inPk {n m : Nat} {x : V} {d : PyData} {xs : List V} {ds : List PyData} (h : Pk K H n x d) (hp : SqL K H a xs) (h' : PkAll K H m xs ds) (k : Q (.bl (inD d ds)) H) (l : n ≤ 64 := by decide) (l' : m ≤ 63 := by decide) : rInD K x (.ref a) H Q :=
  ⟨d, ds, h.1, .lst hp h'.1, shaped_of h.lay (Nat.le_trans h.2.2 l), shaped_of (lay_list h'.lay) (Nat.add_le_add_right (Nat.le_trans h'.2.2 l') 1), k⟩
theorem x_ninPk {n m : Nat} {x : V} {d : PyData} {xs : List V} {ds : List PyData} (h : Pk K H n x d) (hp : SqL K H a xs) (h' : PkAll K H m xs ds) (k : Q (.bl (!inD d ds)) H) (l : n ≤ 64 := by decide) (l' : m ≤ 63 := by decide) : rNotInD K x (.ref a) H Q :=
  ⟨d, ds, h.1, .lst hp h'.1, shaped_of h.lay (Nat.le_trans h.2.2 l), shaped_of (lay_list h'.lay) (Nat.add_le_add_right (Nat.le_trans h'.2.2 l') 1), k⟩
theorem x_inD {x : V} {d : PyData} {ds : List PyData} (h : Dp K H x d) (h' : Dp K H (.ref a) (.list ds)) (c : d.canLay0 = true) (n : d.depth ≤ 64) (c' : PyData.canLay0 (.list ds) = true) (n' : PyData.depth (.list ds) ≤ 64) (k : Q (.bl (inD d ds)) H) : rInD K x (.ref a) H Q :=
  ⟨d, ds, h, h', shaped_of c n, shaped_of c' n', k⟩
theorem x_ninD {x : V} {d : PyData} {ds : List PyData} (h : Dp K H x d) (h' : Dp K H (.ref a) (.list ds)) (c : d.canLay0 = true) (n : d.depth ≤ 64) (c' : PyData.canLay0 (.list ds) = true) (n' : PyData.depth (.list ds) ≤ 64) (k : Q (.bl (!inD d ds)) H) : rNotInD K x (.ref a) H Q :=
  ⟨d, ds, h, h', shaped_of c n, shaped_of c' n', k⟩
/-- a sign some times over -/
def repS (x : Str) (n : Int) : Str := if n < 1 then Str.empty else if (n == 1 || x.length == 0) = true then x else ⟨(List.replicate n.toNat x.cps).foldl (· ++ ·) #[]⟩
def nRepS : R2 := fun x y H Q => ∃ (z : Str) (n : Int), x = .str z ∧ y = .int n ∧ 0 ≤ n ∧ n ≤ 1000 ∧ z.length ≤ 100 ∧ Q (.str (repS z n)) H
theorem op_nRepS : OpR X (binaryOp .Mult) nRepS := by
  intro pins s σ H x y v u Q I rx ry h
  obtain ⟨z, n, rfl, rfl, h0, h1, h2, q⟩ := h
  obtain ⟨t, rfl⟩ := rx
  obtain ⟨t', rfl⟩ := ry
  have hlen : z.length * n.toNat ≤ 100000 := by
    have h3 : n.toNat ≤ 1000 := by omega
    calc z.length * n.toNat ≤ 100 * n.toNat := Nat.mul_le_mul_right _ h2
      _ ≤ 100000 := by omega
  refine PySem.P.mul_str ?_ ?_ ?_ ?_
  · rw [decide_eq_false (by omega), decide_eq_false (by omega)]
    rfl
  · intro h3 _ h4
    have h5 : (1000 : Int) ≤ (2 ^ 63 - 1) / n := by
      rw [Int.le_ediv_iff_mul_le (by omega)]
      omega
    omega
  · intro _ _
    exact decide_eq_false (by unfold sizeLine; omega)
  · unfold repS at q
    by_cases h3 : n < 1
    · rw [if_pos h3] at q ⊢
      exact ⟨by decide, .str Str.empty, H, I.tok _, ⟨_, rfl⟩, q⟩
    · rw [if_neg h3] at q ⊢
      by_cases h4 : (n == 1 || z.length == 0) = true
      · rw [if_pos h4] at q ⊢
        exact ⟨.str z, H, I, ⟨_, rfl⟩, q⟩
      · rw [if_neg h4] at q ⊢
        exact ⟨PySem.fits_reps (decide_eq_false (by unfold sizeLine; omega)), .str _, H, I.tok _, ⟨_, rfl⟩, q⟩
theorem x_nRepS {z : Str} {n : Int} (h : 0 ≤ n ∧ n ≤ 1000) (hz : z.length ≤ 100) (k : Q (.str (repS z n)) H) : nRepS (.str z) (.int n) H Q := ⟨z, n, rfl, rfl, h.1, h.2, hz, k⟩
/-- a range from its end -/
def rRevR (i : Nat) (tu : TS) (D : Ends) (σ : L2.St) : Int → Int → Hp → Prop := fun lo hi H => -(2 ^ 62) ≤ lo ∧ lo < 2 ^ 62 ∧ -(2 ^ 62) ≤ hi ∧ hi < 2 ^ 62 ∧ ∃ W : Nat → Nat → L2.St → Hp → Prop, (∃ m, W 0 m σ H) ∧ ∀ j m σ H, W j m σ H →
  ((Itc (lo + (((hi - lo).toNat : Nat) : Int) - 1) (-1) (hi - lo).toNat).stop j H ∧ D.nx σ H) ∨ ((Itc (lo + (((hi - lo).toNat : Nat) : Int) - 1) (-1) (hi - lo).toNat).go j H ∧ ∃ N : L2.St → Hp → Prop, (∀ σ' H', N σ' H' → ∃ m', m' < m ∧ W (j + 1) m' σ' H') ∧
    ∀ x H', (Itc (lo + (((hi - lo).toNat : Nat) : Int) - 1) (-1) (hi - lo).toNat).yld j H x H' → gName i x σ H' fun σ2 H2 => tu { D with nx := N, ct := N, bk := D.nx } σ2 H2)
theorem x_forRev1 {i : Nat} {tu : TS} {D : Ends} {σ : L2.St} {tr : L2.St → Hp → (Int → Int → Hp → Prop) → Prop} (q : tr σ H (rRevR i tu D σ)) : tFor (iRevR tr) (gName i) tu D σ H := q
theorem x_forRev {i : Nat} {tu : TS} {D : Ends} {σ : L2.St} {m : Int} (Pv : Nat → L2.St → Hp → Prop) (hm : 0 ≤ m ∧ m ≤ 100000) (p0 : Pv 0 σ H)
    (ps : ∀ (j : Nat) σ' H', (j : Int) < m → Pv j σ' H' → tu { D with nx := Pv (j + 1), ct := Pv (j + 1), bk := D.nx } (σ'.set i (some (.int (m - 1 - j)))) H') (pd : ∀ σ' H', Pv m.toNat σ' H' → D.nx σ' H') : rRevR i tu D σ 0 m H := by
  have e : (m - 0).toNat = m.toNat := by omega
  refine ⟨by omega, by omega, by omega, by omega, ?_⟩
  rw [e]
  refine for_rangeC (n := m.toNat) Pv p0 (fun j σ' H' hj p => ?_) pd
  have e0 : (0 : Int) + ((m.toNat : Nat) : Int) - 1 + (j : Nat) * (-1) = m - 1 - j := by omega
  show tu { D with nx := Pv (j + 1), ct := Pv (j + 1), bk := D.nx } (σ'.set i (some (.int ((0 : Int) + ((m.toNat : Nat) : Int) - 1 + (j : Nat) * (-1))))) H'
  rw [e0]
  exact ps j σ' H' (by omega) p
theorem cut_take {xs : List V} {k : Int} {n : Nat} (e : k = (n : Int)) : cutV xs none (some k) = xs.take n := by
  subst e
  unfold cutV
  rw [HT.sIx_nat, HT.sIx_none, List.drop_zero, Nat.sub_zero]
  by_cases h : n ≤ xs.length
  · rw [show min n xs.length = n by omega]
  · rw [show min n xs.length = xs.length by omega, List.take_length, List.take_of_length_le (by omega)]
theorem cut_drop {xs : List V} {k : Int} {n : Nat} (e : k = (n : Int)) : cutV xs (some k) none = xs.drop n := by
  subst e
  unfold cutV
  rw [HT.sIx_nat, HT.sIx_none]
  by_cases h : n ≤ xs.length
  · rw [show min n xs.length = n by omega, List.take_of_length_le (by rw [List.length_drop]; omega)]
  · rw [show min n xs.length = xs.length by omega, List.drop_length, List.drop_of_length_le (by omega)]
    simp
/-- range(lo, hi) -/
def rRange2 (n : Nat) (tu : TS) (D : Ends) (σ : L2.St) : List V → Hp → Prop := fun vs H => ∃ i j : Int, vs = [.int i, .int j] ∧ (-(2 ^ 62) ≤ i ∧ i < 2 ^ 62 ∧ -(2 ^ 62) ≤ j ∧ j < 2 ^ 62) ∧ ∃ W : Nat → Nat → L2.St → Hp → Prop, (∃ m, W 0 m σ H) ∧ ∀ k m σ H, W k m σ H →
  ((Itr i (j - i).toNat).stop k H ∧ D.nx σ H) ∨ ((Itr i (j - i).toNat).go k H ∧ ∃ N : L2.St → Hp → Prop, (∀ σ' H', N σ' H' → ∃ m', m' < m ∧ W (k + 1) m' σ' H') ∧ ∀ x H', (Itr i (j - i).toNat).yld k H x H' → gName n x σ H' fun σ2 H2 => tu { D with nx := N, ct := N, bk := D.nx } σ2 H2)
theorem x_forR2 {n : Nat} {tu : TS} {D : Ends} {σ : L2.St} {tr : TA} (q : tr σ H (rRange2 n tu D σ)) : tFor (iRng2 tr) (gName n) tu D σ H := q
theorem x_range2 {n : Nat} {tu : TS} {D : Ends} {σ : L2.St} {lo hi : Int} (Pv : Nat → L2.St → Hp → Prop) (hm : -1000000 ≤ lo ∧ lo ≤ 1000000 ∧ -1000000 ≤ hi ∧ hi ≤ 1000000) (p0 : Pv 0 σ H)
    (ps : ∀ (k : Nat) σ' H', lo + (k : Int) < hi → Pv k σ' H' → tu { D with nx := Pv (k + 1), ct := Pv (k + 1), bk := D.nx } (σ'.set n (some (.int (lo + (k : Int))))) H') (pd : ∀ σ' H', Pv (hi - lo).toNat σ' H' → D.nx σ' H') : rRange2 n tu D σ [.int lo, .int hi] H :=
  ⟨lo, hi, rfl, ⟨by omega, by omega, by omega, by omega⟩, for_range (lo := lo) (n := (hi - lo).toNat) Pv p0 (fun k σ' H' hk p => ps k σ' H' (by omega) p) pd⟩
theorem pk_ints {n : Nat} : ∀ ns : List Int, PkAll K H n (ns.map V.int) (ns.map PyData.int)
  | [] => pk_nil
  | m :: r => pk_cons pk_int (pk_ints r)
/-! dicts whose keys are texts -/
def rDG (x : V) (Q : VK) : VK := fun y H2 => ∃ (a : Addr) (v : V), x = .ref a ∧ DGet H2 a y (some v) ∧ Q v H2
theorem x_dget {td ty : TE} {σ : L2.St} (q : td σ H fun x H1 => ty σ H1 (rDG x Q)) : tDGet td ty σ H Q := q
theorem x_rDG {kvs : List (Key × V)} {k : Str} {v : V} (h : H a = some (.dK kvs)) (e : valV kvs (Sum.inr k) = some v) (q : Q v H) : rDG (.ref a) Q (.str k) H := ⟨a, v, rfl, by rw [← e]; exact (DGet.k (k := Sum.inr k) h : DGet H a (kV (Sum.inr k)) (valV kvs (Sum.inr k))), q⟩
def rDP (x v : V) (R : Hp → Prop) : VK := fun y H3 => ∃ (a : Addr) (H4 : Hp), x = .ref a ∧ DPut H3 a y v H4 ∧ R H4
theorem x_sdput {td ty tv : TE} {D : Ends} {σ : L2.St} {tz : TS} (q : tv σ H fun v H1 => td σ H1 fun x H2 => ty σ H2 (rDP x v fun H4 => tz D σ H4)) : tSeq (sDPut td ty tv) tz D σ H := q
theorem x_dput {td ty tv : TE} {D : Ends} {σ : L2.St} (q : tv σ H fun v H1 => td σ H1 fun x H2 => ty σ H2 (rDP x v fun H4 => D.nx σ H4)) : sDPut td ty tv D σ H := q
theorem x_rDP {kvs kvs' : List (Key × V)} {k : Str} {v : V} {R : Hp → Prop} (h : H a = some (.dK kvs)) (hl : kvs.length < 1000) (e : putK kvs (Sum.inr k) v = kvs') (q : R (upd H a (.dK kvs'))) : rDP (.ref a) v R (.str k) H :=
  ⟨a, upd H a (.dK (putK kvs (Sum.inr k) v)), rfl, (DPut.k (k := Sum.inr k) h (small1000 (Nat.le_of_lt hl)) : DPut H a (kV (Sum.inr k)) v _), by rw [e]; exact q⟩
theorem x_disp {trs : List (TE × TE)} {σ : L2.St} (q : ∀ p, Fr p H → tPairs trs σ (upd H p (.dK [])) fun ps H2 => H2 p = some (.dK []) ∧ ∃ kvs : List (Key × V), ps = kvs.map (fun kv => (kV kv.1, kv.2)) ∧ kvs.length ≤ 15 ∧ Q (.ref p) (upd H2 p (.dK (mergeK [] kvs)))) : tDisp trs σ H Q := fun p hp => q p ⟨hp⟩
theorem x_pcons {tk tv : TE} {r : List (TE × TE)} {σ : L2.St} {R : List (V × V) → Hp → Prop} (q : tk σ H fun x H1 => tv σ H1 fun y H2 => tPairs r σ H2 fun ps H3 => R ((x, y) :: ps) H3) : tPairs ((tk, tv) :: r) σ H R := q
theorem x_pnil {σ : L2.St} {R : List (V × V) → Hp → Prop} (q : R [] H) : tPairs [] σ H R := q
/-! lists of ints sorted where they stand -/
theorem x_rSortI {ns : List Int} (h : H a = some (.lst (ns.map V.int))) (k : ∀ ns' : List Int, ns'.Perm ns → ns'.Pairwise (· ≤ ·) → Q .non (upd H a (.lst (ns'.map V.int)))) : rSortI (.ref a) [] H Q := ⟨a, ns, rfl, rfl, h, k⟩
theorem srt_eq {xs ys : List Int} (p : xs.Perm ys) (h1 : xs.Pairwise (· ≤ ·)) (h2 : ys.Pairwise (· ≤ ·)) : xs = ys := p.eq_of_pairwise (fun x y _ _ h h' => Int.le_antisymm h h') h1 h2
/-! texts -/
def nInS : R2 := fun x y H Q => ∃ (c : Nat) (z : Str), x = .str ⟨#[c]⟩ ∧ y = .str z ∧ Q (.bl (decide (c ∈ z.cps.toList))) H
def nNotInS : R2 := fun x y H Q => ∃ (c : Nat) (z : Str), x = .str ⟨#[c]⟩ ∧ y = .str z ∧ Q (.bl (!decide (c ∈ z.cps.toList))) H
theorem op_nInS : OpR X (compareOp .In) nInS := op_in_sign
theorem op_nNotInS : OpR X (compareOp .NotIn) nNotInS := op_notIn_sign
theorem x_inS {c : Nat} {z : Str} (q : Q (.bl (decide (c ∈ z.cps.toList))) H) : nInS (.str ⟨#[c]⟩) (.str z) H Q := ⟨c, z, rfl, rfl, q⟩
theorem x_notInS {c : Nat} {z : Str} (q : Q (.bl (!decide (c ∈ z.cps.toList))) H) : nNotInS (.str ⟨#[c]⟩) (.str z) H Q := ⟨c, z, rfl, rfl, q⟩
def nAddS : R2 := fun x y H Q => ∃ i j : Str, x = .str i ∧ y = .str j ∧ i.length + j.length ≤ sizeLine ∧ Q (.str (i ++ j)) H
theorem op_nAddS : OpR X (binaryOp .Add) nAddS := op_add_str
theorem x_nAddS {i j : Str} (h : i.length + j.length ≤ 100000) (q : Q (.str (i ++ j)) H) : nAddS (.str i) (.str j) H Q := ⟨i, j, rfl, rfl, size_ok h, q⟩
def nLenS : List V → Hp → VK → Prop := fun xs H Q => ∃ z : Str, xs = [.str z] ∧ z.length ≤ sizeLine ∧ Q (.int z.length) H
theorem call_nLenS : CallR X (.builtin "len") nLenS := call_len_str
theorem x_nLenS {z : Str} (h : z.length ≤ 100000) (q : Q (.int z.length) H) : nLenS [.str z] H Q := ⟨z, rfl, size_ok h, q⟩
theorem x_slS {z : Str} {lo hi : Option Int} (h : z.length ≤ 100000) (q : Q (.str (cutS z lo hi)) H) : rSlS (.str z) lo hi H Q := ⟨z, rfl, size_ok h, q⟩
def rLcS (g : TG) (tt : TT) (te : TE) (vs : List Nat) (σ : L2.St) (Q : VK) : VK := fun x H1 => ∃ z, x = .str z ∧ RLc (Its z) g tt te vs σ Q H1
theorem x_lcS1 {g : TG} {t : TT} {te tx : TE} {vs : List Nat} {σ : L2.St} (q : tx σ H (rLcS g t te vs σ Q)) : tLc (iStr tx) g t te vs σ H Q := q
theorem x_lcS {g : TG} {t : TT} {te : TE} {vs : List Nat} {σ : L2.St} {z : Str} (Pv : Addr → Nat → Hp → Prop) (h0 : ∀ Dl, Fr Dl H → Pv Dl 0 (upd H Dl (.lst [])))
    (hs : ∀ Dl, Fr Dl H → ∀ i c H', z.cps.toList[i]? = some c → Pv Dl i H' → g (.str ⟨#[c]⟩) (wipe σ vs) H' fun σ2 H2 => wipe σ2 vs = wipe σ vs ∧ t σ2 H2 fun b H3 =>
      if b = true then te σ2 H3 fun y H4 => ∃ acc, H4 Dl = some (.lst acc) ∧ acc.length < sizeLine ∧ Pv Dl (i + 1) (upd H4 Dl (.lst (acc ++ [y]))) else Pv Dl (i + 1) H3)
    (hd : ∀ Dl H', Fr Dl H → Pv Dl z.length H' → Q (.ref Dl) H') : rLcS g t te vs σ Q (.str z) H := ⟨z, rfl, fun Dl hD =>
  lc_it walk_str (Pv Dl) (h0 Dl ⟨hD⟩) (fun _ _ _ _ => trivial) (fun i x H1 H' _ p y => by
    obtain ⟨rfl, c, hc, rfl⟩ := y
    exact hs Dl ⟨hD⟩ i c _ (by rw [← hc]; simp) p) (fun H' p => hd Dl H' ⟨hD⟩ p)⟩
/-! ### texts gone through, keys of a dict -/
def rForS (g : TG) (tu : TS) (D : Ends) (σ : L2.St) : VK := fun x H => ∃ z, x = .str z ∧ ∃ W : Nat → Nat → L2.St → Hp → Prop, (∃ m, W 0 m σ H) ∧ ∀ i m σ H, W i m σ H →
  ((Its z).stop i H ∧ D.nx σ H) ∨ ((Its z).go i H ∧ ∃ N : L2.St → Hp → Prop, (∀ σ' H', N σ' H' → ∃ m', m' < m ∧ W (i + 1) m' σ' H') ∧ ∀ x H', (Its z).yld i H x H' → g x σ H' fun σ2 H2 => tu { D with nx := N, ct := N, bk := D.nx } σ2 H2)
theorem x_forS1 {g : TG} {tu : TS} {D : Ends} {σ : L2.St} {te : TE} (q : te σ H (rForS g tu D σ)) : tFor (iStr te) g tu D σ H := q
theorem x_forS {g : TG} {tu : TS} {D : Ends} {σ : L2.St} {z : Str} (Pv : Nat → L2.St → Hp → Prop) (p0 : Pv 0 σ H)
    (ps : ∀ i c σ' H', z.cps.toList[i]? = some c → Pv i σ' H' → g (.str ⟨#[c]⟩) σ' H' fun σ2 H2 => tu { D with nx := Pv (i + 1), ct := Pv (i + 1), bk := D.nx } σ2 H2) (pd : ∀ σ' H', Pv z.length σ' H' → D.nx σ' H') : rForS g tu D σ (.str z) H :=
  ⟨z, rfl, for_it walk_str Pv p0 (fun _ _ _ _ _ => trivial) (fun i x σ H H' _ p y => by
    obtain ⟨rfl, c, hc, rfl⟩ := y
    exact ps i c _ _ (by rw [← hc]; simp) p) pd⟩
def nOrd : List V → Hp → VK → Prop := fun xs H Q => ∃ x : Str, xs = [.str x] ∧ x.length = 1 ∧ Q (.int (x.cps.getD 0 0 : Nat)) H
theorem k_ord {X : Cx} : CallR X (.builtin "ord") nOrd := call_ord
theorem x_ord {c : Nat} (q : Q (.int (c : Nat)) H) : nOrd [.str ⟨#[c]⟩] H Q := ⟨_, rfl, rfl, q⟩
/-- a list comprehension over a dict's keys -/
theorem x_lcK {g : TG} {t : TT} {te : TE} {vs : List Nat} {σ : L2.St} {a : Nat} {r : Addr} {kvs : List (Key × V)} (ea : σ[a]? = some (some (.ref r))) (hr : H r = some (.dK kvs))
    (q : ∀ od H0, H0 = upd H r (.frz od (.dK kvs)) → ∃ Pv : Addr → Nat → Hp → Prop, (∀ Dl, Fr Dl H0 → Pv Dl 0 (upd H0 Dl (.lst []))) ∧ (∀ Dl i H', Fr Dl H0 → Pv Dl i H' → H' r = some (.frz od (.dK kvs))) ∧
      (∀ Dl, Fr Dl H0 → ∀ i k v H', kvs[i]? = some (k, v) → Pv Dl i H' → g (kV k) (wipe σ vs) H' fun σ2 H2 => wipe σ2 vs = wipe σ vs ∧ t σ2 H2 fun b H3 =>
        if b = true then te σ2 H3 fun y H4 => ∃ acc, H4 Dl = some (.lst acc) ∧ acc.length < sizeLine ∧ Pv Dl (i + 1) (upd H4 Dl (.lst (acc ++ [y]))) else Pv Dl (i + 1) H3) ∧
      ∀ Dl H', Fr Dl H0 → Pv Dl kvs.length H' → Q (.ref Dl) (upd H' r (.dK kvs))) : tLockE (tLc (iKeys (tVar a)) g t te vs) σ H Q := by
  refine ⟨r, _, hr, trivial, fun od => ?_⟩
  obtain ⟨Pv, h0, h1, h2, h3⟩ := q od _ rfl
  refine ⟨.ref r, ea, r, od, rfl, .inl ⟨kvs, upd_same, fun Dl hD => ?_⟩⟩
  refine lc_it (walk_keys (o := od)) (Pv Dl) (h0 Dl ⟨hD⟩) (fun i H' _ p => h1 Dl i H' ⟨hD⟩ p) (fun i x H1 H' _ p y => ?_) fun H' p => ⟨h1 Dl _ H' ⟨hD⟩ p, h3 Dl H' ⟨hD⟩ p⟩
  obtain ⟨rfl, k, v, e, rfl⟩ := y
  exact h2 Dl ⟨hD⟩ i k v _ e p
/-- all signs of a text are so -/
def AllC (p : Nat → Bool) (s : Str) : Bool := s.cps.toList.all p
theorem toList_add (i j : Str) : (i ++ j).cps.toList = i.cps.toList ++ j.cps.toList := by
  show (i.cps ++ j.cps).toList = _
  simp
theorem len_add (i j : Str) : (i ++ j).length = i.length + j.length := by
  show (i.cps ++ j.cps).size = i.cps.size + j.cps.size
  simp
theorem allC_add {p : Nat → Bool} {i j : Str} (h : AllC p i = true) (h' : AllC p j = true) : AllC p (i ++ j) = true := by
  unfold AllC at *
  rw [toList_add, List.all_append, h, h']
  rfl
theorem allC_add_inv {p : Nat → Bool} {i j : Str} (h : AllC p (i ++ j) = true) : AllC p i = true ∧ AllC p j = true := by
  unfold AllC at *
  rw [toList_add, List.all_append, Bool.and_eq_true] at h
  exact h
theorem allC_cut {p : Nat → Bool} {z : Str} {lo hi : Option Int} (h : AllC p z = true) : AllC p (cutS z lo hi) = true := by
  unfold AllC at *
  rw [List.all_eq_true] at h ⊢
  intro c hc
  refine h c ?_
  unfold cutS at hc
  simp only at hc
  exact List.mem_of_mem_drop (List.mem_of_mem_take hc)
theorem len_cut (z : Str) (lo hi : Option Int) : (cutS z lo hi).length ≤ z.length := by
  show (cutS z lo hi).cps.size ≤ z.cps.size
  unfold cutS
  simp only [List.size_toArray, List.length_take, List.length_drop, Array.length_toList]
  have : z.length = z.cps.size := rfl
  omega
theorem allC_at {p : Nat → Bool} {z : Str} {i : Nat} {c : Nat} (h : AllC p z = true) (e : z.cps.toList[i]? = some c) : AllC p ⟨#[c]⟩ = true := by
  unfold AllC at *
  rw [List.all_eq_true] at h
  have := h c (List.mem_of_getElem? e)
  simp [this]
theorem allC_mono {p q : Nat → Bool} {s : Str} (h : AllC p s = true) (f : ∀ c, p c = true → q c = true) : AllC q s = true := by
  unfold AllC at *
  rw [List.all_eq_true] at h ⊢
  exact fun c hc => f c (h c hc)
def okC : Nat → Bool := fun c => decide (c < 0x110000)
theorem lay_str {s : Str} (h : AllC okC s = true) : PyData.canLay0 (.str s) = true := by
  have h2 : s.cps.all (fun c => decide (c < 0x110000)) = true := by
    rw [← Array.all_toList]
    exact h
  simpa only [PyData.canLay0, PyData.strOk] using h2
/-! tuples some times over -/
theorem tup_times1 (l : Addr) (items : Array Value) (n : Nat) (dd : Option Addr) (sl : Array (Option Value)) (u : Tok) :
    Meets (Builtin.«tuple.__mul__» ⟨[.ref l, .int 1 u], []⟩) (fun _ R s => s.heap.get? l = some { cls := .type "tuple", dict := dd, data := .seq items n, slots := sl } ∧ R (.ok (.ret (.ref l))) s) :=
  .of_wp fun prog w A R s h => by
    obtain ⟨hp, g, d, tk, os⟩ := s
    obtain ⟨hl, h⟩ := h
    have f1 := AutoSeq1.idx_int
    wp_walk using wpAny_loadPart' hl
    exact ⟨_, rfl, h⟩
def nRepT (K : PySem.W.Frag) : R2 := fun x y H Q => ∃ (l : Addr) (k : Int) (xs : List V), x = .ref l ∧ y = .int k ∧ SqT K H l xs ∧ xs ≠ [] ∧ xs.length ≤ 1000 ∧ ((k = 1 ∧ Q (.ref l) H) ∨ (2 ≤ k ∧ k ≤ 1000 ∧ ∀ p, H p = none → Q (.ref p) (upd H p (.tup (List.replicate k.toNat xs).flatten))))
theorem op_nRepT : OpR X (binaryOp .Mult) (nRepT X.K) := by
  intro pins s σ H x y v u Q I rx ry h
  obtain ⟨l, k, xs, rfl, rfl, hT, hne, hz, q⟩ := h
  rcases q with ⟨rfl, q⟩ | ⟨h1, h2, q⟩
  · cases rx
    obtain ⟨t, rfl⟩ := ry
    obtain ⟨its, r, ⟨⟨cls, dd, data, sl⟩, ho, hc, n, hd⟩, hs⟩ := I.tuple hT
    simp only at hc hd
    subst hc hd
    exact wpAny_binaryOp_repeat_ref (T := "tuple") (U := "int") (by decide) ⟨_, ho, rfl⟩ (fun s' => typeIs_int s' 1 t) noFill_tuple_mul PySem.F.fills_int_mul PySem.F.slot_int_rmul repeat_tuple PySem.F.slot_int_index.lookup
      (call_meets PySem.F.slot_int_rmul (typeIs_int s 1 t) PySem.F.entry_int_rmul (PySem.F.args_int_rmul_2 _ _) (int_rmul_tuple 1 t l its.toArray n dd sl)
        ⟨ho, rfl, ⟨_, ho, rfl⟩, call_meets PySem.F.slot_tuple_mul ⟨_, ho, rfl⟩ PySem.F.entry_tuple_mul (PySem.F.args_tuple_mul_2 _ _) (tup_times1 l its.toArray n dd sl t) ⟨ho, ⟨.ref l, H, I, rfl, q⟩⟩⟩)
  · exact op_repT pins s σ H _ _ v u Q I rx ry ⟨l, k, xs, rfl, rfl, hT, hne, h1, h2, hz, q⟩
theorem k_repT (e : X.K = K) : OpR X (binaryOp .Mult) (nRepT K) := e ▸ op_nRepT
/-! more of dicts -/
def rGet1 (R : VK) (a : Addr) : VK := fun y H2 => ∃ o, DGet H2 a y o ∧ R (o.getD .non) H2
def rGetD (x : V) (ty : TE) (σ : L2.St) (Q : VK) : Hp → Prop := fun H1 => ∃ a, x = .ref a ∧ IsD H1 a ∧ ty σ H1 (rGet1 Q a)
theorem x_dget1 {td ty : TE} {σ : L2.St} (q : td σ H fun x H1 => rGetD x ty σ Q H1) : tDGet1 td ty σ H Q := q
theorem x_rGetD {ty : TE} {σ : L2.St} {kvs : List (Key × V)} (h : H a = some (.dK kvs)) (q : ty σ H (rGet1 Q a)) : rGetD (.ref a) ty σ Q H := ⟨a, rfl, .inl ⟨kvs, .inl h⟩, q⟩
theorem x_rGet1 {kvs : List (Key × V)} {k : Str} (h : H a = some (.dK kvs)) (q : Q ((valV kvs (Sum.inr k)).getD .non) H) : rGet1 Q a (.str k) H := ⟨_, (DGet.k (k := Sum.inr k) h : DGet H a (kV (Sum.inr k)) (valV kvs (Sum.inr k))), q⟩
def rGet2 (R : VK) (a : Addr) (y z : V) : Hp → Prop := fun H3 => ∃ o, DGet H3 a y o ∧ R (o.getD z) H3
def rGetE (x : V) (ty tx : TE) (σ : L2.St) (Q : VK) : Hp → Prop := fun H1 => ∃ a, x = .ref a ∧ IsD H1 a ∧ ty σ H1 fun y H2 => tx σ H2 fun z H3 => rGet2 Q a y z H3
theorem x_dget2 {td ty tx : TE} {σ : L2.St} (q : td σ H fun x H1 => rGetE x ty tx σ Q H1) : tDGet2 td ty tx σ H Q := q
theorem x_rGetE {ty tx : TE} {σ : L2.St} {kvs : List (Key × V)} (h : H a = some (.dK kvs)) (q : ty σ H fun y H2 => tx σ H2 fun z H3 => rGet2 Q a y z H3) : rGetE (.ref a) ty tx σ Q H := ⟨a, rfl, .inl ⟨kvs, .inl h⟩, q⟩
theorem x_rGet2 {kvs : List (Key × V)} {k : Str} {z : V} (h : H a = some (.dK kvs)) (q : Q ((valV kvs (Sum.inr k)).getD z) H) : rGet2 Q a (.str k) z H := ⟨_, (DGet.k (k := Sum.inr k) h : DGet H a (kV (Sum.inr k)) (valV kvs (Sum.inr k))), q⟩
def rPop1 (R : VK) (a : Addr) : VK := fun y H2 => ∃ (kvs : List (Key × V)) (k : Key) (v : V), H2 a = some (.dK kvs) ∧ y = kV k ∧ valV kvs k = some v ∧ R v (upd H2 a (.dK (dropK kvs k)))
def rPopD (x : V) (ty : TE) (σ : L2.St) (Q : VK) : Hp → Prop := fun H1 => ∃ a, x = .ref a ∧ IsD H1 a ∧ ty σ H1 (rPop1 Q a)
theorem x_dpop1 {td ty : TE} {σ : L2.St} (q : td σ H fun x H1 => rPopD x ty σ Q H1) : tDPop1 td ty σ H Q := q
theorem x_rPopD {ty : TE} {σ : L2.St} {kvs : List (Key × V)} (h : H a = some (.dK kvs)) (q : ty σ H (rPop1 Q a)) : rPopD (.ref a) ty σ Q H := ⟨a, rfl, .inl ⟨kvs, .inl h⟩, q⟩
theorem x_rPop1 {kvs : List (Key × V)} {k : Str} {v : V} (h : H a = some (.dK kvs)) (e : valV kvs (Sum.inr k) = some v) (q : Q v (upd H a (.dK (dropK kvs (Sum.inr k))))) : rPop1 Q a (.str k) H := ⟨kvs, Sum.inr k, v, h, rfl, e, q⟩
def rPop2 (R : VK) (a : Addr) (y z : V) : Hp → Prop := fun H3 => ∃ (kvs : List (Key × V)) (k : Key), H3 a = some (.dK kvs) ∧ y = kV k ∧ (∀ v, valV kvs k = some v → R v (upd H3 a (.dK (dropK kvs k)))) ∧ (valV kvs k = none → R z H3)
def rPopE (x : V) (ty tx : TE) (σ : L2.St) (Q : VK) : Hp → Prop := fun H1 => ∃ a, x = .ref a ∧ IsD H1 a ∧ ty σ H1 fun y H2 => tx σ H2 fun z H3 => rPop2 Q a y z H3
theorem x_dpop2 {td ty tx : TE} {σ : L2.St} (q : td σ H fun x H1 => rPopE x ty tx σ Q H1) : tDPop2 td ty tx σ H Q := q
theorem x_rPopE {ty tx : TE} {σ : L2.St} {kvs : List (Key × V)} (h : H a = some (.dK kvs)) (q : ty σ H fun y H2 => tx σ H2 fun z H3 => rPop2 Q a y z H3) : rPopE (.ref a) ty tx σ Q H := ⟨a, rfl, .inl ⟨kvs, .inl h⟩, q⟩
theorem x_rPop2 {kvs : List (Key × V)} {k : Str} {z : V} (h : H a = some (.dK kvs)) (q1 : ∀ v, valV kvs (Sum.inr k) = some v → Q v (upd H a (.dK (dropK kvs (Sum.inr k))))) (q2 : valV kvs (Sum.inr k) = none → Q z H) : rPop2 Q a (.str k) z H := ⟨kvs, Sum.inr k, h, rfl, q1, q2⟩
def rDInK (y : V) (Q : VK) : VK := fun x H2 => ∃ a o, x = .ref a ∧ DGet H2 a y o ∧ Q (.bl o.isSome) H2
theorem x_din {ty td : TE} {σ : L2.St} (q : ty σ H fun y H1 => td σ H1 (rDInK y Q)) : tDIn ty td σ H Q := q
theorem x_rDInK {kvs : List (Key × V)} {k : Str} (h : H a = some (.dK kvs)) (q : Q (.bl (valV kvs (Sum.inr k)).isSome) H) : rDInK (.str k) Q (.ref a) H := ⟨a, _, rfl, (DGet.k (k := Sum.inr k) h : DGet H a (kV (Sum.inr k)) (valV kvs (Sum.inr k))), q⟩
theorem x_dnew {σ : L2.St} (k : ∀ p H2, Fr p H → Same H H2 → H2 p = some (.dK []) → Q (.ref p) H2) : tDNewK σ H Q := fun p hp => k p _ ⟨hp⟩ (same_new hp) upd_same
theorem x_notBl {b c : Bool} (q : Q (.bl (!decide (b = c))) H) : rNotB (.bl b) (.bl c) H Q := ⟨b, c, rfl, rfl, q⟩
theorem x_isBl {b c : Bool} (q : Q (.bl (decide (b = c))) H) : rIsB (.bl b) (.bl c) H Q := ⟨b, c, rfl, rfl, q⟩
theorem cut_whole {xs : List V} {lo hi : Option Int} (h : HT.sIx xs.length 0 lo = 0 ∧ HT.sIx xs.length xs.length hi = xs.length) : cutV xs lo hi = xs := by
  unfold cutV
  rw [h.1, h.2]
  simp
theorem x_slA {xs : List V} {lo hi : Option Int} (h : H a = some (.tup xs)) (k : ∀ p H', Same H H' → H' p = some (.tup (cutV xs lo hi)) → Q (.ref p) H') : rSlA K (.ref a) lo hi H Q :=
  ⟨a, xs, rfl, st_of h, fun e => k a H (Same.refl _) (by rw [cut_whole e]; exact h), fun _ p hp => k p _ (same_new hp) upd_same⟩
theorem x_catB {xs ys : List V} (h : H a = some (.tup xs)) (h' : H b = some (.tup ys)) (hz : xs.length + ys.length ≤ 100000) (k : ∀ p H', Same H H' → H' p = some (.tup (xs ++ ys)) → Q (.ref p) H') : rCatA K (.ref a) (.ref b) H Q :=
  ⟨a, b, xs, ys, rfl, rfl, st_of h, st_of h', size_ok hz, fun e => k b H (Same.refl _) (by rw [e]; exact h'), fun _ e => k a H (Same.refl _) (by rw [e, List.append_nil]; exact h), fun _ _ p hp => k p _ (same_new hp) upd_same⟩
theorem x_repB {xs : List V} {n : Int} (h : H a = some (.tup xs)) (hne : xs ≠ []) (hz : xs.length ≤ 1000) (hn : 1 ≤ n ∧ n ≤ 1000) (k : ∀ p H', Same H H' → H' p = some (.tup (List.replicate n.toNat xs).flatten) → Q (.ref p) H') : nRepT K (.ref a) (.int n) H Q := by
  refine ⟨a, n, xs, rfl, rfl, st_of h, hne, hz, ?_⟩
  by_cases e : n = 1
  · subst e
    refine .inl ⟨rfl, k a H (Same.refl _) ?_⟩
    rw [h]
    simp
  · exact .inr ⟨by omega, hn.2, fun p hp => k p _ (same_new hp) upd_same⟩
theorem repS_len {z : Str} {n : Int} (h : 2 ≤ n) (hz : 1 ≤ z.length) : (repS z n).length = n.toNat * z.length := by
  unfold repS
  rw [if_neg (by omega), if_neg]
  · show ((List.replicate n.toNat z.cps).foldl (· ++ ·) #[]).size = _
    rw [PySem.size_reps]
    show 0 + n.toNat * z.cps.size = n.toNat * z.length
    rw [Nat.zero_add]
    rfl
  · rw [Bool.or_eq_true, beq_iff_eq, beq_iff_eq]
    omega
end
/-- a def with defaults that lets nothing out -/
theorem okD {P : Program} {w : World} {K : PySem.W.Frag} {mg : Str → Option Value} {base : Heap} {x qual : Str} {pr : Arguments} {body : List Stmt} {sc : Scope} {dvs : List V} {kws : List (Str × V)} {f : Addr} {fd : FuncData} {N ps : List Str} {k : Nat} {sp : Sp}
    (F : FunD K x qual pr body sc dvs kws f fd) (S : FnScope N ps sc) (len : ∀ vs H Q E, sp vs H Q E → vs.length = ps.length)
    (hb : ∀ (cdv : Value) (A : Around) (outer : List Env) (s : Shared) (H : Hp) (vs : List V) (Q : VK) (E : XK), Room k (A.deeper (envOfC qual sc s.heap.objs.size f cdv)) → sp vs H Q E →
      ∃ t, PSs (cxOf CX0 P w K mg base N qual sc f cdv A outer s H E).nox body t ∧ t { nx := fun _ H' => Q .non H', rt := Q } (start N vs) H) : FnOk P w K mg base CX0 (k + 1) f fd ps sp :=
  F.ok S len fun cdv A outer s H vs Q E hr h => by
    obtain ⟨t, h1, q⟩ := hb cdv A outer s H vs Q E hr h
    exact ⟨t, h1.nox, q⟩
theorem funD_mk {K : PySem.W.Frag} {x qual : Str} {st : Stmt} {f dT : Addr} {oc : Value} {od an : Option Addr} {osl : Array (Option Value)} {kV doc pm cdv ct : Value} {dvs : List V} {o : Obj} {its : List Value} {n : Nat}
    (l : K.lookup f = some ⟨oc, od, .func (PySem.W.fnOf x qual (defArgs st) (defBody st) (defScope st) (.ref dT) kV doc pm an cdv ct), osl⟩) (c : PySem.W.codeIn K cdv qual = true) (k : PySem.W.keepIn K (.ref f) = true)
    (hd : dvs ≠ []) (lT : K.lookup dT = some o) (oT : o.data = .seq its.toArray n) (r : Vals dvs its) :
    FunD K x qual (defArgs st) (defBody st) (defScope st) dvs [] f (PySem.W.fnOf x qual (defArgs st) (defBody st) (defScope st) (.ref dT) kV doc pm an cdv ct) :=
  ⟨⟨oc, od, .ref dT, kV, doc, pm, an, cdv, ct, osl, rfl, l, c, .inr ⟨hd, dT, o, its, n, rfl, lT, oT, r⟩, .inl rfl⟩, k⟩
/-- dict(d) -/
def rDictD (xs : List V) (H : Hp) (Q : VK) : Prop := ∃ (a : Addr) (kvs : List (Key × V)), xs = [.ref a] ∧ Rd H a (.dK kvs) ∧ ∀ p, H p = none → Q (.ref p) (upd H p (.dK kvs))
theorem k_dictD {X : Cx} : CallR X (.type "dict") rDictD := call_dictD
theorem x_rDictD {a : Addr} {H : Hp} {Q : VK} {kvs : List (Key × V)} (h : H a = some (.dK kvs)) (k : ∀ p H2, Fr p H → Same H H2 → H2 p = some (.dK kvs) → Q (.ref p) H2) : rDictD [.ref a] H Q := ⟨a, kvs, rfl, .inl h, x_new1 k⟩
end Xk
/-! zip of a tuple and a list -/
namespace Xk
open PySem PySem.Spec PyProof.Rows L2
/-- a tuple at p and a list at q, side by side -/
def ItTL (K : PySem.W.Frag) (p q : Addr) : It where
  go := fun n H => ∃ (us vs : List V) (u v : V), SqT K H p us ∧ SqL K H q vs ∧ us[n]? = some u ∧ vs[n]? = some v
  yld := fun n H r H' => ∃ T u v, r = .ref T ∧ H T = none ∧ H' = upd H T (.tup [u, v]) ∧ (∀ us, SqT K H p us → us[n]? = some u) ∧ ∀ vs, SqL K H q vs → vs[n]? = some v
  stop := fun n H => ∃ us vs : List V, SqT K H p us ∧ SqL K H q vs ∧ n ≤ us.length ∧ n ≤ vs.length ∧ (n = us.length ∨ n = vs.length)
/-- what stands behind such an iterator -/
def AtTL (z t o i j p q : Addr) (n : Nat) (h : Heap) : Prop :=
  IsZip h z t o .none ∧ IsPair h t (.ref i) (.ref j) ∧ (∃ u v, IsPair h o u v) ∧ h.IsTupleIter i p n ∧ h.IsListIter j q n
theorem sepTL {z t o i j p q : Addr} (D : ZipApart z t o i j p q) : ZipSep2 z t o i j [i, p] [j, q] where
  TIz := D.TIz
  TOz := D.TOz
  TITO := D.TITO
  TIi1 := D.TIi1
  mem1 := List.mem_cons_self
  zf1 := by simp [D.i1z.symm, D.l1z.symm]
  Tf1 := by simp [D.TOi1, D.l1TO.symm]
  TIi2 := D.TIi2
  mem2 := List.mem_cons_self
  zf2 := by simp [D.i2z.symm, D.l2z.symm]
  Tf2 := by simp [D.TOi2, D.l2TO.symm]
  sep1_2 := by simp [D.i12, D.l2i1.symm]
  sep2_1 := by simp [D.i12.symm, D.l1i2.symm]
theorem five {c z t o i j : Addr} {P : Addr → Prop} (h : c ∈ [z, t, o, i, j]) (h1 : P z) (h2 : P t) (h3 : P o) (h4 : P i) (h5 : P j) : P c := by
  simp only [List.mem_cons, List.not_mem_nil, or_false] at h
  rcases h with rfl | rfl | rfl | rfl | rfl <;> assumption
theorem turnTL {P : Program} {w : World} {K : PySem.W.Frag} {es : List Expr} {k : Nat} {pos : Pos} {z t o i j p q : Addr} (D : ZipApart z t o i j p q) :
    Turn P w K (.Tuple es k pos) (ItTL K p q) [z, t, o, i, j] z (AtTL z t o i j p q) where
  mem := List.mem_cons_self
  obj := fun n h st c hc => by
    obtain ⟨g1, g2, ⟨u, v, g3⟩, ⟨o1, e1, _, d1⟩, ⟨o2, e2, _, d2⟩⟩ := st
    refine five (P := fun c => ∃ ob, h.get? c = some ob ∧ ∀ v, ob.data ≠ .cell v) hc ⟨_, g1, fun _ e => nomatch e⟩ ⟨_, g2, fun _ e => nomatch e⟩ ⟨_, g3, fun _ e => nomatch e⟩ ⟨o1, e1, fun x e => ?_⟩ ⟨o2, e2, fun x e => ?_⟩
    · rw [d1] at e
      cases e
    · rw [d2] at e
      cases e
  keep := fun n h h' st g => by
    obtain ⟨g1, g2, ⟨u, v, g3⟩, g4, g5⟩ := st
    exact ⟨g z (by simp) _ g1, g t (by simp) _ g2, ⟨u, v, g o (by simp) _ g3⟩, g4.at fun ob e => g i (by simp) ob e, g5.at fun ob e => g j (by simp) ob e⟩
  item := by
    intro X hP hw hK hc n pins s σ H E I hf st hg
    subst hP hw hK
    obtain ⟨g1, g2, ⟨u0, v0, g3⟩, g4, g5⟩ := st
    obtain ⟨us, vs, u, v, hus, hvs, hu, hv⟩ := hg
    obtain ⟨its, r1, p1, _⟩ := I.tuple hus
    obtain ⟨its2, r2, p2, _⟩ := I.list hvs
    obtain ⟨x, hx, rx⟩ := r1.get hu
    obtain ⟨y, hy, ry⟩ := r2.get hv
    have lt1 : n < its.toArray.size := by
      obtain ⟨b, _⟩ := List.getElem?_eq_some_iff.mp hx
      simpa using b
    have lt2 : n < its2.toArray.size := by
      obtain ⟨b, _⟩ := List.getElem?_eq_some_iff.mp hy
      simpa using b
    have hzl : z < s.heap.objs.size := Heap.lt_size g1
    have hh : X.A.in1.handled = none := I.ok.hd hc
    refine wpAny_pyNext_zipD2_item (sepTL D) (Draws.tuple hh i p D.l1i1 its.toArray) (Draws.list hh j q D.l2i2 its2.toArray) g1 g2 g3 ⟨g4, p1⟩ ⟨g5, p2.isList⟩ lt1 lt2 fun x1 y1 h' tk q1 q2 z' o' st1 st2 hT hsz hk => ?_
    have ex : x1 = x := by
      have e2 : its[n]? = some x1 := by simpa using q1
      exact Option.some.inj (e2.symm.trans hx)
    have ey : y1 = y := by
      have e2 : its2[n]? = some y1 := by simpa using q2
      exact Option.some.inj (e2.symm.trans hy)
    subst ex ey
    refine ⟨_, rfl, wpAny_letOwnedTupleGo_zip (s := { s with heap := h', toks := tk }) z' fun h2 z2 sb => ?_⟩
    have hT2 : h2.get? s.heap.objs.size = some { cls := .type "tuple", data := .seq #[x1, y1] } := (sb.2 _ (Nat.ne_of_gt hzl)).trans hT
    have new : ObjOk X.prog X.w (upd H s.heap.objs.size (.tup [u, v])) h2 s.heap.objs.size (.tup [u, v]) :=
      ⟨by show 2 ≤ sizeLine; decide, [x1, y1], .cons rx (.cons ry .nil), ⟨_, hT2, rfl, _, rfl⟩⟩
    have kept : ∀ c ob, c ∉ [z, t, o, i, j] → s.heap.get? c = some ob → h2.get? c = some ob := fun c ob nc e => by
      simp only [List.mem_cons, List.not_mem_nil, or_false, not_or] at nc
      exact (sb.2 c nc.1).trans (hk c ob nc.1 nc.2.2.1 nc.2.2.2.1 nc.2.2.2.2 e)
    have I1 : Inv X pins σ (upd H s.heap.objs.size (.tup [u, v])) { s with heap := h2, toks := tk } :=
      I.turnedNew (t' := tk) (ch := [z, t, o, i, j]) kept hf (Nat.le_refl _) new
    refine ⟨.ref s.heap.objs.size, _, I1, rfl, ⟨_, u, v, rfl, I.hok.fresh (Nat.le_refl _), rfl, fun l hl => ?_, fun l hl => ?_⟩, ⟨z2, ?_, ⟨x1, y1, ?_⟩, ?_, ?_⟩, fun c hcm => ?_⟩
    · rw [I.tuple_inj hl hus]
      exact hu
    · rw [I.list_inj hl hvs]
      exact hv
    · exact (sb.2 _ D.TIz).trans (hk t _ D.TIz D.TITO D.TIi1 D.TIi2 g2)
    · exact (sb.2 _ D.TOz).trans o'
    · exact st1.1.at fun ob e => (sb.2 _ D.i1z).trans e
    · exact st2.1.at fun ob e => (sb.2 _ D.i2z).trans e
    · have lt : c < s.heap.objs.size := by
        refine five (P := fun c => c < s.heap.objs.size) hcm hzl (Heap.lt_size g2) (Heap.lt_size g3) ?_ ?_
        · obtain ⟨_, e1, _⟩ := g4
          exact Heap.lt_size e1
        · obtain ⟨_, e1, _⟩ := g5
          exact Heap.lt_size e1
      rw [upd_ne (Nat.ne_of_lt lt)]
      exact (hf c hcm).1
  done := by
    intro X hP hw hK hc n pins s σ H E I hf st hg
    subst hP hw hK
    obtain ⟨g1, g2, ⟨u0, v0, g3⟩, g4, g5⟩ := st
    obtain ⟨us, vs, hus, hvs, le1, le2, hend⟩ := hg
    obtain ⟨its, r1, p1, _⟩ := I.tuple hus
    obtain ⟨its2, r2, p2, _⟩ := I.list hvs
    have l1 : its.toArray.size = us.length := by rw [List.size_toArray, r1.length]
    have l2 : its2.toArray.size = vs.length := by rw [List.size_toArray, r2.length]
    have hh : X.A.in1.handled = none := I.ok.hd hc
    exact wpAny_pyNext_zipD2_end (sepTL D) (Draws.tuple hh i p D.l1i1 its.toArray) (Draws.list hh j q D.l2i2 its2.toArray) g1 g2 g3 ⟨g4, p1⟩ ⟨g5, p2.isList⟩ (by omega) (by omega) (by omega) fun h' tk hk =>
      ⟨rfl, I.turnedL (t' := tk) (ch := [z, t, o, i, j]) (fun c ob nc e => by
        simp only [List.mem_cons, List.not_mem_nil, or_false, not_or] at nc
        exact hk c ob nc.1 nc.2.2.1 nc.2.2.2.1 nc.2.2.2.2 e) hf⟩
  self := fun A n s Q E st h => wpAny_pyIter_zip st.1 h
/-- zip(e, e2), e a tuple and e2 a list -/
def iTL (K : PySem.W.Frag) (ta : TA) : TI := fun σ H R => ta σ H fun vs H1 => ∃ p q us ws, vs = [.ref p, .ref q] ∧ SqT K H1 p us ∧ SqL K H1 q ws ∧ R (ItTL K p q) H1
theorem pi_TL {X : Cx} {e e2 : Expr} {ta : TA} {p1 pos tpos : Pos} {es : List Expr} {k : Nat} (hg : Gl X "zip") (hm : X.mg "zip" = none) (ha : PA X [e, e2] ta)
    (hs : starEach [e, e2] X.env = (false, eval e X.env) :: starEach [e2] X.env := by rfl) (hpl : (backTo pos (starEach [e2] X.env)).any (·.1) = false := by rfl) :
    PI X (.Tuple es k tpos) (.Call (.Name "zip" p1) [e, e2] [] pos) (iTL X.K ta) := by
  refine ⟨fun pins s σ H R I h => Call_ (ld_blt I hg hm PyProof.Rows.boot_zip (PyProof.Rows.callWith_type1 (thn (ha.run pos pins s σ H _ I h) fun us s1 ⟨vs, H1, I1, r1, q1⟩ => ?_) hs hpl))⟩
  obtain ⟨p, q, xs, ys, rfl, hx, hy, g⟩ := q1
  have e3 : us = [.ref p, .ref q] := by
    cases r1 with
    | cons a b =>
      cases b with
      | cons c d =>
        cases d
        cases a
        cases c
        rfl
  subst e3
  obtain ⟨its, rx, px, _⟩ := I1.tuple hx
  obtain ⟨its2, ry, py, _⟩ := I1.list hy
  have lp : p < s1.heap.objs.size := by
    obtain ⟨_, e1, _⟩ := id px
    exact Heap.lt_size e1
  refine zip_begins2 (begins_tuple p its.toArray) (begins_list q its2.toArray) px py.isList fun h' hz hTI hTO h1 h2 hsz hk => wpAny_pyIter_zip hz ?_
  have I2 : Inv X pins σ H1 { s1 with heap := h' } := I1.kept (t' := s1.toks) hk
  refine ⟨s1.heap.objs.size + 4, [s1.heap.objs.size + 4, s1.heap.objs.size + 2, s1.heap.objs.size + 3, s1.heap.objs.size, s1.heap.objs.size + 1], _, _, H1, rfl, I2,
    turnTL (PySem.W.ktu_apart s1.heap.objs.size p q lp py.lt), ⟨hz, hTI, ⟨_, _, hTO⟩, ⟨_, h1, rfl, rfl⟩, ⟨_, h2, rfl, rfl⟩⟩, fun c hcm => ?_, g⟩
  have le : s1.heap.objs.size ≤ c := five (P := fun c => s1.heap.objs.size ≤ c) hcm (Nat.le_add_right _ _) (Nat.le_add_right _ _) (Nat.le_add_right _ _) (Nat.le_refl _) (Nat.le_add_right _ _)
  exact I1.fpOk le (I1.hok.fresh le)
/-- a comprehension over it -/
theorem walkTL {K : PySem.W.Frag} {p q : Addr} {us vs : List V} (e : us.length = vs.length) : Walk (ItTL K p q) us.length (fun H => SqT K H p us ∧ SqL K H q vs) (YPair (fun n => us[n]?) (fun n => vs[n]?)) := by
  refine ⟨fun n _ hn g => ?_, fun _ g => ⟨us, vs, g.1, g.2, Nat.le_refl _, by omega, .inl rfl⟩, fun n H v H' _ g y => ?_⟩
  · have h2 : n < vs.length := by omega
    exact ⟨us, vs, us[n], vs[n], g.1, g.2, List.getElem?_eq_getElem hn, List.getElem?_eq_getElem h2⟩
  · obtain ⟨T, x, z, h1, h2, h3, h4, h5⟩ := y
    exact ⟨T, x, z, h1, h2, h3, h4 us g.1, h5 vs g.2⟩
end Xk
section
open PySem PySem.Spec PyProof.Rows L2
namespace Xk
variable {K : PySem.W.Frag} {σ : L2.St} {H : Hp} {Q : VK} {te : TE} {g : TG} {t : TT} {X : Cx}
theorem k_TL {e e2 : Expr} {ta : TA} {p1 pos tpos : Pos} {es : List Expr} {k : Nat} (hk : X.K = K) (hg : Gl X "zip") (hm : X.mg "zip" = none) (ha : PA X [e, e2] ta)
    (hs : starEach [e, e2] X.env = (false, eval e X.env) :: starEach [e2] X.env := by rfl) (hpl : (backTo pos (starEach [e2] X.env)).any (·.1) = false := by rfl) :
    PI X (.Tuple es k tpos) (.Call (.Name "zip" p1) [e, e2] [] pos) (iTL K ta) := hk ▸ pi_TL hg hm ha hs hpl
def rLcZ (K : PySem.W.Frag) (g : TG) (tt : TT) (te : TE) (vs : List Nat) (σ : L2.St) (Q : VK) : List V → Hp → Prop := fun zs H1 => ∃ p q us ws, zs = [.ref p, .ref q] ∧ SqT K H1 p us ∧ SqL K H1 q ws ∧ RLc (ItTL K p q) g tt te vs σ Q H1
theorem x_lcZ1 {tr : TA} {vs : List Nat} (q : tr σ H (rLcZ K g t te vs σ Q)) : tLc (iTL K tr) g t te vs σ H Q := q
theorem x_lcZ {a b : Addr} {us ws : List V} {vs : List Nat} (Pv : Addr → Nat → Hp → Prop) (e : us.length = ws.length) (hx : SqT K H a us) (hy : SqL K H b ws) (h0 : ∀ Dl, Fr Dl H → Pv Dl 0 (upd H Dl (.lst [])))
    (hl : ∀ Dl i H', Fr Dl H → Pv Dl i H' → SqT K H' a us ∧ SqL K H' b ws)
    (hs : ∀ Dl, Fr Dl H → ∀ i x y H1 T H', us[i]? = some x → ws[i]? = some y → Pv Dl i H1 → Fr T H1 → Same H1 H' → H' T = some (.tup [x, y]) → g (.ref T) (wipe σ vs) H' fun σ2 H2 => wipe σ2 vs = wipe σ vs ∧ t σ2 H2 fun c H3 =>
      if c = true then te σ2 H3 fun y H4 => ∃ acc, H4 Dl = some (.lst acc) ∧ acc.length < sizeLine ∧ Pv Dl (i + 1) (upd H4 Dl (.lst (acc ++ [y]))) else Pv Dl (i + 1) H3)
    (hd : ∀ Dl H', Fr Dl H → Pv Dl us.length H' → Q (.ref Dl) H') : rLcZ K g t te vs σ Q [.ref a, .ref b] H := ⟨a, b, us, ws, rfl, hx, hy, fun Dl hD =>
  lc_it (walkTL e) (Pv Dl) (h0 Dl ⟨hD⟩) (fun i H' _ p => hl Dl i H' ⟨hD⟩ p) (fun i x H1 H' hi p y => by
    obtain ⟨T, u, v, rfl, hT, rfl, e1, e2⟩ := y
    exact hs Dl ⟨hD⟩ i u v H1 T _ e1 e2 p ⟨hT⟩ (same_new hT) upd_same) (fun H' p => hd Dl H' ⟨hD⟩ p)⟩
/-- texts in order -/
def nLtS : R2 := fun x y H Q => ∃ i j, x = .str i ∧ y = .str j ∧ Q (.bl (decide (i.cps.toList < j.cps.toList))) H
def nLeS : R2 := fun x y H Q => ∃ i j, x = .str i ∧ y = .str j ∧ Q (.bl (!decide (j.cps.toList < i.cps.toList))) H
theorem op_nLtS : OpR X (compareOp .Lt) nLtS := op_lt_str
theorem op_nLeS : OpR X (compareOp .LtE) nLeS := op_le_str
def rPar (i j : Nat) (σ : L2.St) (R : L2.St → Hp → Prop) : List V → Hp → Prop := fun vs H1 => ∃ v w, vs = [v, w] ∧ R ((σ.set i (some v)).set j (some w)) H1
theorem x_spar {i j : Nat} {ta : TA} {tz : TS} {D : Ends} (q : ta σ H (rPar i j σ (tz D))) : tSeq (tPar i j ta) tz D σ H := q
theorem x_par {i j : Nat} {ta : TA} {D : Ends} (q : ta σ H (rPar i j σ D.nx)) : tPar i j ta D σ H := q
theorem x_rPar {i j : Nat} {R : L2.St → Hp → Prop} {v u : V} (q : R ((σ.set i (some v)).set j (some u)) H) : rPar i j σ R [v, u] H := ⟨v, u, rfl, q⟩
def nGeS : R2 := fun x y H Q => ∃ i j, x = .str i ∧ y = .str j ∧ Q (.bl (!decide (i.cps.toList < j.cps.toList))) H
theorem op_nGeS : OpR X (compareOp .GtE) nGeS := op_ge_str
theorem x_nGeS {i j : Str} (q : Q (.bl (!decide (i.cps.toList < j.cps.toList))) H) : nGeS (.str i) (.str j) H Q := ⟨i, j, rfl, rfl, q⟩
theorem x_nLtS {i j : Str} (q : Q (.bl (decide (i.cps.toList < j.cps.toList))) H) : nLtS (.str i) (.str j) H Q := ⟨i, j, rfl, rfl, q⟩
theorem x_nLeS {i j : Str} (q : Q (.bl (!decide (j.cps.toList < i.cps.toList))) H) : nLeS (.str i) (.str j) H Q := ⟨i, j, rfl, rfl, q⟩
theorem x_ext {l b : Addr} {xs zs : List V} (h : H l = some (.lst xs)) (h' : H b = some (.lst zs)) (hz : xs.length + zs.length ≤ 100000) (q : Q .non (upd H l (.lst (xs ++ zs)))) : rExtend (.ref l) [.ref b] H Q := ⟨l, b, xs, zs, rfl, rfl, h, h', size_ok hz, q⟩
theorem x_sortS {a : Addr} {xs : List Str} (h : SqL K H a (xs.map V.str)) (hl : xs.length < 64) (k : ∀ p H2 (ys : List Str), ys.Perm xs → sortedS ys = true → Fr p H → Same H H2 → H2 p = some (.lst (ys.map V.str)) → Q (.ref p) H2) : rSortedS K [.ref a] H Q :=
  ⟨a, xs, rfl, h, hl, fun ys p h1 h2 hp => k p _ ys h1 h2 ⟨hp⟩ (same_new hp) upd_same⟩
end Xk
end
namespace Xk
open PySem PySem.Spec PyProof.Rows L2
theorem k_fld {X : Cx} {K : PySem.W.Frag} {e : Expr} {f : Str} {pos : Pos} {ta : TE} (hk : X.K = K) (he : PE X e ta) (hb : attributeBase e f X.env (eval e X.env) = eval e X.env) : PE X (.Attribute e f pos) (tFld K ta f) := hk ▸ pe_fld he hb
end Xk
namespace Xk
open PySem PySem.Spec PyProof.Rows L2
def rSubSl (x v : V) (l u : Option Int) (σ : L2.St) (R : L2.St → Hp → Prop) : Hp → Prop := fun H3 => ∃ (a b : Addr) (xs ys : List V) (i j : Int), x = .ref a ∧ v = .ref b ∧ l = some i ∧ u = some j ∧
  H3 a = some (.lst xs) ∧ H3 b = some (.lst ys) ∧ a ≠ b ∧ 0 ≤ i ∧ i ≤ j ∧ j ≤ xs.length ∧ xs.length + ys.length ≤ sizeLine ∧ R σ (upd H3 a (.lst (xs.take i.toNat ++ ys ++ xs.drop j.toNat)))
theorem x_gSubSl {to : TE} {tl th : TO} {v : V} {σ : L2.St} {H : Hp} {R : L2.St → Hp → Prop} (q : to σ H fun x H1 => tl σ H1 fun l H2 => th σ H2 fun u H3 => rSubSl x v l u σ R H3) : gSubSl to tl th v σ H R := q
theorem x_rSubSl {a b : Addr} {xs ys : List V} {i j : Int} {n m : Nat} {σ : L2.St} {H : Hp} {R : L2.St → Hp → Prop} (h : H a = some (.lst xs)) (h' : H b = some (.lst ys)) (ne : a ≠ b) (hi : i = (n : Int)) (hj : j = (m : Int)) (nm : n ≤ m) (hm : m ≤ xs.length) (hz : xs.length + ys.length ≤ 100000)
    (q : R σ (upd H a (.lst (xs.take n ++ ys ++ xs.drop m)))) : rSubSl (.ref a) (.ref b) (some i) (some j) σ R H := by
  refine ⟨a, b, xs, ys, i, j, rfl, rfl, rfl, rfl, h, h', ne, by omega, by omega, by omega, size_ok hz, ?_⟩
  rw [hi, hj, Int.toNat_natCast, Int.toNat_natCast]
  exact q
end Xk
/-! enumerate of a tuple -/
namespace Xk
open PySem PySem.Spec PyProof.Rows L2
theorem wp_ite {M : Model} {A : Around} {E : Value → Shared → Prop} {s : Shared} {α : Type} {c : Prop} [Decidable c] {a b : Sem α} {Q : α → Shared → Prop} (h1 : wpAny M A a Q E s) (h2 : wpAny M A b Q E s) : wpAny M A (if c then a else b) Q E s := by
  by_cases h : c
  · exact wpAny_ite_true (decide_eq_true h) h1
  · exact wpAny_ite_false (decide_eq_false h) h2
theorem enumT0 {prog : Program} {w : World} {A : Around} {E : Value → Shared → Prop} {R : Fin → Shared → Prop} {s : Shared} {v : Value} {o : Obj} {H : Heap → Prop} (b : Begins v o H) (h1 : H s.heap)
  (h2 : R (Fin.done (Flow.ret (Value.ref (s.heap.push o).objs.size)))
        { heap := (s.heap.push o).push { cls := Value.type "enumerate", data := Data.fields #[Value.none, Value.bool false, Value.ref s.heap.objs.size, rawInt 0, Value.none, Value.none] },
          gens := s.gens, drawn := s.drawn, toks := s.toks, os := s.os }) :
  wpAny (model prog w) A (do
      let it ← pyIter v
      let r ← Builtin.SmallTypes.newRecord (Value.type "enumerate") (Builtin.SmallTypes.ownedTupleFields ++ [it, rawInt 0, Value.none, Value.none])
      ret r) R E s := by
  refine wpAny_bind (b.iter prog w A _ s _ h1 ?_)
  refine wpAny_bind ?_
  refine wpAny_bind (wpAny_alloc' ?_)
  refine wpAny_pure ?_
  exact wpAny_pure h2
theorem enumT1 {v : Value} {o : Obj} {H : Heap → Prop} (b : Begins v o H) : Meets (Builtin.«enumerate.__new__» { pos := [.type "enumerate", v] }) fun A R s => H s.heap ∧
   R (Except.ok (Flow.ret (Value.ref (s.heap.push o).objs.size)))
        { heap := (s.heap.push o).push { cls := Value.type "enumerate", data := Data.fields #[Value.none, Value.bool false, Value.ref s.heap.objs.size, rawInt 0, Value.none, Value.none] },
          gens := s.gens, drawn := s.drawn, toks := s.toks, os := s.os } := by
  intro prog w A R s hs
  obtain ⟨h1, h2⟩ := hs
  refine wpAny_bind ?_
  refine wpAny_bind ?_
  refine wpAny_of_eq (a := true) rfl ?_
  refine wpAny_ite_false rfl ?_
  refine wpAny_bind ?_
  refine wpAny_of_eq sub_enumerate ?_
  refine wpAny_ite_false rfl ?_
  refine wpAny_pure ?_
  refine wpAny_ite_true (by decide) ?_
  refine wpAny_bind ?_
  refine wpAny_bind (wpAny_stack_any fun st => wpAny_pure ?_)
  refine wp_ite ?_ ?_
  · refine wpAny_bind ?_
    refine wpAny_of_eq (a := (v, none)) rfl ?_
    exact enumT0 b h1 h2
  · refine wpAny_bind ?_
    refine wpAny_of_eq (a := (v, none)) rfl ?_
    exact enumT0 b h1 h2
theorem enum_one {prog : Program} {w : World} {A : Around} {E : Value → Shared → Prop} {s : Shared} {v : Value} {o : Obj} {H : Heap → Prop} {Q : Value → Shared → Prop} (b : Begins v o H) (h1 : H s.heap)
  (q : ∀ h' : Heap, IsEnum h' (s.heap.objs.size + 1) s.heap.objs.size 0 Value.none → h'.get? s.heap.objs.size = some o → h'.objs.size = s.heap.objs.size + 2 → (∀ (b : Addr) (o : Obj), s.heap.get? b = some o → h'.get? b = some o) →
     Q (Value.ref (s.heap.objs.size + 1)) { heap := h', gens := s.gens, drawn := s.drawn, toks := s.toks, os := s.os }) :
  wpAny (model prog w) A (call (Value.type "enumerate") [v]) Q E s := by
  refine callType_new F.called_enumerate (by decide) (F.typeCall_enumerate_1 v) (F.newCall_enumerate_1 v) (fun obj => F.args_object_init_2 obj v) F.entry_enumerate_new (enumT1 b) ⟨h1, ?_⟩
  have e1 : (s.heap.push o).objs.size = s.heap.objs.size + 1 := by rw [Heap.size_push]
  have g : ((s.heap.push o).push { cls := Value.type "enumerate", data := Data.fields #[Value.none, Value.bool false, Value.ref s.heap.objs.size, rawInt 0, Value.none, Value.none] }).get? (s.heap.push o).objs.size = some { cls := Value.type "enumerate", data := Data.fields #[Value.none, Value.bool false, Value.ref s.heap.objs.size, rawInt 0, Value.none, Value.none] } := Heap.get?_push_size _ rfl
  refine ⟨?_, ?_⟩
  · rw [e1] at g ⊢
    exact ⟨_, g, rfl⟩
  · rw [e1] at g ⊢
    refine q _ g ?_ (by rw [Heap.size_push, Heap.size_push]) fun b' o' e => Heap.get?_push_of_some _ (Heap.get?_push_of_some _ e)
    exact Heap.get?_push_of_some _ (Heap.get?_push_size _ b.free)
/-- a tuple at a, each item with its number -/
def ItET (K : PySem.W.Frag) (a : Addr) : It where
  go := fun i H => ∃ (xs : List V) (x : V), SqT K H a xs ∧ xs[i]? = some x
  yld := fun i H v H' => ∃ T x, v = .ref T ∧ H T = none ∧ H' = upd H T (.tup [.int (i : Nat), x]) ∧ ∀ xs : List V, SqT K H a xs → xs[i]? = some x
  stop := fun i H => ∃ xs : List V, SqT K H a xs ∧ i = xs.length
theorem turnET {P : Program} {w : World} {K : PySem.W.Frag} {es : List Expr} {k : Nat} {pos : Pos} {a e it : Addr} (d1 : e ≠ it) (d2 : a ≠ it) (d3 : e ≠ a) :
    Turn P w K (.Tuple es k pos) (ItET K a) [e, it] e (fun i h => (∃ old, IsEnum h e it (i : Nat) old) ∧ h.IsTupleIter it a i) where
  mem := List.mem_cons_self
  obj := fun n h st c hc => by
    obtain ⟨⟨old, g1⟩, ⟨o1, e1, _, dd1⟩⟩ := st
    simp only [List.mem_cons, List.not_mem_nil, or_false] at hc
    rcases hc with rfl | rfl
    · exact ⟨_, g1, fun _ e => nomatch e⟩
    · refine ⟨o1, e1, fun x e => ?_⟩
      rw [dd1] at e
      cases e
  keep := fun n h h' st g => by
    obtain ⟨⟨old, g1⟩, g2⟩ := st
    exact ⟨⟨old, g e (by simp) _ g1⟩, g2.at fun ob e => g it (by simp) ob e⟩
  item := by
    intro X hP hw hK hc n pins s σ H E I hf st hg
    subst hP hw hK
    obtain ⟨⟨old, g1⟩, g2⟩ := st
    obtain ⟨us, u, hus, hu⟩ := hg
    obtain ⟨its, r1, p1, _⟩ := I.tuple hus
    obtain ⟨x, hx, rx⟩ := r1.get hu
    have lt1 : n < its.toArray.size := by
      obtain ⟨b, _⟩ := List.getElem?_eq_some_iff.mp hx
      simpa using b
    have hzl : e < s.heap.objs.size := Heap.lt_size g1
    have hil : it < s.heap.objs.size := by
      obtain ⟨_, e1, _⟩ := id g2
      exact Heap.lt_size e1
    have hh : X.A.in1.handled = none := I.ok.hd hc
    refine wpAny_pyNext_enum_itemD (Draws.tuple hh it a d2 its.toArray) g1 ⟨g2, p1⟩ lt1 d1 (by simp [d1, d3]) fun x1 h' tk q1 eo st1 hT hsz hk => ?_
    have ex : x1 = x := by
      have e2 : its[n]? = some x1 := by simpa using q1
      exact Option.some.inj (e2.symm.trans hx)
    subst ex
    refine ⟨_, rfl, wpAny_letOwnedTupleGo_enum (s := { s with heap := h', toks := tk + 1 }) eo fun h2 z2 sb => ?_⟩
    have hT2 : h2.get? s.heap.objs.size = some { cls := .type "tuple", data := .seq #[Value.int (n : Nat) tk, x1] } := (sb.2 _ (Nat.ne_of_gt hzl)).trans hT
    have new : ObjOk X.prog X.w (upd H s.heap.objs.size (.tup [.int (n : Nat), u])) h2 s.heap.objs.size (.tup [.int (n : Nat), u]) :=
      ⟨by show 2 ≤ sizeLine; decide, [Value.int (n : Nat) tk, x1], .cons (by first | exact ⟨tk, rfl⟩ | exact rfl | constructor) (.cons rx .nil), ⟨_, hT2, rfl, _, rfl⟩⟩
    have kept : ∀ c ob, c ∉ [e, it] → s.heap.get? c = some ob → h2.get? c = some ob := fun c ob nc e => by
      simp only [List.mem_cons, List.not_mem_nil, or_false, not_or] at nc
      exact (sb.2 c nc.1).trans (hk c ob nc.1 nc.2 e)
    have I1 : Inv X pins σ (upd H s.heap.objs.size (.tup [.int (n : Nat), u])) { s with heap := h2, toks := tk + 1 } :=
      I.turnedNew (t' := tk + 1) (ch := [e, it]) kept hf (Nat.le_refl _) new
    refine ⟨.ref s.heap.objs.size, _, I1, rfl, ⟨_, u, rfl, I.hok.fresh (Nat.le_refl _), rfl, fun l hl => ?_⟩, ⟨⟨_, z2⟩, ?_⟩, fun c hcm => ?_⟩
    · rw [I.tuple_inj hl hus]
      exact hu
    · exact st1.1.at fun ob e => (sb.2 _ d1.symm).trans e
    · have lt : c < s.heap.objs.size := by
        simp only [List.mem_cons, List.not_mem_nil, or_false] at hcm
        rcases hcm with rfl | rfl
        · exact hzl
        · exact hil
      rw [upd_ne (Nat.ne_of_lt lt)]
      exact (hf c hcm).1
  done := by
    intro X hP hw hK hc n pins s σ H E I hf st hg
    subst hP hw hK
    obtain ⟨⟨old, g1⟩, g2⟩ := st
    obtain ⟨us, hus, rfl⟩ := hg
    obtain ⟨its, r1, p1, _⟩ := I.tuple hus
    have l1 : its.toArray.size = us.length := by rw [List.size_toArray, r1.length]
    have hh : X.A.in1.handled = none := I.ok.hd hc
    refine wpAny_pyNext_enum_endD (Draws.tuple hh it a d2 its.toArray) g1 (by rw [l1]; exact ⟨g2, p1⟩) fun h' hk => ?_
    exact ⟨rfl, I.turnedL (t' := s.toks) (ch := [e, it]) (fun c ob nc e => by
      simp only [List.mem_cons, List.not_mem_nil, or_false, not_or] at nc
      exact hk c ob nc.2 e) hf⟩
  self := fun A n s Q E st h => wpAny_pyIter_enum st.1.choose_spec h
/-- enumerate(e), e a tuple -/
def iET (K : PySem.W.Frag) (ta : TA) : TI := fun σ H R => ta σ H fun vs H1 => ∃ p us, vs = [.ref p] ∧ SqT K H1 p us ∧ R (ItET K p) H1
theorem pi_ET {X : Cx} {e : Expr} {ta : TA} {p1 pos tpos : Pos} {es : List Expr} {k : Nat} (hg : Gl X "enumerate") (hm : X.mg "enumerate" = none) (ha : PA X [e] ta)
    (hs : starEach [e] X.env = [(false, eval e X.env)] := by rfl) (hpl : (backTo pos (starEach [] X.env)).any (·.1) = false := by rfl) :
    PI X (.Tuple es k tpos) (.Call (.Name "enumerate" p1) [e] [] pos) (iET X.K ta) := by
  refine ⟨fun pins s σ H R I h => Call_ (ld_blt I hg hm PyProof.Rows.boot_enumerate (PyProof.Rows.callWith_type1 (thn (ha.run pos pins s σ H _ I h) fun us s1 ⟨vs, H1, I1, r1, q1⟩ => ?_) hs hpl))⟩
  obtain ⟨p, xs, rfl, hx, g⟩ := q1
  have e3 : us = [.ref p] := by
    cases r1 with
    | cons a b =>
      cases b
      cases a
      rfl
  subst e3
  obtain ⟨its, rx, px, _⟩ := I1.tuple hx
  have lp : p < s1.heap.objs.size := by
    obtain ⟨_, e1, _⟩ := id px
    exact Heap.lt_size e1
  refine enum_one (begins_tuple p its.toArray) px fun h' hz h1 hsz hk => wpAny_pyIter_enum hz ?_
  have I2 : Inv X pins σ H1 { s1 with heap := h' } := I1.kept (t' := s1.toks) hk
  refine ⟨s1.heap.objs.size + 1, [s1.heap.objs.size + 1, s1.heap.objs.size], _, _, H1, rfl, I2,
    turnET (Nat.succ_ne_self _) (Nat.ne_of_lt lp) (Nat.ne_of_gt (Nat.lt_succ_of_lt lp)), ⟨⟨_, hz⟩, ⟨_, h1, rfl, rfl⟩⟩, fun c hcm => ?_, g⟩
  have le : s1.heap.objs.size ≤ c := by
    simp only [List.mem_cons, List.not_mem_nil, or_false] at hcm
    rcases hcm with rfl | rfl
    · exact Nat.le_add_right _ _
    · exact Nat.le_refl _
  exact I1.fpOk le (I1.hok.fresh le)
/-- a comprehension over it -/
theorem walkET {K : PySem.W.Frag} {p : Addr} {us : List V} : Walk (ItET K p) us.length (fun H => SqT K H p us) (YPair (fun n => some (.int (n : Nat))) (fun n => us[n]?)) := by
  refine ⟨fun n _ hn g => ?_, fun _ g => ⟨us, g, rfl⟩, fun n H v H' _ g y => ?_⟩
  · exact ⟨us, us[n], g, List.getElem?_eq_getElem hn⟩
  · obtain ⟨T, x, h1, h2, h3, h4⟩ := y
    exact ⟨T, _, x, h1, h2, h3, rfl, h4 us g⟩
end Xk
section
open PySem PySem.Spec PyProof.Rows L2
namespace Xk
variable {K : PySem.W.Frag} {σ : L2.St} {H : Hp} {Q : VK} {te : TE} {g : TG} {t : TT} {X : Cx}
theorem k_ET {e : Expr} {ta : TA} {p1 pos tpos : Pos} {es : List Expr} {k : Nat} (hk : X.K = K) (hg : Gl X "enumerate") (hm : X.mg "enumerate" = none) (ha : PA X [e] ta)
    (hs : starEach [e] X.env = [(false, eval e X.env)] := by rfl) (hpl : (backTo pos (starEach [] X.env)).any (·.1) = false := by rfl) :
    PI X (.Tuple es k tpos) (.Call (.Name "enumerate" p1) [e] [] pos) (iET K ta) := hk ▸ pi_ET hg hm ha hs hpl
def rLcET (K : PySem.W.Frag) (g : TG) (tt : TT) (te : TE) (vs : List Nat) (σ : L2.St) (Q : VK) : List V → Hp → Prop := fun zs H1 => ∃ p us, zs = [.ref p] ∧ SqT K H1 p us ∧ RLc (ItET K p) g tt te vs σ Q H1
theorem x_lcET1 {tr : TA} {vs : List Nat} (q : tr σ H (rLcET K g t te vs σ Q)) : tLc (iET K tr) g t te vs σ H Q := q
theorem x_lcET {a : Addr} {us : List V} {vs : List Nat} (Pv : Addr → Nat → Hp → Prop) (hx : SqT K H a us) (h0 : ∀ Dl, Fr Dl H → Pv Dl 0 (upd H Dl (.lst [])))
    (hl : ∀ Dl i H', Fr Dl H → Pv Dl i H' → SqT K H' a us)
    (hs : ∀ Dl, Fr Dl H → ∀ i x H1 T H', us[i]? = some x → Pv Dl i H1 → Fr T H1 → Same H1 H' → H' T = some (.tup [.int (i : Nat), x]) → g (.ref T) (wipe σ vs) H' fun σ2 H2 => wipe σ2 vs = wipe σ vs ∧ t σ2 H2 fun c H3 =>
      if c = true then te σ2 H3 fun y H4 => ∃ acc, H4 Dl = some (.lst acc) ∧ acc.length < sizeLine ∧ Pv Dl (i + 1) (upd H4 Dl (.lst (acc ++ [y]))) else Pv Dl (i + 1) H3)
    (hd : ∀ Dl H', Fr Dl H → Pv Dl us.length H' → Q (.ref Dl) H') : rLcET K g t te vs σ Q [.ref a] H := ⟨a, us, rfl, hx, fun Dl hD =>
  lc_it walkET (Pv Dl) (h0 Dl ⟨hD⟩) (fun i H' _ p => hl Dl i H' ⟨hD⟩ p) (fun i x H1 H' hi p y => by
    obtain ⟨T, u, v, rfl, hT, rfl, e1, e2⟩ := y
    cases Option.some.inj e1
    exact hs Dl ⟨hD⟩ i v H1 T _ e2 p ⟨hT⟩ (same_new hT) upd_same) (fun H' p => hd Dl H' ⟨hD⟩ p)⟩
end Xk
end
/-! dict comprehensions over a tuple -/
section
open PySem PySem.Spec PyProof.Rows L2
namespace Xk
variable {K : PySem.W.Frag} {σ : L2.St} {H : Hp} {Q : VK} {tk tv : TE} {g : TG} {t : TT}
def RDc (J : It) (g : TG) (tt : TT) (tk tv : TE) (vs : List Nat) (σ : L2.St) (Q : VK) : Hp → Prop := fun H1 => ∀ D, H1 D = none → ∃ W : Nat → Nat → Hp → Prop, (∃ m, W 0 m (upd H1 D (.dK []))) ∧ ∀ i m H, W i m H →
  (J.stop i H ∧ Q (.ref D) H) ∨ (J.go i H ∧ ∃ Nx : Hp → Prop, (∀ H', Nx H' → ∃ m', m' < m ∧ W (i + 1) m' H') ∧ ∀ x H', J.yld i H x H' → g x (wipe σ vs) H' fun σ2 H2 => wipe σ2 vs = wipe σ vs ∧ tt σ2 H2 fun b H3 =>
    if b = true then tk σ2 H3 fun y H4 => tv σ2 H4 fun z H5 => ∃ kvs k, y = kV k ∧ H5 D = some (.dK kvs) ∧ kvs.length < sizeLine ∧ Nx (upd H5 D (.dK (putK kvs k z))) else Nx H3)
def rDcT (K : PySem.W.Frag) (g : TG) (tt : TT) (tk tv : TE) (vs : List Nat) (σ : L2.St) (Q : VK) : VK := fun x H1 => ∃ a, x = .ref a ∧ (∃ xs, SqT K H1 a xs) ∧ RDc (Itt K a) g tt tk tv vs σ Q H1
theorem x_dcT1 {tx : TE} {vs : List Nat} (q : tx σ H (rDcT K g t tk tv vs σ Q)) : tDc (iTup K tx) g t tk tv vs σ H Q := q
theorem x_dcT {a : Addr} {xs : List V} {vs : List Nat} (Pv : Addr → Nat → Hp → Prop) (hx : SqT K H a xs) (h0 : ∀ Dl, Fr Dl H → Pv Dl 0 (upd H Dl (.dK []))) (hl : ∀ Dl i H', Fr Dl H → Pv Dl i H' → SqT K H' a xs)
    (hs : ∀ Dl, Fr Dl H → ∀ i x H', xs[i]? = some x → Pv Dl i H' → g x (wipe σ vs) H' fun σ2 H2 => wipe σ2 vs = wipe σ vs ∧ t σ2 H2 fun b H3 =>
      if b = true then tk σ2 H3 fun y H4 => tv σ2 H4 fun z H5 => ∃ kvs k, y = kV k ∧ H5 Dl = some (.dK kvs) ∧ kvs.length < sizeLine ∧ Pv Dl (i + 1) (upd H5 Dl (.dK (putK kvs k z))) else Pv Dl (i + 1) H3)
    (hd : ∀ Dl H', Fr Dl H → Pv Dl xs.length H' → Q (.ref Dl) H') : rDcT K g t tk tv vs σ Q (.ref a) H := ⟨a, rfl, ⟨xs, hx⟩, fun Dl hD =>
  dc_tup (xs := xs) (Pv Dl) (h0 Dl ⟨hD⟩) (fun i H' _ p => hl Dl i H' ⟨hD⟩ p) (fun i x H' hi p => hs Dl ⟨hD⟩ i x H' hi p) (fun H' p => hd Dl H' ⟨hD⟩ p)⟩
end Xk
end
/-! sets of texts -/
namespace Xs
open PySem PySem.Spec PyProof.Rows L2
abbrev SK (P : Program) (w : World) := PySem.strKind P w
def txt (e : Int × Value) : Str := match e.2 with
  | .str z _ => z
  | _ => Str.empty
def Fine (P : Program) (w : World) (e : Int × Value) : Prop := ∃ z u, e.2 = Value.str z u ∧ e.1 = (SK P w).hash z
/-- the texts zs, in any order, are the set at a -/
def Txts (P : Program) (w : World) (h : Heap) (a : Addr) (zs : List Str) : Prop := ∃ ob rows ep tab, h.get? a = some ob ∧ ob.ExactSet ∧ ob.data = .set rows ep tab ∧ (∀ e ∈ rows.toList, Fine P w e) ∧
  (rows.toList.map txt).Perm zs ∧ zs.Nodup ∧ rows.size < scanBound ∧ tab.fits rows.size = true ∧ Ris tab.place.toList ∧ (w.params.followText "set-order" = true ∨ tab.led = true)
section
variable {P : Program} {w : World} {A : Around} {E : Value → Shared → Prop} {s : Shared} {a : Addr} {zs : List Str}
theorem Txts.at {h h' : Heap} (R : Txts P w h a zs) (k : ∀ ob, h.get? a = some ob → h'.get? a = some ob) : Txts P w h' a zs := by
  obtain ⟨ob, rows, ep, tab, g, rest⟩ := R
  exact ⟨ob, rows, ep, tab, k ob g, rest⟩
theorem is_self (z : Str) (u : Tok) : (SK P w).is z (.str z u) = true := by
  show Value.isStrOf z (.str z u) = true
  simp [Value.isStrOf]
theorem fine_elems {l : List (Int × Value)} (f : ∀ e ∈ l, Fine P w e) : ElemsOf (SK P w) l := fun e he => by
  obtain ⟨z, u, e1, e2⟩ := f e he
  refine ⟨⟨z, ?_, e2⟩, ?_⟩
  · rw [e1]
    exact is_self z u
  · rw [e1]
    rfl
theorem fine_is {e : Int × Value} (f : Fine P w e) (z : Str) : (SK P w).is z e.2 = true ↔ txt e = z := by
  obtain ⟨y, u, e1, _⟩ := f
  unfold txt
  rw [e1]
  constructor
  · intro q
    exact (SK P w).inj (.str y u) y z (is_self y u) q
  · intro q
    subst q
    exact is_self _ u
theorem fine_mem {l : List (Int × Value)} (f : ∀ e ∈ l, Fine P w e) (z : Str) : z ∈ l.map txt ↔ ∃ e ∈ l, (SK P w).is z e.2 = true := by
  rw [List.mem_map]
  constructor
  · rintro ⟨e, he, q⟩
    exact ⟨e, he, (fine_is (f e he) z).mpr q⟩
  · rintro ⟨e, he, q⟩
    exact ⟨e, he, (fine_is (f e he) z).mp q⟩
/-- the rows are stored, and laid anew if they are many -/
theorem stored {g : Bool → Sem Unit} (hg : ∀ (b : Bool) (s₁ : Shared) (Z : Unit → Shared → Prop), Z () s₁ → wpAny (model P w) A (g b) Z E s₁)
    {ob : Obj} {rows : Array (Int × Value)} {ep : Nat} {tab : SetTable} (ho : s.heap.get? a = some ob) (hex : ob.ExactSet) (hd : ob.data = .set rows ep tab)
    {rows1 : Array (Int × Value)} {tab2 : SetTable} {ys : List Str} (f1 : ∀ e ∈ rows1.toList, Fine P w e) (p1 : (rows1.toList.map txt).Perm ys) (nd : ys.Nodup)
    (lt : rows1.size < scanBound) (ft : tab2.fits rows1.size = true) (ri : Ris tab2.place.toList) (le : w.params.followText "set-order" = true ∨ tab2.led = true) {dum : Bool} {R : Option Bool → Shared → Prop}
    (hR : ∀ h', Heap.SameBut a s.heap h' → Txts P w h' a ys → R (some true) { s with heap := h' }) :
    wpAny (model P w) A (do
        storeSet a rows1 tab2
        if (!dum && tab2.tooFull) = true then do
            g (relayAll tab2 rows1 (SetTable.grown rows1.size)).2.2
            storeSet a (relayAll tab2 rows1 (SetTable.grown rows1.size)).1 (relayAll tab2 rows1 (SetTable.grown rows1.size)).2.1
            pure (some true)
          else pure (some true)) R E s := by
  have o1 := store_at (es' := rows1) (t' := tab2) ho hd
  have b1 := Heap.SameBut.update s.heap a (Obj.putSet rows1 tab2)
  refine wpAny_bind (wpAny_storeSet_of ho hd ?_ (fits_of_scanBound lt))
  split
  · have q1 := relayAll_perm tab2 rows1 (SetTable.grown rows1.size)
    have q2 := relayAll_fits tab2 rows1 (SetTable.grown rows1.size)
    have q3 := relayAll_ris tab2 rows1 (SetTable.grown rows1.size)
    have q4 := relayAll_led tab2 rows1 (SetTable.grown rows1.size)
    generalize relayAll tab2 rows1 (SetTable.grown rows1.size) = Z at q1 q2 q3 q4 ⊢
    obtain ⟨rows2, tab3, gv⟩ := Z
    dsimp only at q1 q2 q3 q4 ⊢
    have zz : rows2.size = rows1.size := by
      rw [← Array.length_toList, q1.length_eq, Array.length_toList]
    have lt2 : rows2.size < scanBound := by
      rw [zz]
      exact lt
    refine wpAny_bind (hg gv _ _ (wpAny_bind (wpAny_storeSet_of o1 rfl ?_ (fits_of_scanBound lt2))))
    have o2 := store_at (es' := rows2) (t' := tab3) o1 rfl
    refine wpAny_pure (hR _ (b1.trans (Heap.SameBut.update _ a _)) ⟨_, rows2, _, tab3, o2, hex, rfl, fun e he => f1 e (q1.mem_iff.mp he), (q1.map txt).trans p1, nd, lt2, q2, q3, ?_⟩)
    rcases le with z | z
    · exact .inl z
    · exact .inr (by rw [q4]; exact z)
  · exact wpAny_pure (hR _ b1 ⟨_, rows1, _, tab2, o1, hex, rfl, f1, p1, nd, lt, ft, ri, le⟩)
/-- a text is put in -/
theorem put {z : Str} {u : Tok} {Q : Bool → Shared → Prop} (R : Txts P w s.heap a zs) (room : zs.length + 1 < scanBound) (q1 : z ∈ zs → Q false s)
    (q2 : z ∉ zs → ∀ h', Heap.SameBut a s.heap h' → Txts P w h' a (z :: zs) → Q true { s with heap := h' }) : wpAny (model P w) A (setAddHashed a (.str z u) ((SK P w).hash z)) Q E s := by
  obtain ⟨ob, rows, ep, tab, ho, hex, hd, ff, pz, nd, lt, ft, ri, le⟩ := R
  have el : ElemsOf (SK P w) rows.toList := fine_elems ff
  have hz : (SK P w).is z (.str z u) = true := is_self z u
  have hsz : rows.size = zs.length := by
    rw [← Array.length_toList, ← pz.length_eq, List.length_map]
  unfold setAddHashed setAddHashedIn
  refine wpAny_holding (wpAny_bind (wpAny_setState_of ho hd ft ?_))
  dsimp only
  rw [byScan_of (x := .str z u) rfl lt el]
  simp only [↓reduceIte]
  unfold setAddByScan
  refine wpAny_bind (wpAny_bind (wpAny_rule (wpAny_bind (wpAny_setScan_of (knd := SK P w) hz ho hd ft el ?_))))
  cases fi : List.findIdx? (fun e => (SK P w).is z e.2) rows.toList with
  | some j =>
    dsimp only
    obtain ⟨hj, pj, _⟩ := List.findIdx?_eq_some_iff_getElem.mp fi
    have hm : z ∈ zs := pz.mem_iff.mp ((fine_mem ff z).mpr ⟨rows.toList[j], List.getElem_mem hj, pj⟩)
    exact wpAny_pure (wpAny_pure (q1 hm))
  | none =>
    dsimp only
    have hn : z ∉ zs := fun y => by
      obtain ⟨e, he, q⟩ := (fine_mem ff z).mp (pz.mem_iff.mpr y)
      have c := List.findIdx?_eq_none_iff.mp fi e he
      rw [q] at c
      cases c
    have gw : ∀ (b : Bool) {s₁ : Shared} {Z : Unit → Shared → Prop}, Z () s₁ → wpAny (model P w) A (match b with | true => rule "set.scan.the-table-gave-way" | false => pure ()) Z E s₁ := fun b s₁ Z q => by
      cases b
      · exact wpAny_pure q
      · exact wpAny_rule q
    have n1 := layNew_perm tab rows ((SK P w).hash z) (.str z u)
    have n2 := layNew_fits tab rows ((SK P w).hash z) (.str z u)
    have n3 := layNew_ris tab rows ((SK P w).hash z) (.str z u) ri
    have n4 := layNew_led tab rows ((SK P w).hash z) (.str z u)
    generalize layNew tab rows ((SK P w).hash z) (.str z u) = Z at n1 n2 n3 n4 ⊢
    obtain ⟨rows1, tab1, dum, gv⟩ := Z
    dsimp only at n1 n2 n3 n4 ⊢
    rw [Array.toList_push] at n1
    have pc : rows1.toList.Perm (((SK P w).hash z, Value.str z u) :: rows.toList) := n1.trans (List.perm_append_singleton _ _)
    have f1 : ∀ e ∈ rows1.toList, Fine P w e := fun e he => by
      rcases List.mem_cons.mp (pc.mem_iff.mp he) with y | y
      · exact ⟨z, u, by rw [y], by rw [y]⟩
      · exact ff e y
    have p1 : (rows1.toList.map txt).Perm (z :: zs) := (pc.map txt).trans (pz.cons z)
    have lt1 : rows1.size < scanBound := by
      have e : rows1.size = zs.length + 1 := by
        rw [← Array.length_toList, pc.length_eq, List.length_cons, Array.length_toList, hsz]
      omega
    have le1 : w.params.followText "set-order" = true ∨ tab1.led = true := by
      rcases le with y | y
      · exact .inl y
      · exact .inr (by rw [n4]; exact y)
    have nd1 : (z :: zs).Nodup := List.nodup_cons.mpr ⟨hn, nd⟩
    refine wpAny_bind (gw gv ?_)
    split
    · refine wpAny_bind ?_
      rw [hashByValue_scannable 8 (x := Value.str z u) rfl]
      refine wpAny_pure (stored (fun b s₁ Z q => ?_) ho hex hd f1 p1 nd1 lt1 ?_ ?_ ?_ fun h' sb r => ?_)
      · cases b
        · exact wpAny_pure q
        · exact wpAny_rule q
      · first | exact SetTable.fits_plain_off n2 | exact n2
      · exact n3
      · exact le1
      · dsimp only
        exact wpAny_pure (q2 hn h' sb r)
    · refine wpAny_bind (wpAny_pure ?_)
      simp only [↓reduceIte]
      refine stored (fun b s₁ Z q => ?_) ho hex hd f1 p1 nd1 lt1 n2 n3 le1 fun h' sb r => ?_
      · cases b
        · exact wpAny_pure q
        · exact wpAny_rule q
      · dsimp only
        exact wpAny_pure (q2 hn h' sb r)
/-- what was put in after i items -/
structure Sofar (xs : List Str) (i : Nat) (zs : List Str) : Prop where
  few : zs.length ≤ i
  mem : ∀ z, z ∈ zs ↔ z ∈ xs.take i
theorem Sofar.old {xs zs : List Str} {i : Nat} {z : Str} (g : Sofar xs i zs) (h : xs[i]? = some z) (hm : z ∈ zs) : Sofar xs (i + 1) zs := ⟨Nat.le_succ_of_le g.few, fun y => by
  rw [g.mem, List.take_add_one, h, List.mem_append]
  refine ⟨.inl, fun q => ?_⟩
  rcases q with q | q
  · exact q
  · rw [List.mem_singleton.mp q]
    exact (g.mem z).mp hm⟩
theorem Sofar.new {xs zs : List Str} {i : Nat} {z : Str} (g : Sofar xs i zs) (h : xs[i]? = some z) : Sofar xs (i + 1) (z :: zs) := ⟨Nat.succ_le_succ g.few, fun y => by
  rw [List.mem_cons, g.mem, List.take_add_one, h, List.mem_append]
  refine ⟨fun q => ?_, fun q => ?_⟩
  · rcases q with q | q
    · exact .inr (List.mem_singleton.mpr q)
    · exact .inl q
  · rcases q with q | q
    · exact .inr q
    · exact .inl (List.mem_singleton.mp q)⟩
/-- the loop that puts one item in after the other -/
theorem puts {I : Addr} {fp wr : List Addr} {G : Array GenState → Array GenState → Prop} {n : Nat} {Pv : Nat → Value → Prop} {St : Nat → Shared → Prop} {R : Result → Shared → Prop}
    (W : WalksS P w A.in1 I fp wr G n Pv St) (S : Addr) (out : S ∉ fp) (xs : List Str) (hn : n = xs.length) (room : n + 1 < scanBound) (val : ∀ i v, Pv i v → ∃ z u, xs[i]? = some z ∧ v = .str z u) :
    ∀ (m i : Nat) (s : Shared), n - i = m → i ≤ n → St i s → (∃ zs, Txts P w s.heap S zs ∧ Sofar xs i zs) →
      (∀ s' zs, Moved (S :: wr) G s s' → Txts P w s'.heap S zs → Sofar xs n zs → R (.ok (.ret .none)) s') → codeAny (model P w) A (.builtin "set.update.loop" ⟨[.ref S, .ref I], []⟩) R s := by
  have outw : S ∉ wr := fun z => out (W.sub _ z)
  have more : ∀ b ∈ wr, b ∈ S :: wr := fun b z => List.mem_cons_of_mem _ z
  intro m
  induction m with
  | zero =>
    rintro i s hm hi st ⟨zs, hZ, g⟩ hR
    obtain rfl : i = n := by omega
    refine codeAny_builtin PyProof.Rows.F.entry_set_update_loop ?_
    rw [Around.under_plainId PyProof.Rows.F.plain_set_update_loop _]
    show wpAny _ A.in1 (pyNext (.ref I) >>= _) _ _ s
    exact wpAny_bind (W.done s _ _ st fun s' mv => (wpAny_pure (hR s' zs (mv.mono more) (hZ.at fun ob e => mv.heap S ob outw e) g)))
  | succ m ih =>
    rintro i s hm hi st ⟨zs, hZ, g⟩ hR
    have lt : i < n := by omega
    refine codeAny_builtin PyProof.Rows.F.entry_set_update_loop ?_
    rw [Around.under_plainId PyProof.Rows.F.plain_set_update_loop _]
    show wpAny _ A.in1 (pyNext (.ref I) >>= _) _ _ s
    refine wpAny_bind (W.item i s _ _ lt st fun v s' hP st' mv => ?_)
    obtain ⟨z, u, hz, rfl⟩ := val i v hP
    have hZ' : Txts P w s'.heap S zs := hZ.at fun ob e => mv.heap S ob outw e
    have fw := g.few
    show wpAny _ A.in1 (holding [Value.str z u] (setAdd S (.str z u)) >>= _) _ _ s'
    refine wpAny_bind (wpAny_holding ?_)
    unfold setAdd
    refine wpAny_holding (wpAny_bind ((SK P w).pyHash (k := z) (is_self z u) ?_))
    refine put (s := { s' with toks := s'.toks + 1 }) hZ' (by omega) (fun hm2 => ?_) fun hm2 h' sb hZ2 => ?_
    · exact wpAny_pure ⟨plainId_quiet PyProof.Rows.F.plain_set_update_loop _, ih (i + 1) _ (by omega) lt (W.frame _ s' _ _ st' (Nat.le_succ _) fun b _ o e => e) ⟨zs, hZ', g.old hz hm2⟩ fun s2 ys mv2 r1 r2 =>
        hR s2 ys (Moved.trans W.gtrans ((mv.mono more).then_heap (Nat.le_succ _) fun b o _ e => e) mv2) r1 r2⟩
    · refine wpAny_pure ⟨plainId_quiet PyProof.Rows.F.plain_set_update_loop _, ih (i + 1) _ (by omega) lt (W.frame _ s' _ _ st' (Nat.le_succ _) fun b hb o e => ?_) ⟨z :: zs, hZ2, g.new hz⟩ fun s2 ys mv2 r1 r2 => ?_⟩
      · exact (sb.2 b fun y => out (y ▸ hb)).trans e
      · exact hR s2 ys (Moved.trans W.gtrans ((mv.mono more).then_heap (Nat.le_succ _) fun b o nb e => (sb.2 b fun y => nb (by rw [y]; exact List.mem_cons_self)).trans e) mv2) r1 r2
/-- a new set -/
theorem fresh {h : Heap} (ho : h.get? a = some { cls := .type "set", dict := none, data := .set #[] 0 (.fresh 0 0 (!w.params.followText "set-order")) }) : Txts P w h a [] :=
  ⟨_, #[], 0, _, ho, ⟨rfl, rfl, rfl⟩, rfl, fun e z => (by simp at z), .refl _, .nil, by decide, by rfl, .nil, by
    show w.params.followText "set-order" = true ∨ (!w.params.followText "set-order") = true
    cases w.params.followText "set-order" <;> simp⟩
abbrev newSet (w : World) : Obj := { cls := .type "set", dict := none, data := .set #[] 0 (.fresh 0 0 (!w.params.followText "set-order")) }
/-- set(l), l a list of texts -/
theorem made {l : Addr} {items : Array Value} {xs : List Str} {Q : Value → Shared → Prop} (hh : A.handled = none) (hl : s.heap.IsList l items) (hi : StrsAre items.toList xs) (room : xs.length + 1 < scanBound)
    (q : ∀ (h' : Heap) (tk : Nat) ys, Txts P w h' s.heap.objs.size ys → Sofar xs xs.length ys → (∀ b o, s.heap.get? b = some o → h'.get? b = some o) → Q (.ref s.heap.objs.size) { s with heap := h', toks := tk }) :
    wpAny (model P w) A (call (.type "set") [.ref l]) Q E s := by
  have isz : items.size = xs.length := by rw [← StrsAre.len_eq hi, Array.length_toList]
  obtain ⟨c, tl, hmro⟩ := PySem.F.called_set.mro
  have g1 := PySem.F.called_set.made
  have g2 := PySem.F.called_set.sub
  have g3 := PySem.F.called_set.notType
  have g4 := PySem.F.called_set.canCreate
  have g5 := PySem.F.typeCall_set_1 (.ref l)
  refine wpAny_call (codeAny_of_tree ?_)
  show wpAny _ _ (callAny (.type "set") _) _ _ _
  refine wpAny_pure ⟨Code.quiet_builtin _ (by decide +kernel), codeAny_builtin PySem.F.entry_type_call ?_⟩
  rw [Around.under_plain (weight_type_call_type "set" [.ref l] []) rfl]
  repeat (any_goals (first | assumption | wp_step))
  refine codeAny_mono (code_set_led1 (.ref l) (E := E) (Q₁ := fun ob s₁ => ob = .ref s.heap.objs.size ∧ s₁ = { s with heap := s.heap.push (newSet w) }) ⟨rfl, rfl⟩) fun r s₁ hr => ?_
  cases r with
  | error e => exact hr
  | ok fl =>
    cases fl with
    | ret ob =>
      obtain ⟨rfl, rfl⟩ := hr
      have hS : (s.heap.push (newSet w)).get? s.heap.objs.size = some (newSet w) := Heap.get?_push_size _ rfl
      have hT : Shared.TypeIs { s with heap := s.heap.push (newSet w) } (.ref s.heap.objs.size) "set" := ⟨_, hS, rfl⟩
      have g6 := PySem.F.called_set.init.lookup
      have g7 := PySem.F.called_set.init.bind (.ref s.heap.objs.size)
      repeat (any_goals (first | assumption | wp_step))
      refine codeAny_mono (codeAny_call_builtin (R := wants (fun r s₂ => r = .none ∧ ∃ h' tk ys, s₂ = { s with heap := h', toks := tk } ∧ Txts P w h' s.heap.objs.size ys ∧ Sofar xs xs.length ys ∧ ∀ b o, s.heap.get? b = some o → h'.get? b = some o) E)
        PySem.F.called_set.init.plain PySem.F.entry_set_init (check_set_init_1 hT ?_)) fun r₂ s₂ hr₂ => ?_
      · obtain ⟨⟨ocls, odict, odata, oslots⟩, hol, hcl, nl, hdl⟩ := hl
        simp only at hcl hdl
        subst hcl hdl
        have hol2 : (s.heap.push (newSet w)).get? l = some { cls := .type "list", dict := odict, data := .seq items nl, slots := oslots } := Heap.get?_push_of_some _ hol
        have t1 := PySem.F.sub_list_set
        have t2 := PySem.F.sub_list_frozenset
        have t3 : (Value.type "list" == Value.type "dict") = false := by decide
        have hl1 : (s.heap.push (newSet w)).IsList l items := ⟨_, hol2, rfl, nl, rfl⟩
        unfold Builtin.«set.__init__» noKeywords Builtin.Frozenset.updateFrom
        generalize hPI : pyIter = PI
        wp_walk
        subst hPI
        refine wpAny_pyIter_list hl1 (wpAny_bind (wpAny_runValue ?_))
        have lS : l < s.heap.objs.size := Heap.lt_size hol
        have h3 : A.in1.in1.in1.handled = none := by simp [hh]
        have z1 : (s.heap.push (newSet w)).objs.size = s.heap.objs.size + 1 := Heap.size_push ..
        have nI : l ≠ (s.heap.push (newSet w)).objs.size := by
          rw [z1]
          exact Nat.ne_of_lt (Nat.lt_succ_of_lt lS)
        have nS : s.heap.objs.size ∉ [(s.heap.push (newSet w)).objs.size, l] := by
          rw [z1]
          simp only [List.mem_cons, List.not_mem_nil, or_false, not_or]
          exact ⟨Nat.ne_of_lt (Nat.lt_succ_self _), Nat.ne_of_gt lS⟩
        have vl : ∀ (i : Nat) (v : Value), items[i]? = some v → ∃ z u, xs[i]? = some z ∧ v = .str z u := fun i v hv => by
          obtain ⟨u, e⟩ := SS.strs_at hi i v (by rw [Array.getElem?_toList]; exact hv)
          have lt : i < xs.length := by
            obtain ⟨b, _⟩ := Array.getElem?_eq_some_iff.mp hv
            omega
          exact ⟨xs.getD i Str.empty, u, by rw [List.getD_eq_getElem?_getD, List.getElem?_eq_getElem lt]; rfl, e⟩
        refine puts ((Walks.list h3 _ l nI items).toS) s.heap.objs.size nS xs isz (by omega) vl (items.size - 0) 0 _ (by omega) (Nat.zero_le _) ⟨⟨_, Heap.get?_push_size _ rfl, rfl, rfl⟩, (hl1.push _)⟩ ?hS0 ?hR
        case hS0 => exact ⟨[], fresh (Heap.get?_push_of_some _ hS), Nat.le_refl _, fun z => Iff.rfl⟩
        case hR =>
          rintro ⟨h', g', d', tk', os'⟩ ys mv r1 r2
          obtain rfl : g' = s.gens := mv.gens
          obtain rfl : d' = s.drawn := mv.drawn
          obtain rfl : os' = s.os := mv.os
          show wpAny _ _ _ _ _ _
          refine wpAny_pure (wpAny_pure ⟨rfl, h', tk', ys, rfl, r1, isz ▸ r2, fun b o e => ?_⟩)
          have lb := Heap.lt_size e
          refine mv.heap b o ?_ (Heap.get?_push_of_some _ (Heap.get?_push_of_some _ e))
          simp only [List.mem_cons, List.not_mem_nil, or_false, not_or]
          exact ⟨Nat.ne_of_lt lb, by rw [z1]; exact Nat.ne_of_lt (Nat.lt_succ_of_lt lb)⟩
      · cases r₂ with
        | error e => exact hr₂
        | ok fl₂ =>
          cases fl₂ with
          | ret r =>
            obtain ⟨rfl, h', tk, ys, rfl, r1, r2, r3⟩ := hr₂
            repeat (any_goals (first | assumption | wp_step))
            exact q _ _ _ r1 r2 r3
          | _ => exact hr₂.elim
    | _ => exact hr.elim
theorem strs_map : ∀ (l : List (Int × Value)), (∀ e ∈ l, Fine P w e) → StrsAre (l.map (·.2)) (l.map txt)
  | [], _ => .nil
  | e :: l, f => by
    obtain ⟨z, u, e1, _⟩ := f e (List.mem_cons_self ..)
    have t := strs_map l fun x hx => f x (List.mem_cons_of_mem _ hx)
    have e2 : txt e = z := by
      unfold txt
      rw [e1]
    rw [List.map_cons, List.map_cons, e1, e2]
    exact .cons z u t
theorem strs_perm {us vs : List Value} (p : us.Perm vs) : ∀ {xs : List Str}, StrsAre vs xs → ∃ ys, StrsAre us ys ∧ ys.Perm xs := by
  induction p with
  | nil => exact fun h => ⟨_, h, .refl _⟩
  | cons x p ih =>
    intro xs h
    cases h with
    | cons n t hr =>
      obtain ⟨ys, h1, h2⟩ := ih hr
      exact ⟨_, .cons _ _ h1, h2.cons _⟩
  | swap x y l =>
    intro xs h
    cases h with
    | cons n t hr =>
      cases hr with
      | cons n2 t2 hr2 => exact ⟨_, .cons _ _ (.cons _ _ hr2), .swap _ _ _⟩
  | trans p1 p2 ih1 ih2 =>
    intro xs h
    obtain ⟨ys, h1, h2⟩ := ih2 h
    obtain ⟨zs, h3, h4⟩ := ih1 h1
    exact ⟨zs, h3, h4.trans h2⟩
/-- sorted(a), a a set of texts -/
theorem sortedOf {Q : Value → Shared → Prop} (R : Txts P w s.heap a zs) (hh : A.handled = none) (few : zs.length < 64)
    (q : ∀ s' p (out : Array Value) (c : Nat) (ys : List Str), (∀ b o, s.heap.get? b = some o → s'.heap.get? b = some o) → s'.gens = s.gens → s'.os = s.os → s.heap.objs.size ≤ p →
      s'.heap.get? p = some (seqObj "list" out c) → StrsAre out.toList ys → ys.Perm zs → sortedS ys = true → Q (.ref p) s') :
    wpAny (model P w) A (call (.builtin "sorted") [.ref a]) Q E s := by
  obtain ⟨ob, rows, ep, tab, ho, hex, hd, ff, pz, nd, lt, ft, ri, le⟩ := R
  have hsz : rows.toList.length = zs.length := by
    rw [← pz.length_eq, List.length_map]
  refine Calls.call_function_entry kind_sorted plain_sorted entry_sorted (args_sorted1 _) ?_
  unfold Builtin.«sorted»
  refine wpAny_bind (m := checkCount "sorted" 1 1 _) (wpAny_pure (wpAny_bind (collect_set (A := A.in1) hh ⟨ob, ho, hex.1, hd⟩ ft lt ri le fun s1 vs k1 z1 gn1 os1 pm => ?_)))
  have vl : vs.length < 64 := by
    rw [pm.length_eq, List.length_map, hsz]
    exact few
  obtain ⟨xs, hx, px⟩ := strs_perm pm (strs_map rows.toList ff)
  refine wpAny_bind (wpAny_newList ?_ (by rw [sizeLine_eq]; omega))
  have oL : (s1.heap.push (seqObj "list" vs.toArray 0)).get? s1.heap.objs.size = some (seqObj "list" vs.toArray 0) := Heap.get?_push_size _ rfl
  refine wpAny_bind (wpAny_holding (wpAny_call_entry slot_list_sort ⟨_, oL, rfl⟩ entry_list_sort
    (list_sort_treeK strKind_oneLt oL hx.keysOf (fun v₁ v₂ rest e => keyKind_strs (by rw [← e]; exact hx)) vl fun st hp hs => ?_) (args_list_sort _)))
  obtain ⟨ys, y1, y2, y3⟩ := sorted_out_str hx hp hs
  obtain ⟨c, hc⟩ := sortedHeap_at (vs := vs) (out := (arrOf st).map (·.2)) oL
  refine ⟨_, rfl, wpAny_pure ⟨_, rfl, q _ s1.heap.objs.size _ c ys (fun b u e => ?_) gn1 os1 z1 hc y1 (y2.trans (px.trans pz)) y3⟩⟩
  have e1 := k1 b u e
  have lb := Heap.lt_size e1
  show (sortedHeap (s1.heap.push (seqObj "list" vs.toArray 0)) s1.heap.objs.size vs ((arrOf st).map (·.2))).get? b = some u
  rw [sortedHeap_old (Nat.ne_of_lt lb) (by rw [size_push']; exact Nat.lt_succ_of_lt lb)]
  exact Heap.get?_push_of_some _ e1
end
/-! the same over the layer -/
def TxO (P : Program) (w : World) (a : Addr) (zs : List Str) : HO := .ext fun h => Txts P w h a zs
theorem txo_ok {P : Program} {w : World} {H : Hp} {h : Heap} {a : Addr} {zs : List Str} (R : Txts P w h a zs) : ObjOk P w H h a (TxO P w a zs) := by
  have ⟨ob, _, _, _, ho, _⟩ := R
  exact ⟨R, ⟨ob, ho⟩, fun h1 h2 p k => p.at k⟩
def rSetOfS (K : PySem.W.Frag) (P : Program) (w : World) : List V → Hp → VK → Prop := fun vs H Q => ∃ (l : Addr) (xs : List Str), vs = [V.ref l] ∧ SqL K H l (xs.map V.str) ∧ xs.length ≤ 1000 ∧
  ∀ a zs, H a = none → zs.Nodup → (∀ z, z ∈ zs ↔ z ∈ xs) → zs.length ≤ xs.length → Q (.ref a) (upd H a (TxO P w a zs))
def rSortedSetS (P : Program) (w : World) : List V → Hp → VK → Prop := fun vs H Q => ∃ (a : Addr) (zs : List Str), vs = [V.ref a] ∧ H a = some (TxO P w a zs) ∧ zs.length < 64 ∧
  ∀ (ys : List Str) p, ys.Perm zs → sortedS ys = true → H p = none → Q (.ref p) (upd H p (.lst (ys.map V.str)))
section
variable {X : Cx}
theorem cr_setOfS (hc : X.calm = true) : CallR X (.type "set") (rSetOfS X.K X.prog X.w) := by
  intro pins s σ H vs us Q I r h
  obtain ⟨l, xs, rfl, hl, room, q⟩ := h
  rw [Vals.ref1 r]
  obtain ⟨its, rv, pl, hz⟩ := I.list hl
  refine made (P := X.prog) (w := X.w) (I.ok.hd hc) pl.isList (by simpa using rv.strs) (by unfold scanBound; omega) fun h' tk ys r1 r2 k => ?_
  have r3 : ys.Nodup := by
    obtain ⟨_, _, _, _, _, _, _, _, _, nd, _⟩ := r1
    exact nd
  refine ⟨.ref s.heap.objs.size, upd H s.heap.objs.size (TxO X.prog X.w s.heap.objs.size ys), I.laid (t' := tk) k (Nat.le_refl _) (txo_ok r1), rfl, q _ ys (I.hok.fresh (Nat.le_refl _)) r3 (fun z => ?_) r2.few⟩
  rw [r2.mem, List.take_length]
theorem cr_sortedSetS (hc : X.calm = true) : CallR X (.builtin "sorted") (rSortedSetS X.prog X.w) := by
  intro pins s σ H vs us Q I r h
  obtain ⟨a, zs, rfl, ha, few, q⟩ := h
  have R : Txts X.prog X.w s.heap a zs := (I.hok a _ ha).1
  rw [Vals.ref1 r]
  refine sortedOf R (I.ok.hd hc) few fun s' p out c ys k g o hp hg hs pm so => ?_
  have hlen : (ys.map V.str).length ≤ sizeLine := by
    rw [List.length_map, pm.length_eq, sizeLine_eq]
    omega
  have hn : H p = none := I.hok.fresh hp
  have J : Inv X pins σ (upd H p (.lst (ys.map V.str))) { s with heap := s'.heap, gens := s'.gens, drawn := s'.drawn, toks := s'.toks } :=
    I.call (ch := []) (Un.laid k hp hn) (I.hok.laid k hp ⟨hlen, out.toList, c, vals_of_strs hs, by rw [Array.toArray_toList]; exact hg⟩) (by rw [g]; exact I.bare) (fun _ z => nomatch z)
  have e : s' = { s with heap := s'.heap, gens := s'.gens, drawn := s'.drawn, toks := s'.toks } := by
    cases s'
    cases s
    cases o
    rfl
  rw [e]
  exact ⟨.ref p, _, J, rfl, q ys p pm so hn⟩
end
end Xs
namespace Xk
open PySem PySem.Spec PyProof.Rows L2
section
variable {K : PySem.W.Frag} {P : Program} {w : World} {X : Cx} {H : Hp} {Q : VK}
theorem k_setOfS (hc : X.calm = true) (e : X.K = K) (e1 : X.prog = P) (e2 : X.w = w) : CallR X (.type "set") (Xs.rSetOfS K P w) := e ▸ e1 ▸ e2 ▸ Xs.cr_setOfS hc
theorem k_sortedSetS (hc : X.calm = true) (e1 : X.prog = P) (e2 : X.w = w) : CallR X (.builtin "sorted") (Xs.rSortedSetS P w) := e1 ▸ e2 ▸ Xs.cr_sortedSetS hc
theorem x_setOfS {l : Addr} {xs : List Str} (h : SqL K H l (xs.map V.str)) (hl : xs.length ≤ 1000) (k : ∀ a H2 zs, Fr a H → Same H H2 → H2 a = some (Xs.TxO P w a zs) → zs.Nodup → (∀ z, z ∈ zs ↔ z ∈ xs) → zs.length ≤ xs.length → Q (.ref a) H2) : Xs.rSetOfS K P w [.ref l] H Q :=
  ⟨l, xs, rfl, h, hl, fun a zs ha h1 h2 h3 => k a _ zs ⟨ha⟩ (same_new ha) upd_same h1 h2 h3⟩
theorem x_sortedSetS {a : Addr} {zs : List Str} (h : H a = some (Xs.TxO P w a zs)) (hl : zs.length < 64) (k : ∀ p H2 (ys : List Str), ys.Perm zs → sortedS ys = true → Fr p H → Same H H2 → H2 p = some (.lst (ys.map V.str)) → Q (.ref p) H2) : Xs.rSortedSetS P w [.ref a] H Q :=
  ⟨a, zs, rfl, h, hl, fun ys p h1 h2 hp => k p _ ys h1 h2 ⟨hp⟩ (same_new hp) upd_same⟩
end
end Xk

namespace Xk
open PySem PySem.Spec PyProof.Rows L2
section
variable {X : Cx}
/-- sorted(xs) of a list of data of one shape -/
def rSortX (K : PySem.W.Frag) : List V → Hp → VK → Prop := fun vs H Q => ∃ (a : Addr) (bs : List (V × PyData)), vs = [V.ref a] ∧ SqL K H a (bs.map (·.1)) ∧ (∀ b ∈ bs, Dp K H b.1 b.2 ∧ b.2.depth ≤ 9) ∧
  PySem.W.AllAlike (bs.map (·.2)) ∧ PySem.W.Sortable (bs.map (·.2)) ∧ ∀ p, H p = none → Q (.ref p) (upd H p (.lst ((bs.mergeSort (PySem.W.dataLe false (·.2))).map (·.1))))
theorem eachV {R : Value → PyData → Prop} : ∀ {its : List Value} {bs : List (V × PyData)}, Vals (bs.map (·.1)) its → (∀ b ∈ bs, ∀ u, RelV b.1 u → R u b.2) → PySem.W.EachIs (fun u (b : V × PyData) => RelV b.1 u ∧ R u b.2) its bs
  | its, [], h, _ => by cases h; exact .nil
  | its, b :: r, h, hr => by
    cases h with
    | cons h1 h2 => exact .cons ⟨h1, hr b (List.mem_cons_self ..) _ h1⟩ (eachV h2 fun c hc => hr c (List.mem_cons_of_mem _ hc))
theorem eachB {R : Value → PyData → Prop} : ∀ {its : List Value} {bs : List (V × PyData)}, PySem.W.EachIs (fun u (b : V × PyData) => RelV b.1 u ∧ R u b.2) its bs → Vals (bs.map (·.1)) its
  | _, _, .nil => .nil
  | _, _, .cons h t => .cons h.1 (eachB t)
theorem k_sortX0 (hu : X.A.units + 64 < cLine) : CallR X (.builtin "sorted") (rSortX X.K) := by
  intro pins s σ H vs us Q I r h
  obtain ⟨a, bs, rfl, hs, hd, hal, hk, q⟩ := h
  obtain ⟨its, rv, hl, hz⟩ := I.list hs
  rw [Vals.ref1 r]
  have e := eachV (R := fun u d => ∃ as, Reads s.heap u d as) rv fun b hb u ru => Dp.reads I b.2 b.1 u (hd b hb).1 ru
  have hlen : bs.length ≤ sizeLine := by rw [List.length_map] at hz; exact hz
  refine PySem.W.sorted_data (enc := fun b : V × PyData => b.2) hl.isList e (e.mono fun _ _ h => h.2) hal hk hlen (fun b hb => ?_) fun out ho eo => ?_
  · have := (hd b hb).2
    omega
  · obtain ⟨ep, he'⟩ := PyProof.Rows.sortedAll_at s.heap its out.toArray
    have hlen2 : ((bs.mergeSort (PySem.W.dataLe false (·.2))).map (·.1)).length ≤ sizeLine := by rw [List.length_map, List.length_mergeSort]; exact hlen
    exact ⟨.ref _, upd H (s.heap.objs.size + 1) (.lst ((bs.mergeSort (PySem.W.dataLe false (·.2))).map (·.1))), I.laid (t' := s.toks) (fun _ _ => PyProof.Rows.sortedAll_old) (Nat.le_succ _) ⟨hlen2, out, ep, eachB (R := fun u d => ∃ as, Reads s.heap u d as) eo, he'⟩, rfl, q _ (I.hok.fresh (Nat.le_succ _))⟩
/-- data compared -/
def rLtD (K : PySem.W.Frag) : R2 := fun x y H Q => ∃ d e, Dp K H x d ∧ Dp K H y e ∧ PySem.W.alike d e = true ∧ d ≠ .none ∧ d.depth ≤ 60 ∧ Q (.bl (PySem.W.dataLt d e)) H
def rLeD (K : PySem.W.Frag) : R2 := fun x y H Q => ∃ d e, Dp K H x d ∧ Dp K H y e ∧ PySem.W.alike d e = true ∧ d ≠ .none ∧ d.depth ≤ 60 ∧ Q (.bl (!PySem.W.dataLt e d)) H
theorem k_ltD0 (hu : X.A.units + 64 < cLine) : OpR X (compareOp .Lt) (rLtD X.K) := by
  intro pins s σ H x y v u Q I rx ry h
  obtain ⟨d, e, hd, he, ha, hn, hz, q⟩ := h
  obtain ⟨as, r1⟩ := Dp.reads I d x v hd rx
  obtain ⟨bs, r2⟩ := Dp.reads I e y u he ry
  exact PySem.W.rcLt_alike d e X.A s v u as bs r1 r2 ha hn (by have := Nat.min_le_left d.depth e.depth; omega) X.prog X.w X.xe (EP X pins σ Q) ⟨.bl _, H, I, rfl, q⟩
theorem k_leD0 (hu : X.A.units + 64 < cLine) : OpR X (compareOp .LtE) (rLeD X.K) := by
  intro pins s σ H x y v u Q I rx ry h
  obtain ⟨d, e, hd, he, ha, hn, hz, q⟩ := h
  obtain ⟨as, r1⟩ := Dp.reads I d x v hd rx
  obtain ⟨bs, r2⟩ := Dp.reads I e y u he ry
  exact PySem.W.rcLe_alike d e X.A s v u as bs r1 r2 ha hn (by have := Nat.min_le_left d.depth e.depth; omega) X.prog X.w X.xe (EP X pins σ Q) ⟨.bl _, H, I, rfl, q⟩
theorem k_sortX {K : PySem.W.Frag} (hu : X.A.units + 64 < cLine) (e : X.K = K) : CallR X (.builtin "sorted") (rSortX K) := e ▸ k_sortX0 hu
theorem k_ltD {K : PySem.W.Frag} (hu : X.A.units + 64 < cLine) (e : X.K = K) : OpR X (compareOp .Lt) (rLtD K) := e ▸ k_ltD0 hu
theorem k_leD {K : PySem.W.Frag} (hu : X.A.units + 64 < cLine) (e : X.K = K) : OpR X (compareOp .LtE) (rLeD K) := e ▸ k_leD0 hu
end
end Xk

/-! dicts whose keys are tuples: setdefault, sorted -/
namespace Xk
open PySem PySem.Spec PyProof.Rows L2
section
variable {X : Cx} {pins : List (Addr × Obj)} {σ : L2.St} {H : Hp} {s : Shared} {a b : Addr} {r : Value} {d : V} {k : List Key} {A : Around} {E : Value → Shared → Prop}
theorem d_setdT {kvs : List (List Key × V)} {Q : Value → Shared → Prop} (hu : A.units + 1 < cLine) (I : Inv X pins σ H s) (e : H a = some (.dT kvs)) (eb : H b = some (.tup (k.map kV))) (rd : RelV d r) (hl : kvs.length < sizeLine)
    (h1 : ∀ v, valV kvs k = some v → ∀ (w' : Value) (s' : Shared), Inv X pins σ H s' → RelV v w' → Q w' s') (h2 : valV kvs k = none → ∀ (w' : Value) (s' : Shared), Inv X pins σ (upd H a (.dT (putK kvs k d))) s' → RelV d w' → Q w' s') :
    wpAny (model X.prog X.w) A (call (.builtin "dict.setdefault") [.ref a, .ref b, r]) Q E s := by
  obtain ⟨z, hd, xs, rel, dd⟩ := dt_of I.hok e
  have hz : xs.length ≤ sizeLine := by rw [← Paired.length rel]; exact z
  refine call_setdefault_heap (knd := tupleKind (mixKind X.prog X.w)) (hsz := hz) (tupleKind_room_in1 hu) (key_of I.hok eb) hd dd (fun p hp => ?_) fun hn h' dd' hs => ?_
  · have q := rel.val k
    rw [hp] at q
    cases q0 : valV kvs k with
    | none =>
      rw [q0] at q
      exact (show False from q).elim
    | some v0 =>
      rw [q0] at q
      exact h1 v0 q0 _ _ (I.tok _) q
  · have q := rel.val k
    rw [hn] at q
    cases q0 : valV kvs k with
    | some v0 =>
      rw [q0] at q
      exact (show False from q).elim
    | none =>
      have hl2 : (putK kvs k d).length ≤ sizeLine := by
        have := length_putK kvs k d
        omega
      obtain ⟨q, es, ep, hq, g2, g3, g4, _, g5⟩ := dd'
      refine h2 q0 _ _ (d_write I (by rw [e]; exact True.intro) hs ⟨q, hq⟩ ⟨hl2, hd, _, (rel.put k eb rd).keeps fun c ys ec => ?_, q, es, ep, hq, g2, g3, g4, g5⟩) rd
      rw [upd_ne (ne_of ec e (fun z => nomatch z))]
      exact ec
end
/-- d.setdefault(y, z), tuple keys -/
def rDSetT (a : Addr) (y z : V) (Q : VK) (H3 : Hp) : Prop := ∃ (kvs : List (List Key × V)) (k : List Key) (b : Addr), H3 a = some (.dT kvs) ∧ y = .ref b ∧ H3 b = some (.tup (k.map kV)) ∧ kvs.length < sizeLine ∧
  (∀ v, valV kvs k = some v → Q v H3) ∧ (valV kvs k = none → Q z (upd H3 a (.dT (putK kvs k z))))
def tDSetT (td ty tx : TE) : TE := fun σ H Q => td σ H fun x H1 => ∃ a kvs, x = .ref a ∧ H1 a = some (.dT kvs) ∧ ty σ H1 fun y H2 => tx σ H2 fun z H3 => rDSetT a y z Q H3
section
variable {X : Cx} {o e f : Expr} {td ty tx : TE} {apos cpos : Pos}
theorem pe_dsetT (hu : X.A.units + 1 < cLine) (ho : PE X o td) (he : PE X e ty) (hf : PE X f tx) (m : M2 X o "setdefault" apos e f cpos) : PE X (.Call (.Attribute o "setdefault" apos) [e, f] [] cpos) (tDSetT td ty tx) := by
  refine ⟨fun pins s σ H Q I h => ?_⟩
  refine wpAny_Call_method m.base m.few m.line PySem.F.plainAttrs_dict PySem.F.slot_dict_setdefault PySem.F.type_dict_setdefault (thn (ho.run pins s σ H _ I h) fun u s1 ⟨x, H1, I1, rx, a, kvs, ex, d, q1⟩ => ?_)
  subst ex
  obtain rfl : u = Value.ref a := rx
  have hty : s1.TypeIs (.ref a) "dict" := by
    obtain ⟨_, _, xs, _, dd⟩ := dt_of I1.hok d
    exact dd.typeIs
  have hnd : ∀ b, Value.ref a = .ref b → ∃ ob, s1.heap.get? b = some ob ∧ ob.dict = none := fun b q => by
    cases q
    obtain ⟨_, _, xs, _, ob, _, _, h1, h2, _⟩ := dt_of I1.hok d
    exact ⟨ob, h1, h2.2.1⟩
  refine ⟨hty, hnd, ?_⟩
  rw [m.trees]
  refine Calls.callWith_builtin rfl (Calls.evalArgs_plain (Calls.spliced_cons (thn (he.run pins s1 σ H1 _ I1 q1) fun iv s2 ⟨y, H2, I2, ry, q2⟩ =>
    Calls.spliced_cons (thn (hf.run pins s2 σ H2 _ I2 q2) fun fv s3 ⟨z, H3, I3, rz, kvs, k, b, ea, ey, eb, hl, q3, q4⟩ => Calls.spliced_nil ?_))))
  subst ey
  obtain rfl : iv = Value.ref b := ry
  exact d_setdT hu I3 ea eb rz hl (fun v hv w' s4 I4 rw' => ⟨v, _, I4, rw', q3 v hv⟩) fun hn w' s4 I4 rw' => ⟨z, _, I4, rw', q4 hn⟩
end
/-- sorted(d), the keys tuples of ints: the keys' own tuples, ascending -/
def rSortT (xs : List V) (H : Hp) (Q : VK) : Prop := ∃ (d : Addr) (kvs : List (List Key × V)) (ks : List (List Int)), xs = [.ref d] ∧ H d = some (.dT kvs) ∧ kvs.map (·.1) = ks.map (fun k => k.map Sum.inl) ∧ (∀ k ∈ ks, k ≠ []) ∧ ks.length ≤ 1000 ∧
  ∀ (p : Addr) (zs : List (Addr × List Int)), H p = none → (zs.map (·.2)).Perm ks → (zs.map (·.2)).Pairwise (· ≤ ·) → (∀ z ∈ zs, H z.1 = some (.tup (z.2.map V.int))) → Q (.ref p) (upd H p (.lst (zs.map fun z => V.ref z.1)))
theorem kt_list {H : Hp} : ∀ {kvs : List (List Key × V)} {ts : List (List Key × Addr × Value)} {ks : List (List Int)}, KT H kvs ts → kvs.map (·.1) = ks.map (fun k => k.map Sum.inl) →
    ∃ L : List (Addr × List Int), L.map (·.1) = ts.map (fun x => x.2.1) ∧ L.map (·.2) = ks ∧ ∀ e ∈ L, H e.1 = some (.tup (e.2.map V.int))
  | [], _, ks, r, e => by
    cases r
    cases ks with
    | nil => exact ⟨[], rfl, rfl, fun e he => by cases he⟩
    | cons k r => cases e
  | p :: kvs, _, ks, r, e => by
    cases ks with
    | nil => cases e
    | cons k ks =>
      rw [List.map_cons, List.map_cons] at e
      injection e with e1 e2
      cases r with
      | @cons _ q _ qs h t =>
        obtain ⟨L, h1, h2, h3⟩ := kt_list t e2
        refine ⟨(q.2.1, k) :: L, by rw [List.map_cons, List.map_cons, h1], by rw [List.map_cons, h2], fun x hx => ?_⟩
        rcases List.mem_cons.mp hx with rfl | hx
        · have z := h.2.1
          rw [e1, List.map_map] at z
          exact z
        · exact h3 x hx
theorem reads_ints {h : Heap} : ∀ {ns : List Int} {us : List Value}, Vals (ns.map V.int) us → ReadsAll h us (ns.map PyData.int) []
  | [], _, r => by
    cases r
    exact .nil
  | n :: ns, _, r => by
    cases r with
    | cons r1 r2 =>
      obtain ⟨t, rfl⟩ := r1
      exact ReadsAll.cons (Reads.int n t) (reads_ints r2)
theorem tup_dataLe (x : Addr × List Int → List Int) : PySem.W.dataLe false (fun b : Addr × List Int => PyData.tuple ((x b).map .int)) = fun p q => decide (x p ≤ x q) := by
  rw [PySem.W.dataLe_eq]
  funext p q
  show (!PySem.W.dataLt _ _) = _
  rw [PySem.W.dataLt_tuple]
  have h := PySem.W.dataLt_ints (x q) (x p)
  unfold PySem.W.rowLt at h
  rw [h, ← decide_not]
  exact decide_eq_decide.mpr List.not_lt
section
variable {X : Cx}
theorem k_sortT (hcalm : X.calm = true) (hu : X.A.units + 64 < cLine) : CallR X (.builtin "sorted") rSortT := by
  intro pins s σ H xs us Q I r h
  obtain ⟨d, kvs, ks, rfl, hd, hks, hne, hl, q⟩ := h
  obtain ⟨u, rfl, rx⟩ := vals1 r
  cases rx
  obtain ⟨z, hs, ts, pr, o, es, ep, ho, hx, hdt, he, hn⟩ := (show ObjOk X.prog X.w H s.heap d (.dT kvs) from I.hok d _ hd)
  have l1 : es.size = ts.length := size_of_entries he
  have l2 : kvs.length = ts.length := Paired.length pr
  obtain ⟨L, hL1, hL2, hL3⟩ := kt_list pr hks
  have lL : L.length = ts.length := by
    have z := congrArg List.length hL1
    rw [List.length_map, List.length_map] at z
    exact z
  have lk : L.length ≤ 1000 := by
    have z := congrArg List.length hL2
    rw [List.length_map] at z
    omega
  have h16 : es.size ≤ sizeLine := by rw [l1, ← lL, sizeLine_eq]; omega
  refine Calls.call_function_entry PyProof.Rows.kind_sorted PyProof.Rows.plain_sorted PyProof.Rows.entry_sorted (PyProof.Rows.args_sorted1 _) ?_
  unfold Builtin.«sorted»
  refine wpAny_bind (m := checkCount "sorted" 1 1 _) (wpAny_pure ?_)
  refine wpAny_bind (PySem.W.kdu_collect (A := X.A.in1) (kdl_raw hs hx hdt) (I.ok.hd hcalm) ho h16 fun h' tk acc hk hacc => ?_)
  have ea : acc.toList = L.map fun x => Value.ref x.1 := by
    have hl : acc.toList.length = ts.length := by rw [Array.length_toList, hacc.1]; exact l1
    have e2 : (L.map fun x => Value.ref x.1) = ts.map fun x => Value.ref x.2.1 := by
      have z := congrArg (List.map Value.ref) hL1
      rw [List.map_map, List.map_map] at z
      exact z
    rw [e2]
    apply List.ext_getElem?
    intro j
    rw [List.getElem?_map]
    cases hj : acc.toList[j]? with
    | none =>
      have h1 := List.getElem?_eq_none_iff.mp hj
      rw [List.getElem?_eq_none (by omega)]
      all_goals rfl
    | some v =>
      obtain ⟨en, hen, hv⟩ := hacc.2 j v (by rw [← Array.getElem?_toList]; exact hj)
      have qe := entry_at he j
      rw [hen] at qe
      cases hb : ts[j]? with
      | none =>
        rw [hb] at qe
        exact nomatch (show some en = none from qe)
      | some b =>
        rw [hb] at qe
        have e2 : en = entryOfKey (tupleKind (mixKind X.prog X.w)) b := Option.some.inj qe
        rw [hv, e2]
        all_goals rfl
  have I1 : Inv X pins σ H { s with heap := h', toks := tk } := I.kept hk
  have hal : acc.toList.length = L.length := by rw [ea, List.length_map]
  refine wpAny_bind (wpAny_newList ?_ (by rw [hal, sizeLine_eq]; omega))
  have hoL : (h'.push (seqObj "list" acc.toList.toArray 0)).get? h'.objs.size = some (seqObj "list" acc.toList.toArray 0) := Heap.get?_push_size _ rfl
  show wpAny _ _ _ _ _ { s with heap := h'.push (seqObj "list" acc.toList.toArray 0), toks := tk }
  have er : PySem.W.EachIs (fun (v : Value) (b : Addr × List Int) => v = .ref b.1 ∧ ∃ as, Reads (h'.push (seqObj "list" acc.toList.toArray 0)) v (PyData.tuple (b.2.map .int)) as ∧ h'.objs.size ∉ as) acc.toList L := by
    rw [ea]
    have key : ∀ M : List (Addr × List Int), (∀ e ∈ M, H e.1 = some (.tup (e.2.map V.int))) → PySem.W.EachIs (fun (v : Value) (b : Addr × List Int) => v = .ref b.1 ∧ ∃ as, Reads (h'.push (seqObj "list" (L.map fun x => Value.ref x.1).toArray 0)) v (PyData.tuple (b.2.map .int)) as ∧ h'.objs.size ∉ as) (M.map fun x => Value.ref x.1) M := by
      intro M
      induction M with
      | nil => exact fun _ => .nil
      | cons e M ih =>
        intro hM
        refine .cons ⟨rfl, [], ?_, List.not_mem_nil⟩ (ih fun x hx => hM x (List.mem_cons_of_mem _ hx))
        obtain ⟨_, its, r, o, h1, h2, n, h3⟩ := (show ObjOk X.prog X.w H h' e.1 (.tup (e.2.map V.int)) from I1.hok _ _ (hM e (List.mem_cons_self ..)))
        exact Reads.tuple (Heap.get?_push_of_some _ h1) h2 h3 (by simpa using reads_ints r)
    exact key L hL3
  have enc1 : PySem.W.AllAlike (L.map fun b => PyData.tuple (b.2.map .int)) := PySem.W.AllAlike.of fun b b' => by
    show PySem.W.alikeAll _ _ = true
    exact PySem.W.alike_ints _ _
  have enc2 : PySem.W.Sortable (L.map fun b => PyData.tuple (b.2.map .int)) := .inl fun d hd => by
    obtain ⟨b, hb, rfl⟩ := List.mem_map.mp hd
    have hb2 : b.2 ≠ [] := hne _ (by rw [← hL2]; exact List.mem_map_of_mem (f := fun e : Addr × List Int => e.2) hb)
    cases e : b.2 with
    | nil => exact absurd e hb2
    | cons x r => exact ⟨_, _, rfl⟩
  refine wpAny_bind (wpAny_holding (PySem.W.list_sort_data (s := { s with heap := h'.push (seqObj "list" acc.toList.toArray 0), toks := tk }) (R := fun (v : Value) (b : Addr × List Int) => v = .ref b.1) (enc := fun b => PyData.tuple (b.2.map .int)) hoL (er.mono fun _ _ h => h.1) (er.mono fun _ _ h => h.2) enc1 enc2 (by rw [sizeLine_eq]; omega) (fun b _ => ?_) fun out ho2 eo => ?_))
  · have : (PyData.tuple (b.2.map .int)).depth = 1 := by
      rw [PyData.depth, PySem.W.depth_ints]
    have hA : X.A.in1.units ≤ X.A.units + 2 := by
      show _ ≤ _
      first
        | exact Nat.le_refl _
        | exact Nat.le_succ _
        | simp [Around.in1]
        | omega
    omega
  · obtain ⟨e', he'⟩ := PyProof.Rows.sortedHeap_at (vs := acc.toList) (out := out.toArray) hoL
    rw [tup_dataLe] at eo
    have perm : (L.mergeSort fun p q => decide (p.2 ≤ q.2)).Perm L := List.mergeSort_perm ..
    have ev : out = (L.mergeSort fun p q => decide (p.2 ≤ q.2)).map fun x => Value.ref x.1 := by
      have key : ∀ {o : List Value} {M : List (Addr × List Int)}, PySem.W.EachIs (fun (v : Value) (b : Addr × List Int) => v = .ref b.1) o M → o = M.map fun x => Value.ref x.1 := fun e => by
        induction e with
        | nil => rfl
        | cons h t ih => rw [List.map_cons, ← ih, h]
      exact key eo
    have pw : (L.mergeSort fun p q => decide (p.2 ≤ q.2)).Pairwise fun p q => p.2 ≤ q.2 := by
      refine (List.pairwise_mergeSort (fun a b c h1 h2 => ?_) (fun a b => ?_) L).imp fun h => of_decide_eq_true h
      · exact decide_eq_true (List.le_trans (of_decide_eq_true h1) (of_decide_eq_true h2))
      · rw [Bool.or_eq_true]
        rcases List.le_total a.2 b.2 with h | h
        · exact .inl (decide_eq_true h)
        · exact .inr (decide_eq_true h)
    generalize (L.mergeSort fun p q => decide (p.2 ≤ q.2)) = zs at *
    have lz : (zs.map fun z => V.ref z.1).length ≤ sizeLine := by rw [List.length_map, perm.length_eq, sizeLine_eq]; omega
    have vz : Vals (zs.map fun z => V.ref z.1) out := by
      rw [ev]
      have key := vals_refs (zs.map fun z => z.1)
      rw [List.map_map, List.map_map] at key
      exact key
    refine wpAny_pure ⟨_, rfl, .ref h'.objs.size, upd H h'.objs.size (.lst (zs.map fun z => V.ref z.1)), I1.laid (t' := tk) (fun b u e => ?_) (Nat.le_refl _)
      (show ObjOk X.prog X.w _ _ _ (.lst (zs.map fun z => V.ref z.1)) from ⟨lz, out, e', vz, he'⟩), rfl, q _ zs (I1.hok.fresh (Nat.le_refl _)) (by rw [← hL2]; exact perm.map _) (by rw [List.pairwise_map]; exact pw) fun z hz => hL3 z (perm.mem_iff.mp hz)⟩
    have hb : b < h'.objs.size := Heap.lt_size e
    rw [PyProof.Rows.sortedHeap_old (Nat.ne_of_lt hb) (by rw [size_push']; exact Nat.lt_succ_of_lt hb)]
    exact Heap.get?_push_of_some _ e
end
/-! ### set(xs) of a list of ints -/
abbrev nset (w : World) : Obj := { cls := .type "set", dict := none, data := .set #[] 0 (.fresh 0 0 (!w.params.followText "set-order")) }
section
variable {P : Program} {w : World} {A : Around} {E : Value → Shared → Prop} {s : Shared}
theorem madeI {l : Addr} {items : Array Value} {xs : List Int} {Q : Value → Shared → Prop} (hh : A.handled = none) (hl : s.heap.IsList l items) (hi : IntsAre items.toList xs) (room : xs.length + 1 < scanBound)
    (q : ∀ (h' : Heap) (tk c : Nat), SetR w h' s.heap.objs.size (fun j => decide (j ∈ xs)) c → c ≤ xs.length → (∀ b o, s.heap.get? b = some o → h'.get? b = some o) → Q (.ref s.heap.objs.size) { s with heap := h', toks := tk }) :
    wpAny (model P w) A (call (.type "set") [.ref l]) Q E s := by
  have isz : items.size = xs.length := by rw [← IntsAre.length hi, Array.length_toList]
  obtain ⟨c, tl, hmro⟩ := PySem.F.called_set.mro
  have g1 := PySem.F.called_set.made
  have g2 := PySem.F.called_set.sub
  have g3 := PySem.F.called_set.notType
  have g4 := PySem.F.called_set.canCreate
  have g5 := PySem.F.typeCall_set_1 (.ref l)
  refine wpAny_call (codeAny_of_tree ?_)
  show wpAny _ _ (callAny (.type "set") _) _ _ _
  refine wpAny_pure ⟨Code.quiet_builtin _ (by decide +kernel), codeAny_builtin PySem.F.entry_type_call ?_⟩
  rw [Around.under_plain (weight_type_call_type "set" [.ref l] []) rfl]
  repeat (any_goals (first | assumption | wp_step))
  refine codeAny_mono (code_set_led1 (.ref l) (E := E) (Q₁ := fun ob s₁ => ob = .ref s.heap.objs.size ∧ s₁ = { s with heap := s.heap.push (nset w) }) ⟨rfl, rfl⟩) fun r s₁ hr => ?_
  cases r with
  | error e => exact hr
  | ok fl =>
    cases fl with
    | ret ob =>
      obtain ⟨rfl, rfl⟩ := hr
      have hS : (s.heap.push (nset w)).get? s.heap.objs.size = some (nset w) := Heap.get?_push_size _ rfl
      have hT : Shared.TypeIs { s with heap := s.heap.push (nset w) } (.ref s.heap.objs.size) "set" := ⟨_, hS, rfl⟩
      have g6 := PySem.F.called_set.init.lookup
      have g7 := PySem.F.called_set.init.bind (.ref s.heap.objs.size)
      repeat (any_goals (first | assumption | wp_step))
      refine codeAny_mono (codeAny_call_builtin (R := wants (fun r s₂ => r = .none ∧ ∃ h' tk c, s₂ = { s with heap := h', toks := tk } ∧ SetR w h' s.heap.objs.size (fun j => decide (j ∈ xs)) c ∧ c ≤ xs.length ∧ ∀ b o, s.heap.get? b = some o → h'.get? b = some o) E)
        PySem.F.called_set.init.plain PySem.F.entry_set_init (check_set_init_1 hT ?_)) fun r₂ s₂ hr₂ => ?_
      · obtain ⟨⟨ocls, odict, odata, oslots⟩, hol, hcl, nl, hdl⟩ := hl
        simp only at hcl hdl
        subst hcl hdl
        have hol2 : (s.heap.push (nset w)).get? l = some { cls := .type "list", dict := odict, data := .seq items nl, slots := oslots } := Heap.get?_push_of_some _ hol
        have t1 := PySem.F.sub_list_set
        have t2 := PySem.F.sub_list_frozenset
        have t3 : (Value.type "list" == Value.type "dict") = false := by decide
        have hl1 : (s.heap.push (nset w)).IsList l items := ⟨_, hol2, rfl, nl, rfl⟩
        unfold Builtin.«set.__init__» noKeywords Builtin.Frozenset.updateFrom
        generalize hPI : pyIter = PI
        wp_walk
        subst hPI
        refine wpAny_pyIter_list hl1 (wpAny_bind (wpAny_runValue ?_))
        have lS : l < s.heap.objs.size := Heap.lt_size hol
        have h3 : A.in1.in1.in1.handled = none := by simp [hh]
        have z1 : (s.heap.push (nset w)).objs.size = s.heap.objs.size + 1 := Heap.size_push ..
        have nI : l ≠ (s.heap.push (nset w)).objs.size := by
          rw [z1]
          exact Nat.ne_of_lt (Nat.lt_succ_of_lt lS)
        have nS : s.heap.objs.size ∉ [(s.heap.push (nset w)).objs.size, l] := by
          rw [z1]
          simp only [List.mem_cons, List.not_mem_nil, or_false, not_or]
          exact ⟨Nat.ne_of_lt (Nat.lt_succ_self _), Nat.ne_of_gt lS⟩
        have vl : ∀ (i : Nat) (v : Value), items[i]? = some v → ∃ z u, xs[i]? = some z ∧ v = .int z u := fun i v hv => by
          obtain ⟨u, e⟩ := PyProof.Rows.IntsAre.int_at hi i v (by rw [Array.getElem?_toList]; exact hv)
          have lt : i < xs.length := by
            obtain ⟨b, _⟩ := Array.getElem?_eq_some_iff.mp hv
            omega
          exact ⟨xs.getD i 0, u, by rw [List.getD_eq_getElem?_getD, List.getElem?_eq_getElem lt]; rfl, e⟩
        refine set_update_ints ((Walks.list h3 _ l nI items).toS) s.heap.objs.size nS xs isz (by omega) vl (items.size - 0) 0 _ (by omega) (Nat.zero_le _) ⟨⟨_, Heap.get?_push_size _ rfl, rfl, rfl⟩, (hl1.push _)⟩ ?hS0 ?hR
        case hS0 => exact ⟨0, Nat.le_refl 0, setR_new_at (Heap.get?_push_of_some _ hS)⟩
        case hR =>
          rintro ⟨h', g', d', tk', os'⟩ c mv r2 r1
          obtain rfl : g' = s.gens := mv.gens
          obtain rfl : d' = s.drawn := mv.drawn
          obtain rfl : os' = s.os := mv.os
          show wpAny _ _ _ _ _ _
          refine wpAny_pure (wpAny_pure ⟨rfl, h', tk', c, rfl, r1, isz ▸ r2, fun b o e => ?_⟩)
          have lb := Heap.lt_size e
          refine mv.heap b o ?_ (Heap.get?_push_of_some _ (Heap.get?_push_of_some _ e))
          simp only [List.mem_cons, List.not_mem_nil, or_false, not_or]
          exact ⟨Nat.ne_of_lt lb, by rw [z1]; exact Nat.ne_of_lt (Nat.lt_succ_of_lt lb)⟩
      · cases r₂ with
        | error e => exact hr₂
        | ok fl₂ =>
          cases fl₂ with
          | ret r =>
            obtain ⟨rfl, h', tk, c, rfl, r1, r2, r3⟩ := hr₂
            repeat (any_goals (first | assumption | wp_step))
            exact q _ _ _ r1 r2 r3
          | _ => exact hr₂.elim
    | _ => exact hr.elim
end
def rSetOfL (K : PySem.W.Frag) (w : World) : List V → Hp → VK → Prop := fun vs H Q => ∃ (p : Addr) (ns : List Int), vs = [V.ref p] ∧ SqL K H p (ns.map V.int) ∧ ns.length ≤ 1000 ∧ ∀ a n, H a = none → n ≤ ns.length → Q (.ref a) (upd H a (SetO w a (fun j => decide (j ∈ ns)) n))
theorem cr_setOfL {X : Cx} (hc : X.calm = true) : CallR X (.type "set") (rSetOfL X.K X.w) := by
  intro pins s σ H xs us Q I r h
  obtain ⟨p0, ns, rfl, hq, hl, q⟩ := h
  cases r with
  | cons r rr =>
    cases rr
    cases r
    obtain ⟨its, rv, pt, hz⟩ := I.list hq
    have hi : IntsAre its.toArray.toList ns := ints_of_vals rv
    refine madeI (I.ok.hd hc) pt.isList hi (by unfold scanBound; omega) fun h' tk c R1 hcn k => ?_
    exact ⟨.ref _, upd H s.heap.objs.size (SetO X.w s.heap.objs.size (fun j => decide (j ∈ ns)) c), I.laid (t' := tk) k (Nat.le_refl _) (setO_new R1), rfl, q _ _ (I.hok.fresh (Nat.le_refl _)) hcn⟩
theorem k_setOfL {X : Cx} {K : PySem.W.Frag} {w : World} (hc : X.calm = true) (e : X.K = K) (e' : X.w = w) : CallR X (.type "set") (rSetOfL K w) := e ▸ e' ▸ cr_setOfL hc
theorem x_setOfL {K : PySem.W.Frag} {H : Hp} {Q : VK} {w : World} {p : Addr} {ns : List Int} (h : SqL K H p (ns.map V.int)) (hl : ns.length ≤ 1000) (k : ∀ a H2 n, Fr a H → Same H H2 → H2 a = some (SetO w a (fun j => decide (j ∈ ns)) n) → n ≤ ns.length → Q (.ref a) H2) : rSetOfL K w [.ref p] H Q :=
  ⟨p, ns, rfl, h, hl, fun a n h1 h2 => k a _ n ⟨h1⟩ (same_new h1) upd_same h2⟩
/-! ### list(d.values()) -/
def tListVals (td : TE) : TE := fun σ H Q => td σ H fun x H1 => ∃ a kvs, x = V.ref a ∧ H1 a = some (.dK kvs) ∧ ∀ p, H1 p = none → Q (.ref p) (upd H1 p (.lst (kvs.map (·.2))))
theorem vals_kv : ∀ {kvs : List (L2.Key × V)} {vs : List (L2.Key × Value)}, KV kvs vs → Vals (kvs.map (·.2)) (vs.map (·.2))
  | [], _, r => by
    cases r
    exact .nil
  | p :: kvs, _, r => by
    cases r with
    | cons h t => exact .cons h.2 (vals_kv t)
section
variable {X : Cx} {o : Expr} {p pos apos mpos : Pos} {td : TE}
theorem pe_listVals (hc : X.calm = true) (hg : Gl X "list") (hm : X.mg "list" = none) (hd : PE X o td) (hbase : attributeBase o "values" X.env (eval o X.env) = eval o X.env := by rfl) (hline : (apos.endLine == mpos.line) = true := by rfl)
    (hse : starEach [Expr.Call (.Attribute o "values" apos) [] [] mpos] X.env = [(false, eval (Expr.Call (.Attribute o "values" apos) [] [] mpos) X.env)] := by rfl) :
    PE X (.Call (.Name "list" p) [.Call (.Attribute o "values" apos) [] [] mpos] [] pos) (tListVals td) := by
  refine ⟨fun pins s σ H Q I h => ?_⟩
  refine wpAny_Call_Name_kw (ld_blt I hg hm (u := .type "list") (by first | rfl | decide +kernel) ?_ (by first | decide +kernel | decide) (by first | decide +kernel | decide))
  rw [hse]
  refine PySem.callWith_type1 (wpAny_Call_method0_late hbase hline (thn (hd.run pins s σ H _ I h) fun v s1 ⟨x, H1, I1, r1, a, kvs, ex, ha, q⟩ => ?_))
  subst ex
  obtain rfl : v = Value.ref a := r1
  obtain ⟨hz, hsys, vs, rel, dof⟩ := dk_of I1.hok ha
  obtain ⟨ep, dat⟩ := dof.dictAt
  have dat' := dat
  obtain ⟨ob, es, ho, ex, hdat, hko, hpr, hnd⟩ := dat'
  refine ⟨"dict", "dict.values", PySem.F.plainAttrs_dict, PySem.F.slot_dict_values, PySem.F.type_dict_values, ⟨ob, ho, ex.1⟩, fun b e => ?_, Calls.callWith_builtin rfl (PySem.evalArgs_none ?_)⟩
  · cases e
    exact ⟨ob, ho, ex.2.1⟩
  refine call_meetsIn PySem.F.slot_dict_values ⟨ob, ho, ex.1⟩ PySem.F.entry_dict_values (PySem.F.args_dict_values_1 _) (meets_dict_values (mixKind X.prog X.w) a hsys) ⟨⟨vs, dof⟩, ?_⟩
  have k1 : ∀ b u, s1.heap.get? b = some u → (s1.heap.push { cls := .type "dict_values", data := .fields #[.ref a] }).get? b = some u := fun b u e => Heap.get?_push_of_some _ e
  have dat1 : (s1.heap.push { cls := .type "dict_values", data := .fields #[.ref a] }).DictAt (mixKind X.prog X.w) a vs ep := dat.keep k1
  have hlv : vs.length = kvs.length := (KV.length rel).symm
  have hlt : a < s1.heap.objs.size := Heap.lt_size ho
  refine PySem.W.kdl_call (s := { s1 with heap := s1.heap.push { cls := .type "dict_values", data := .fields #[.ref a] } }) (PySem.W.kdl_values (knd := mixKind X.prog X.w) (r := s1.heap.objs.size) (d := a) (kvs := vs) (ep := ep)) (I.ok.hd hc) ⟨⟨_, Heap.get?_push_size _ rfl, rfl, rfl⟩, dat1⟩ (by rw [hlv]; exact hz) fun h' tk acc' c' kp e it => ?_
  have ea : acc'.toList = vs.map (·.2) := by
    have hl : acc'.toList.length = vs.length := by rw [Array.length_toList, it.1]
    apply List.ext_getElem?
    intro j
    rw [List.getElem?_map]
    cases hj : acc'.toList[j]? with
    | none =>
      have h1 := List.getElem?_eq_none_iff.mp hj
      rw [List.getElem?_eq_none (by omega)]
      rfl
    | some v =>
      obtain ⟨k, hk⟩ := it.2 j v (by rw [← Array.getElem?_toList]; exact hj)
      rw [hk]
      rfl
  have hsz : (s1.heap.push { cls := .type "dict_values", data := .fields #[.ref a] }).objs.size = s1.heap.objs.size + 1 := Heap.size_push _ _
  have rv : Vals (kvs.map (·.2)) acc'.toList := by
    rw [ea]
    exact vals_kv rel
  refine ⟨.ref _, upd H1 (s1.heap.push { cls := .type "dict_values", data := .fields #[.ref a] }).objs.size (.lst (kvs.map (·.2))), I1.laid (t' := tk) (fun b u e => kp b u (k1 b u e)) (by rw [hsz]; exact Nat.le_succ _) ⟨by rw [List.length_map]; exact hz, acc'.toList, c', rv, by rw [Array.toArray_toList]; exact e⟩, rfl, q _ (I1.hok.fresh (by rw [hsz]; exact Nat.le_succ _))⟩
end
end Xk

namespace Xk
open PySem PySem.Spec PyProof.Rows L2
section
variable {X : Cx}
/-- max(xs) of a list of data of one shape, not empty: an item whose data is the greatest -/
def rMaxX (K : PySem.W.Frag) : List V → Hp → VK → Prop := fun vs H Q => ∃ (a : Addr) (b : V × PyData) (bs : List (V × PyData)), vs = [V.ref a] ∧ SqL K H a ((b :: bs).map (·.1)) ∧ (∀ c ∈ b :: bs, Dp K H c.1 c.2 ∧ c.2.depth ≤ 9) ∧
  PySem.W.AlikeAll ((b :: bs).map (·.2)) ∧ ∀ c ∈ b :: bs, c.2 = PySem.W.maxD b.2 (bs.map (·.2)) → Q c.1 H
theorem readsAll_of {h : Heap} : ∀ {its : List Value} {bs : List (V × PyData)}, PySem.W.EachIs (fun u (b : V × PyData) => RelV b.1 u ∧ ∃ as, Reads h u b.2 as) its bs → ∃ as, ReadsAll h its (bs.map (·.2)) as
  | _, _, .nil => ⟨_, .nil⟩
  | _, _, .cons h t => by
    obtain ⟨_, _, r⟩ := h
    obtain ⟨_, rs⟩ := readsAll_of t
    exact ⟨_, .cons r rs⟩
theorem each_at {R : Value → V × PyData → Prop} : ∀ {its : List Value} {bs : List (V × PyData)} {i : Nat} {u : Value}, PySem.W.EachIs R its bs → its[i]? = some u → ∃ b ∈ bs, R u b
  | _, _, _, _, .nil, e => by cases e
  | _, _, 0, _, .cons h _, e => ⟨_, List.mem_cons_self .., Option.some.inj (show some _ = some _ from e) ▸ h⟩
  | _, _, i + 1, _, .cons _ t, e => by
    obtain ⟨b, hb, r⟩ := each_at (i := i) t (by simpa using e)
    exact ⟨b, List.mem_cons_of_mem _ hb, r⟩
theorem depth9 : ∀ {bs : List (V × PyData)}, (∀ c ∈ bs, c.2.depth ≤ 9) → PyData.depthAll (bs.map (·.2)) ≤ 9
  | [], _ => Nat.zero_le _
  | b :: r, h => Nat.max_le.mpr ⟨h b (List.mem_cons_self ..), depth9 fun c hc => h c (List.mem_cons_of_mem _ hc)⟩
theorem k_maxX0 (hc : X.calm = true) (hu : X.A.units + 64 < cLine) : CallR X (.builtin "max") (rMaxX X.K) := by
  intro pins s σ H vs us Q I r h
  obtain ⟨a, b, bs, rfl, hs, hd, hal, q⟩ := h
  obtain ⟨its, rv, hl, hz⟩ := I.list hs
  rw [Vals.ref1 r]
  have e := eachV (R := fun u d => ∃ as, Reads s.heap u d as) rv fun c hc u ru => Dp.reads I c.2 c.1 u (hd c hc).1 ru
  obtain ⟨as, ra⟩ := readsAll_of e
  have dp := depth9 fun c hc => (hd c hc).2
  refine PySem.W.max_list_data (I.ok.hd hc) hl.isList (x := b.2) (xs := bs.map fun c : V × PyData => c.2) (as := as) (by simpa using ra) hal (by have dp' : PyData.depthAll (b.2 :: bs.map (·.2)) ≤ 9 := dp; omega) fun i v h' tk bs' hv rd hk => ?_
  obtain ⟨c, hc', r1, as1, r2⟩ := each_at e (by simpa using hv)
  have ed := (PyProof.Rows.reads_det (fun b o e _ => hk b o e) r2 rd).1
  exact ⟨c.1, H, I.kept hk, r1, q c hc' ed.symm⟩
theorem k_maxX {K : PySem.W.Frag} (hc : X.calm = true) (hu : X.A.units + 64 < cLine) (e : X.K = K) : CallR X (.builtin "max") (rMaxX K) := e ▸ k_maxX0 hc hu
theorem setR_le {w : World} {h : Heap} {a : Addr} {S : Int → Bool} {n : Nat} (R : SetR w h a S n) {ms : List Int} (hs : ∀ k, S k = true → k ∈ ms) : n ≤ ms.length := by
  obtain ⟨o, es, ep, t, _, _, _, _, nd, mem, _, _, rfl, _⟩ := R
  have z := nd.length_le_of_subset (l₂ := ms) fun k hk => hs k ((mem k).mpr hk)
  rw [List.length_map, Array.length_toList] at z
  exact z
def rSetOfM (K : PySem.W.Frag) (w : World) : List V → Hp → VK → Prop := fun vs H Q => ∃ (p : Addr) (ns : List Int), vs = [V.ref p] ∧ SqL K H p (ns.map V.int) ∧ ns.length ≤ 1000 ∧ ∀ a n, H a = none → (∀ ms : List Int, (∀ x ∈ ns, x ∈ ms) → n ≤ ms.length) → Q (.ref a) (upd H a (SetO w a (fun j => decide (j ∈ ns)) n))
theorem cr_setOfM (hc : X.calm = true) : CallR X (.type "set") (rSetOfM X.K X.w) := by
  intro pins s σ H xs us Q I r h
  obtain ⟨p0, ns, rfl, hq, hl, q⟩ := h
  cases r with
  | cons r rr =>
    cases rr
    cases r
    obtain ⟨its, rv, pt, hz⟩ := I.list hq
    have hi : IntsAre its.toArray.toList ns := ints_of_vals rv
    refine madeI (I.ok.hd hc) pt.isList hi (by unfold scanBound; omega) fun h' tk c R1 hcn k => ?_
    exact ⟨.ref _, upd H s.heap.objs.size (SetO X.w s.heap.objs.size (fun j => decide (j ∈ ns)) c), I.laid (t' := tk) k (Nat.le_refl _) (setO_new R1), rfl, q _ _ (I.hok.fresh (Nat.le_refl _)) fun ms hm => setR_le R1 fun k hk => hm k (of_decide_eq_true hk)⟩
theorem k_setOfM {K : PySem.W.Frag} {w : World} (hc : X.calm = true) (e : X.K = K) (e' : X.w = w) : CallR X (.type "set") (rSetOfM K w) := e ▸ e' ▸ cr_setOfM hc
theorem x_setOfM {K : PySem.W.Frag} {H : Hp} {Q : VK} {w : World} {p : Addr} {ns : List Int} (h : SqL K H p (ns.map V.int)) (hl : ns.length ≤ 1000) (k : ∀ a H2 n, Fr a H → Same H H2 → H2 a = some (SetO w a (fun j => decide (j ∈ ns)) n) → (∀ ms : List Int, (∀ x ∈ ns, x ∈ ms) → n ≤ ms.length) → Q (.ref a) H2) : rSetOfM K w [.ref p] H Q :=
  ⟨p, ns, rfl, h, hl, fun a n h1 h2 => k a _ n ⟨h1⟩ (same_new h1) upd_same h2⟩
theorem k_slT {K : PySem.W.Frag} (e : X.K = K) : SlR X (rSlA K) := e ▸ sl_tupA
theorem k_catT {K : PySem.W.Frag} (e : X.K = K) : OpR X (binaryOp .Add) (rCatA K) := e ▸ op_catA
end
/-! e.f op= value -/
def rFldA (K : PySem.W.Frag) (tv : TE) (rd : V → V → Hp → VK → Prop) (f : Str) (σ : L2.St) (R : Hp → Prop) : VK := fun x H1 => ∃ a C dx fs v, x = .ref a ∧ H1 a = some (.ins C dx fs) ∧ Cls K C ∧ NoAttr K C f ∧ fs.lookup f = some v ∧
  tv σ H1 fun y H2 => rd v y H2 fun z H3 => ∃ dx' fs', H3 a = some (.ins C dx' fs') ∧ fs'.length < 1000 ∧ R (upd H3 a (.ins C dx' (putF f z fs')))
theorem x_sfldaug {K : PySem.W.Frag} {ta tv : TE} {rd : V → V → Hp → VK → Prop} {f : Str} {D : Ends} {σ : L2.St} {H : Hp} (q : ta σ H (rFldA K tv rd f σ (D.nx σ))) : sFldAug K ta tv rd f D σ H := q
theorem x_ssfldaug {K : PySem.W.Frag} {ta tv : TE} {rd : V → V → Hp → VK → Prop} {f : Str} {D : Ends} {σ : L2.St} {H : Hp} {tz : TS} (q : ta σ H (rFldA K tv rd f σ fun H2 => tz D σ H2)) : tSeq (sFldAug K ta tv rd f) tz D σ H := q
end Xk

/-! dict comprehensions whose keys are tuples -/
namespace Xk
open PySem PySem.Spec PyProof.Rows L2
section
variable {X : Cx} {pp : List (Addr × Obj)} {r0 : L2.St} {G : Hp} {sh : Shared}
/-- the comprehension's store -/
theorem d_storeT {Qd : Unit → Shared → Prop} {Ed : Value → Shared → Prop} {D : Addr} {y z : V} {u t : Value} {G' : Hp} (hu : X.A.units + 1 < cLine) (I : Inv X pp r0 G sh) (g : DPut G D y z G') (ry : RelV y u) (rz : RelV z t)
    (fin : ∀ s2, Inv X pp r0 G' s2 → Qd () s2) : wpAny (model X.prog X.w) X.A (dictSet D u t) Qd Ed sh := by
  rcases g with ⟨m, k, e, ey, l, eH⟩ | ⟨m, k, b, e, ey, eb, l, eH⟩
  · subst ey eH
    exact d_dictSet I e l ry rz fin
  · subst ey eH
    cases (show u = Value.ref b from ry)
    obtain ⟨n, hd, xs, rel, dd⟩ := dt_of I.hok e
    have n2 := length_putK m k z
    refine wpAny_dictSet_heap (hsz := by rw [← Paired.length rel]; exact n) (show X.A.units < cLine from Nat.lt_of_succ_lt hu) (key_of I.hok eb) dd fun h2 d2 sb => fin _ ?_
    obtain ⟨q, es, ep, hq, q1, q2, q3, _, q4⟩ := d2
    have st : KT (upd G D (.dT (putK m k z))) (putK m k z) _ := (rel.put k eb rz).keeps fun c ys ec => by
      rw [upd_ne (ne_of ec e (fun w => nomatch w))]
      exact ec
    exact d_write I (by rw [e]; exact True.intro) sb ⟨q, hq⟩ ⟨by omega, hd, _, st, q, es, ep, hq, q1, q2, q3, q4⟩
/-- what a turn of the comprehension must do -/
def DcTurn (g : TG) (tt : TT) (tk tv : TE) (vs : List Nat) (r0 : L2.St) (D : Addr) (Nx : Hp → Prop) (x : V) : Hp → Prop := fun G1 =>
  g x (wipe r0 vs) G1 fun r2 G2 => wipe r2 vs = wipe r0 vs ∧ tt r2 G2 fun b G3 =>
    if b = true then tk r2 G3 fun y G4 => tv r2 G4 fun z G5 => ∃ G6, DPut G5 D y z G6 ∧ Nx G6 else Nx G3
/-- what an iterator must let it do, from the new dict on -/
def DcRun (J : It) (g : TG) (tt : TT) (tk tv : TE) (vs : List Nat) (r0 : L2.St) (Q : VK) (G1 : Hp) : Prop :=
  ∀ D, G1 D = none → ∃ W : Nat → Nat → Hp → Prop, (∃ m, W 0 m (upd G1 D (.dT []))) ∧ ∀ i m G2, W i m G2 →
    (J.stop i G2 ∧ Q (.ref D) G2) ∨ (J.go i G2 ∧ ∃ Nx : Hp → Prop, (∀ G3, Nx G3 → ∃ m', m' < m ∧ W (i + 1) m' G3) ∧ ∀ x G3, J.yld i G2 x G3 → DcTurn g tt tk tv vs r0 D Nx x G3)
/-- {(k1, k2): v for target in iter if ..} -/
def tDcT (wi : TI) (g : TG) (tt : TT) (tk tv : TE) (vs : List Nat) : TE := fun r0 G Q => wi r0 G fun J G1 => DcRun J g tt tk tv vs r0 Q G1
abbrev Blk (X : Cx) (scope : Scope) (F : Cx → Prop) : Prop :=
  ∀ (s1 : Shared) (G1 : Hp) (C : Addr) (cl : List (Str × Addr)) (fp : List Addr), F (X.blk s1 G1 scope (compEnvC scope cl C X.env) fp)
theorem dcT_core {Q : VK} {kx vx tg itx : Expr} {cs : List Expr} {scope : Scope} {own : List (Str × Nat)} {p1 p2 : Pos} {wi : TI} {g : TG} {tt : TT} {tk tv : TE} {us : Option (Value → Sem Unit)} {Qf : Value → Shared → Prop}
    (hc : X.calm = true) (hu : X.A.units + 1 < cLine) (hN : X.N.Nodup) (I : Inv X pp r0 G sh) (hi : PI X tg itx wi) (ok : BlkOk X.N X.env.scope scope own)
    (hg : Blk X scope fun Y => PG Y tg g) (ht : Blk X scope fun Y => PTs Y cs tt) (hk : Blk X scope fun Y => PE Y kx tk) (he : Blk X scope fun Y => PE Y vx tv)
    (hs : ∀ x, foldedSetIterable itx X.env x = pure x) (h : tDcT wi g tt tk tv (own.map (·.2)) r0 G Q)
    (out : ∀ D C s1 m G1, Inv X pp r0 G1 s1 → Q (.ref D) G1 → s1.heap.Ns C m → FpOk X pp G1 C → compPost (model X.prog X.w) X.A X.xe us Qf (.ref D) C (.ok .next) s1) :
    wpAny (model X.prog X.w) X.A (comprehension (.DictComp kx vx [⟨tg, itx, cs, 0⟩] scope p1) scope X.env p2 newDict false (eval itx X.env) us) Qf X.xe sh := by
  have cells : ∀ nm ∈ scope.names, nm.2 = .free → ∃ c, X.env.cells.lookup nm.1 = some c := fun nm hn e =>
    (ok.free nm hn e).elim (fun k => I.ok.has _ (.inl k)) fun k => I.ok.has _ (.inr k)
  refine wpAny_comprehension_free (use := us) rfl hs (closure_ok cells) ok.kind (fun nm hn e => by rw [ok.uniq nm hn, e]) ?_
  refine thn (hi.run pp sh r0 G _ I h) fun xv s1 hx => thn hx fun itv s2 got => ?_
  obtain ⟨it, fp, tn, J, G2, ei, I2, T, at2, free2, run⟩ := got
  subst ei
  refine wpAny_newObj_type (newEnv_comp ?_)
  generalize hD : s2.heap.objs.size = D
  have nD : G2 D = none := I2.hok.fresh (Nat.le_of_eq hD)
  obtain ⟨W, ⟨m0, w0⟩, turn⟩ := run D nD
  generalize es3 : ({ s2 with heap := s2.heap.push { cls := .type "dict", data := .dict #[] } } : Shared) = s3
  have hp3 : s3.heap = s2.heap.push { cls := .type "dict", data := .dict #[] } := by rw [← es3]
  have I3 : Inv X pp r0 (upd G2 D (.dT [])) s3 := by
    rw [← es3]
    refine I2.laid (t' := s2.toks) (fun b o z => Heap.get?_push_of_some _ z) (Nat.le_of_eq hD) ?_
    rw [← hD]
    exact dt_empty s2.heap I2.big
  have below : ∀ b ∈ fp, b < s2.heap.objs.size := fun b hb => (T.obj _ _ at2 b hb).elim fun o z => Heap.lt_size z.1
  have fp3 : ∀ b ∈ fp, FpOk X pp (upd G2 D (.dT [])) b ∧ b < s3.heap.objs.size := fun b hb => by
    have lt := below b hb
    have nb : b ≠ D := by rw [← hD]; exact Nat.ne_of_lt lt
    exact ⟨⟨(upd_ne nb).trans (free2 b hb).1, (free2 b hb).2⟩, by rw [hp3, Heap.size_push]; exact Nat.lt_succ_of_lt lt⟩
  have at3 : tn 0 s3.heap := T.keep _ _ _ at2 fun b _ o z => by rw [hp3]; exact Heap.get?_push_of_some _ z
  have I4 := block_start I3 ok hN fp3
  have dg := hg s3 (upd G2 D (.dT [])) s3.heap.objs.size (cellsFrom (s3.heap.objs.size + 1) scope.names (cloFrom X.env.cells scope.names [])) fp
  have dt := ht s3 (upd G2 D (.dT [])) s3.heap.objs.size (cellsFrom (s3.heap.objs.size + 1) scope.names (cloFrom X.env.cells scope.names [])) fp
  have dk := hk s3 (upd G2 D (.dT [])) s3.heap.objs.size (cellsFrom (s3.heap.objs.size + 1) scope.names (cloFrom X.env.cells scope.names [])) fp
  have dv := he s3 (upd G2 D (.dT [])) s3.heap.objs.size (cellsFrom (s3.heap.objs.size + 1) scope.names (cloFrom X.env.cells scope.names [])) fp
  have nfp : ∀ b ∈ fp, (upd G2 D (.dT [])) b = none := fun b hb => (fp3 b hb).1.1
  show codeAny _ _ (.compStart (.DictComp kx vx [⟨tg, itx, cs, 0⟩] scope p1) 0 (.ref it) (.ref D) (compEnvC scope (cellsFrom (s3.heap.objs.size + 1) scope.names (cloFrom X.env.cells scope.names [])) s3.heap.objs.size X.env)) _ _
  generalize hce : compEnvC scope (cellsFrom (s3.heap.objs.size + 1) scope.names (cloFrom X.env.cells scope.names [])) s3.heap.objs.size X.env = ce at I4 dg dt dk dv ⊢
  have cL : ce.locals = s3.heap.objs.size := by rw [← hce]; rfl
  generalize hG3 : upd G2 D (.dT []) = G3 at I3 I4 dg dt dk dv w0 nfp fp3
  generalize es4 : ({ s3 with heap := pushCells (s3.heap.push { cls := .type "dict", data := .dict #[] }) scope.names } : Shared) = s4 at I4 ⊢
  have at4 : tn 0 s4.heap := T.keep _ _ _ at3 fun b _ o z => by rw [← es4]; exact pushCells_keeps _ _ _ _ (Heap.get?_push_of_some _ z)
  have Y : ∃ Y : Cx, Y = X.blk s3 G3 scope ce fp := ⟨_, rfl⟩
  obtain ⟨Y, eY⟩ := Y
  rw [← eY] at I4 dg dt dk dv
  have Yc : Y.calm = true := by rw [eY]; exact hc
  have stays : ∀ {r2 : L2.St} {G4 : Hp} {s5 : Shared}, Inv Y [] r2 G4 s5 → (∀ b ∈ fp, G4 b = none) → ∀ b ∈ fp, FpOk Y [] G4 b := fun {r2 G4 s5} I5 nn b hb => by
    subst eY
    exact ⟨nn b hb, (I5.ok.exf b hb).1, I5.ok.exfs b hb, .inl hb, fun x c z => (I5.ok.exf b hb).2 x c z, fun q hq => by
      rw [List.nil_append] at hq
      cases hq⟩
  have loop : codeAny (model X.prog X.w) X.A (.compLoop (.DictComp kx vx [⟨tg, itx, cs, 0⟩] scope p1) 0 (.ref it) (.ref D) ce) (compPost (model X.prog X.w) X.A X.xe us Qf (.ref D) s3.heap.objs.size) s4 := by
    refine compLoop_anyD (fun n s5 => ∃ i G4, Inv Y [] (wipe r0 (own.map (·.2))) G4 s5 ∧ tn i s5.heap ∧ (∀ b ∈ fp, G4 b = none) ∧ W i n G4) ?_ m0 ⟨0, G3, I4, at4, nfp, w0⟩
    rintro n s5 ⟨i, G5, I5, at5, n5, w5⟩
    rcases turn i n G5 w5 with ⟨stop, last⟩ | ⟨go, Nx, hNx, step⟩
    · have td := T.done Y (by subst eY; rfl) (by subst eY; rfl) (by subst eY; rfl) Yc i [] s5 _ G5 (fun _ _ => False) I5 (stays I5 n5) at5 stop
      subst eY
      refine thnF td fun r s6 ⟨hr, I6⟩ => ?_
      subst hr
      have back : Inv X pp r0 G5 s6 := I3.call' (ch := fp) I6.os I6.base I6.hok I6.bare fun b hb => by
        obtain ⟨_, k1, k2, k3, k4, k5⟩ := (fp3 b hb).1
        exact ⟨k3, k1, k4, k5⟩
      have nC : G5 s3.heap.objs.size = none := by
        have z := I6.free
        rw [← cL]
        exact z
      obtain ⟨m, hm, _⟩ := I6.loc
      replace hm : s6.heap.Ns ce.locals m := hm
      rw [cL] at hm
      exact out D s3.heap.objs.size s6 m G5 back last hm (I3.fpOk (Nat.le_refl _) nC)
    · have ti := T.item Y (by subst eY; rfl) (by subst eY; rfl) (by subst eY; rfl) Yc i [] s5 _ G5 (fun _ _ => False) I5 (stays I5 n5) at5 go
      have Yp : Y.prog = X.prog := by subst eY; rfl
      have Yu : Y.A.units + 1 < cLine := by subst eY; exact hu
      subst eY
      refine thnF ti fun r s6 ⟨u, hr, more⟩ => ?_
      subst hr
      refine thnF more fun _ s7 ⟨x, G7, I7, rx, yx, at7, n7⟩ => ?_
      have P7 := I7.pinned (stays I7 n7) (T.obj _ _ at7)
      refine thnF (dg.run _ s7 _ G7 x u _ P7 rx (step x G7 yx)) fun _ s8 ⟨r8, G8, I8, wiped, q8⟩ => ?_
      refine thnF (dt.run _ s8 r8 G8 _ I8 q8) fun b s9 ⟨G9, I9, q9⟩ => ?_
      have after : ∀ {sz : Shared} {Gz : Hp}, Inv (X.blk s3 G3 scope ce fp) ([] ++ pinsAt fp s7.heap) r8 Gz sz → Nx Gz →
          ∃ m, m < n ∧ ∃ i G4, Inv (X.blk s3 G3 scope ce fp) [] (wipe r0 (own.map (·.2))) G4 sz ∧ tn i sz.heap ∧ (∀ b ∈ fp, G4 b = none) ∧ W i m G4 := fun {sz Gz} Iz nx => by
        obtain ⟨m1, lt1, w1⟩ := hNx Gz nx
        have held : ∀ b ∈ fp, ∀ o, s7.heap.get? b = some o → sz.heap.get? b = some o ∧ Gz b = none := fun b hb o z => by
          have k := Iz.pin (b, o) (List.mem_append_right _ (List.mem_append_right _ (mem_pinsAt hb z)))
          exact ⟨k.1, k.2.1⟩
        have same_len : (wipe r0 (own.map (·.2))).length = r8.length := by rw [← wiped, wipe_length]
        refine ⟨m1, lt1, i + 1, Gz, (Iz.unpinned (pins := [])).weak same_len (fun j v z => ?_), T.keep _ _ _ at7 fun b hb o z => (held b hb o z).1, fun b hb => ?_, w1⟩
        · rw [← wiped] at z
          exact (wipe_some z).1
        · obtain ⟨o, z, _⟩ := T.obj _ _ at7 b hb
          exact (held b hb o z).2
      cases b with
      | false =>
        replace q9 : Nx G9 := by simpa using q9
        show ∃ m, _
        exact after I9 q9
      | true =>
        replace q9 := (if_pos (rfl : true = true)).mp q9
        refine thnF (dk.run _ s9 r8 G9 _ I9 q9) fun z s10 ⟨y1, G10, I10, ry, q10⟩ => ?_
        refine thnF (dv.run _ s10 r8 G10 _ I10 q10) fun z2 s11 ⟨y2, G11, I11, rv, G12, put, nx⟩ => ?_
        exact d_storeT (X := X.blk s3 G3 scope ce fp) Yu I11 put ry rv fun s12 I12 => after I12 nx
  exact codeAny_compStart_dict loop (T.self X.A 0 _ _ _ at4 loop)
theorem pe_dcT {kx vx tg itx : Expr} {cs : List Expr} {scope : Scope} {own : List (Str × Nat)} {p1 : Pos} {wi : TI} {g : TG} {tt : TT} {tk tv : TE} (hc : X.calm = true) (hu : X.A.units + 1 < cLine) (hN : X.N.Nodup) (hi : PI X tg itx wi) (ok : BlkOk X.N X.env.scope scope own)
    (hg : Blk X scope fun Y => PG Y tg g) (ht : Blk X scope fun Y => PTs Y cs tt) (hk : Blk X scope fun Y => PE Y kx tk) (he : Blk X scope fun Y => PE Y vx tv) (hs : ∀ x, foldedSetIterable itx X.env x = pure x := by intro _; rfl) :
    PE X (.DictComp kx vx [⟨tg, itx, cs, 0⟩] scope p1) (tDcT wi g tt tk tv (own.map (·.2))) := by
  refine ⟨fun pins s σ H Q I h => ?_⟩
  rw [arm_eval_DictComp]
  refine dcT_core hc hu hN I hi ok hg ht hk he hs h fun D C s1 m G1 I1 q hn f => ⟨m, hn, fun h2 sb => ?_⟩
  obtain ⟨f0, f1, f2, f3, f4, f5⟩ := f
  exact ⟨.ref D, G1, I1.turned (t' := s1.toks) (fun b o hb z => (sb.2 b hb).trans z) f0 f1 f3 f4 f5, rfl, q⟩
/-- the target's name swaps with the new dict -/
theorem sw_trueD {kx vx : Expr} {cs : List Comprehension} {scope : Scope} {p1 p2 : Pos} {y : Str} {l : Nat} {env : Env} (h1 : env.scope.kind = .function) (h2 : env.scope.names.lookup y = some .local) (h3 : (p2.line == p1.line) = true)
    (h4 : (scope.names.any fun z => z.1 == y && (z.2 == .local || z.2 == .cell)) = false) : swapsWith (.DictComp kx vx cs scope p1) (some (.Name y p2)) l env = pure true := by
  have k1 : env.kindOf y = some .local := h2
  have k2 : env.blockKind = .function := by
    unfold Env.blockKind
    rw [h1]
    rfl
  unfold swapsWith
  simp only [k2, k1, Expr.pos, h3]
  have k3 : (scope.names.any fun (n, k) => n == y && (k == .local || k == .cell)) = false := h4
  simp only [k3]
  rfl
/-- y = {(k1, k2): v for ..} -/
theorem ps_setDcT {i : Nat} {y : Str} {p2 p3 : Pos} {kx vx tg itx : Expr} {cs : List Expr} {scope : Scope} {own : List (Str × Nat)} {p1 : Pos} {wi : TI} {g : TG} {tt : TT} {tk tv : TE} (hc : X.calm = true) (hu : X.A.units + 1 < cLine) (hN : X.N.Nodup) (hy : X.N[i]? = some y)
    (hl : X.env.scope.names.lookup y = some .local) (sw : swapsWith (.DictComp kx vx [⟨tg, itx, cs, 0⟩] scope p1) (some (.Name y p2)) p3.line X.env = pure true) (hi : PI X tg itx wi) (ok : BlkOk X.N X.env.scope scope own)
    (hg : Blk X scope fun Y => PG Y tg g) (ht : Blk X scope fun Y => PTs Y cs tt) (hk : Blk X scope fun Y => PE Y kx tk) (he : Blk X scope fun Y => PE Y vx tv) (hs : ∀ x, foldedSetIterable itx X.env x = pure x := by intro _; rfl) :
    PS X (.Assign [.Name y p2] (.DictComp kx vx [⟨tg, itx, cs, 0⟩] scope p1) p3) (tAsg (tDcT wi g tt tk tv (own.map (·.2))) (gName i)) := by
  refine ⟨fun pins s σ H D I h => ?_⟩
  rw [exec_Assign_Name_used _ _ _ _ sw]
  refine wpAny_bind (wpAny_standAt (wpAny_bind ?_))
  have h : tDcT wi g tt tk tv (own.map (·.2)) σ H (fun x G1 => gName i x σ G1 D.nx) := h
  refine wpAny_bind (thn (dcT_core (us := some (assign (.Name y p2) X.env)) (Qf := fun _ s1 => SP X pins D .next s1) hc hu hN I hi ok hg ht hk he hs h fun d C s1 m G1 I1 q hn f => ?_) fun _ s1 z => wpAny_pure (wpAny_pure z))
  obtain ⟨f0, f1, f2, f3, f4, f5⟩ := f
  refine wpAny_assign_Name (store_ok2 (v := V.ref d) I1 hN hy (.inl hl) rfl (fun s2 I2 got => ?_) (.inr hl))
  obtain ⟨c, sb, hcx⟩ := got
  have nC : C ≠ c := hcx.elim (fun z => by rw [z]; exact f1) fun z e => f4 y c z e.symm
  exact ⟨m, hn.sameBut sb nC, fun h3 sb3 => ⟨_, G1, I2.turned (t' := s2.toks) (fun b o hb z => (sb3.2 b hb).trans z) f0 f1 f3 f4 f5, q⟩⟩
end
section
variable {K : PySem.W.Frag} {σ : L2.St} {H : Hp} {Q : VK} {tx tk tv : TE} {ta : TA} {g : TG} {t : TT} {tu : TS} {D : Ends}
def rDcTL (K : PySem.W.Frag) (g : TG) (tt : TT) (tk tv : TE) (vs : List Nat) (σ : L2.St) (Q : VK) : VK := fun x G => ∃ a, x = .ref a ∧ (∃ xs, SqL K G a xs) ∧ DcRun (Itl K a) g tt tk tv vs σ Q G
theorem x_dcTL1 {vs : List Nat} (q : tx σ H (rDcTL K g t tk tv vs σ Q)) : tDcT (iList K tx) g t tk tv vs σ H Q := q
/-- over a list that stays: Pv of the dict's place, the turn, the heap -/
theorem x_dcTL {a : Addr} {xs : List V} {vs : List Nat} (Pv : Addr → Nat → Hp → Prop) (hx : SqL K H a xs) (h0 : ∀ d, Fr d H → Pv d 0 (upd H d (.dT []))) (hl : ∀ d i G, Fr d H → Pv d i G → SqL K G a xs)
    (hs : ∀ d, Fr d H → ∀ i x G, xs[i]? = some x → Pv d i G → DcTurn g t tk tv vs σ d (Pv d (i + 1)) x G) (hd : ∀ d G, Fr d H → Pv d xs.length G → Q (.ref d) G) : rDcTL K g t tk tv vs σ Q (.ref a) H := by
  refine ⟨a, rfl, ⟨xs, hx⟩, fun d hf => ⟨fun i m G => m = xs.length - i ∧ i ≤ xs.length ∧ Pv d i G, ⟨xs.length, by omega, Nat.zero_le _, h0 d ⟨hf⟩⟩, ?_⟩⟩
  rintro i m G ⟨rfl, hi, p⟩
  have sq := hl d i G ⟨hf⟩ p
  by_cases lt : i < xs.length
  · refine .inr ⟨⟨xs, xs[i], sq, List.getElem?_eq_getElem lt⟩, Pv d (i + 1), fun G3 p3 => ⟨xs.length - (i + 1), by omega, rfl, lt, p3⟩, fun x G3 y => ?_⟩
    obtain ⟨eG, y⟩ := y
    subst eG
    exact hs d ⟨hf⟩ i x _ (y xs sq) p
  · have ei : i = xs.length := by omega
    subst ei
    exact .inl ⟨⟨xs, sq, Nat.le_refl _⟩, hd d G ⟨hf⟩ p⟩
def rForE (K : PySem.W.Frag) (g : TG) (tu : TS) (D : Ends) (σ : L2.St) : List V → Hp → Prop := fun vs G => ∃ a xs, vs = [.ref a] ∧ SqL K G a xs ∧ ∃ W : Nat → Nat → L2.St → Hp → Prop, (∃ m, W 0 m σ G) ∧ ∀ i m r G, W i m r G →
  ((Ite K a).stop i G ∧ D.nx r G) ∨ ((Ite K a).go i G ∧ ∃ N : L2.St → Hp → Prop, (∀ r' G', N r' G' → ∃ m', m' < m ∧ W (i + 1) m' r' G') ∧ ∀ x G', (Ite K a).yld i G x G' → g x r G' fun r2 G2 => tu { D with nx := N, ct := N, bk := D.nx } r2 G2)
theorem x_forE1 (q : ta σ H (rForE K g tu D σ)) : tFor (iEnum K ta) g tu D σ H := q
/-- for .. in enumerate(a list that stays) -/
theorem x_forE {a : Addr} {xs : List V} (Pv : Nat → L2.St → Hp → Prop) (hx : SqL K H a xs) (p0 : Pv 0 σ H) (hl : ∀ i r G, i ≤ xs.length → Pv i r G → SqL K G a xs)
    (ps : ∀ i x r G T G', xs[i]? = some x → Pv i r G → Fr T G → Same G G' → G' T = some (.tup [.int (i : Nat), x]) → g (.ref T) r G' fun r2 G2 => tu { D with nx := Pv (i + 1), ct := Pv (i + 1), bk := D.nx } r2 G2)
    (pd : ∀ r G, Pv xs.length r G → D.nx r G) : rForE K g tu D σ [.ref a] H :=
  ⟨a, xs, rfl, hx, for_it walk_enum Pv p0 hl (fun i x r G G' hi p y => by
    obtain ⟨T, u, v, rfl, hT, rfl, e1, e2⟩ := y
    cases Option.some.inj e1
    exact ps i v r G T _ e2 p ⟨hT⟩ (same_new hT) upd_same) pd⟩
/-- a put of a pair of ints -/
theorem x_putT {d b : Addr} {kvs : List (List Key × V)} {k : List Key} {z : V} {Nx : Hp → Prop} (e : H d = some (.dT kvs)) (eb : H b = some (.tup (k.map kV))) (hl : kvs.length < 100000) (q : Nx (upd H d (.dT (putK kvs k z)))) : ∃ G6, DPut H d (.ref b) z G6 ∧ Nx G6 :=
  ⟨_, DPut.t e eb (size_lt hl), q⟩
theorem x_dnewT (k : ∀ p G, Fr p H → Same H G → G p = some (.dT []) → Q (.ref p) G) : tDNewT σ H Q := fun p hp => k p _ ⟨hp⟩ (same_new hp) upd_same
def rDNin (y : V) (Q : VK) : VK := fun x G => ∃ a o, x = .ref a ∧ DGet G a y o ∧ Q (.bl (!o.isSome)) G
theorem x_dnin {ty td : TE} (q : ty σ H fun y G => td σ G (rDNin y Q)) : tDNotIn ty td σ H Q := q
theorem x_dinT {d b : Addr} {kvs : List (List Key × V)} {k : List Key} (e : H d = some (.dT kvs)) (eb : H b = some (.tup (k.map kV))) (q : Q (.bl (valV kvs k).isSome) H) : rDInK (.ref b) Q (.ref d) H := ⟨d, _, rfl, DGet.t e eb, q⟩
theorem x_dninT {d b : Addr} {kvs : List (List Key × V)} {k : List Key} (e : H d = some (.dT kvs)) (eb : H b = some (.tup (k.map kV))) (q : Q (.bl (!(valV kvs k).isSome)) H) : rDNin (.ref b) Q (.ref d) H := ⟨d, _, rfl, DGet.t e eb, q⟩
end
end Xk

namespace Xk
open PySem PySem.Spec PyProof.Rows L2
/-- one turn of heapq's machine -/
abbrev hqc (l : Addr) (down : Bool) (pos top : Nat) (r : Value) (af : Int) : Code := .builtin "_heapq.heapify.sift" ⟨[.ref l, .bool false, .bool down, rawInt pos, rawInt top, r, rawInt af], []⟩
def swA (xs : Array Value) (i j : Nat) (x y : Value) : Array Value := (xs.setIfInBounds i y).setIfInBounds j x
theorem swA_size (xs : Array Value) (i j : Nat) (x y : Value) : (swA xs i j x y).size = xs.size := by
  unfold swA
  rw [Array.size_setIfInBounds, Array.size_setIfInBounds]
theorem sw_sz {xs : Array Value} {i j : Nat} {x y : Value} (hz : xs.size ≤ sizeLine) : ((xs.setIfInBounds i y).setIfInBounds j x).size ≤ sizeLine + 1 := by
  rw [Array.size_setIfInBounds, Array.size_setIfInBounds]
  omega
section
variable {prog : Program} {w : World} {A : Around} {E : Value → Shared → Prop} {s : Shared} {l : Addr} {o : Obj} {xs : Array Value} {n pos top : Nat} {r : Value} {af : Int} {P : Fin → Shared → Prop}
theorem hq_leaf (ho : s.heap.get? l = some o) (hd : o.data = .seq xs n) (h : ¬ pos < xs.size / 2) (k : P (.again (hqc l false pos top r af)) s) :
    wpAny (model prog w) A (Builtin.«_heapq.heapify.sift» ⟨[.ref l, .bool false, .bool true, rawInt pos, rawInt top, r, rawInt af], []⟩) P E s := by
  unfold Builtin.«_heapq.heapify.sift»
  wp_walk using (wpAny_seqItems ho hd)
  simp only [Int.toNat_natCast]
  exact k
theorem hq_one (ho : s.heap.get? l = some o) (hd : o.data = .seq xs n) (h : pos < xs.size / 2) (h2 : ¬ 2 * pos + 1 + 1 < xs.size) {x y : Value} (hx : xs[2 * pos + 1]? = some x) (hy : xs[pos]? = some y) (hz : xs.size ≤ sizeLine)
    (k : P (.again (hqc l true (2 * pos + 1) top r af)) { s with heap := s.heap.update l (Obj.mapSeq fun xs => swA xs (2 * pos + 1) pos x y) }) :
    wpAny (model prog w) A (Builtin.«_heapq.heapify.sift» ⟨[.ref l, .bool false, .bool true, rawInt pos, rawInt top, r, rawInt af], []⟩) P E s := by
  unfold Builtin.«_heapq.heapify.sift»
  wp_walk using (wpAny_seqItems ho hd)
  simp only [Int.toNat_natCast]
  rw [hx]
  wp_walk
  rw [hy]
  wp_walk using (wpAny_updateSeq (f := fun xs => (xs.setIfInBounds (2 * pos + 1) y).setIfInBounds pos x) ho hd (hz := hz) (_hz' := sw_sz hz))
  exact k
theorem hq_two (ho : s.heap.get? l = some o) (hd : o.data = .seq xs n) (h : pos < xs.size / 2) (h2 : 2 * pos + 1 + 1 < xs.size) {x z y : Value} {b : Bool} (hx : xs[2 * pos + 1]? = some x) (hz2 : xs[2 * pos + 1 + 1]? = some z) (hy : xs[pos]? = some y) (hz : xs.size ≤ sizeLine)
    (cmp : ∀ {Q : Value → Shared → Prop}, Q (.bool b) s → wpAny (model prog w) A (richCompare .Lt x z) Q E s)
    (k : P (.again (hqc l true (if b then 2 * pos + 1 else 2 * pos + 1 + 1) top r af)) { s with heap := s.heap.update l (Obj.mapSeq fun xs => swA xs (if b then 2 * pos + 1 else 2 * pos + 1 + 1) pos (if b then x else z) y) }) :
    wpAny (model prog w) A (Builtin.«_heapq.heapify.sift» ⟨[.ref l, .bool false, .bool true, rawInt pos, rawInt top, r, rawInt af], []⟩) P E s := by
  unfold Builtin.«_heapq.heapify.sift»
  wp_walk using (wpAny_seqItems ho hd)
  simp only [Int.toNat_natCast]
  rw [hx]
  wp_walk
  rw [hz2]
  wp_walk using cmp, (wpAny_seqItems ho hd)
  cases b with
  | true =>
    wp_walk using (wpAny_seqItems ho hd)
    rw [hx]
    wp_walk
    rw [hy]
    wp_walk using (wpAny_updateSeq (f := fun xs => (xs.setIfInBounds (2 * pos + 1) y).setIfInBounds pos x) ho hd (hz := hz) (_hz' := sw_sz hz))
    exact k
  | false =>
    wp_walk using (wpAny_seqItems ho hd)
    rw [hz2]
    wp_walk
    rw [hy]
    wp_walk using (wpAny_updateSeq (f := fun xs => (xs.setIfInBounds (2 * pos + 1 + 1) y).setIfInBounds pos z) ho hd (hz := hz) (_hz' := sw_sz hz))
    exact k
theorem hq_up (ho : s.heap.get? l = some o) (hd : o.data = .seq xs n) (h : top < pos) {x y : Value} {b : Bool} (hx : xs[pos]? = some x) (hy : xs[(pos - 1) / 2]? = some y) (hz : xs.size ≤ sizeLine)
    (cmp : ∀ {Q : Value → Shared → Prop}, Q (.bool b) s → wpAny (model prog w) A (richCompare .Lt x y) Q E s)
    (k : if b then P (.again (hqc l false ((pos - 1) / 2) top r af)) { s with heap := s.heap.update l (Obj.mapSeq fun xs => swA xs ((pos - 1) / 2) pos y x) } else if af < 0 then P (.done (.ret r)) s else P (.again (hqc l true af.toNat af.toNat r (af - 1))) s) :
    wpAny (model prog w) A (Builtin.«_heapq.heapify.sift» ⟨[.ref l, .bool false, .bool false, rawInt pos, rawInt top, r, rawInt af], []⟩) P E s := by
  unfold Builtin.«_heapq.heapify.sift»
  wp_walk using (wpAny_seqItems ho hd)
  simp only [Int.toNat_natCast]
  rw [hx]
  wp_walk
  rw [hy]
  wp_walk using cmp, (wpAny_seqItems ho hd)
  cases b with
  | true =>
    wp_walk using (wpAny_seqItems ho hd)
    rw [hy]
    wp_walk
    rw [hx]
    wp_walk using (wpAny_updateSeq (f := fun xs => (xs.setIfInBounds ((pos - 1) / 2) x).setIfInBounds pos y) ho hd (hz := hz) (_hz' := sw_sz hz))
    exact k
  | false =>
    rw [if_neg (by decide)] at k
    by_cases ha : af < 0
    · rw [if_pos ha] at k
      wp_walk
      exact k
    · rw [if_neg ha] at k
      wp_walk
      exact k
theorem hq_top (ho : s.heap.get? l = some o) (hd : o.data = .seq xs n) (h : ¬ top < pos)
    (k : if af < 0 then P (.done (.ret r)) s else P (.again (hqc l true af.toNat af.toNat r (af - 1))) s) :
    wpAny (model prog w) A (Builtin.«_heapq.heapify.sift» ⟨[.ref l, .bool false, .bool false, rawInt pos, rawInt top, r, rawInt af], []⟩) P E s := by
  unfold Builtin.«_heapq.heapify.sift»
  wp_walk using (wpAny_seqItems ho hd)
  by_cases ha : af < 0
  · rw [if_pos ha] at k ⊢
    wp_walk
    exact k
  · rw [if_neg ha] at k ⊢
    wp_walk
    exact k
end
/-! ### the heap's order -/
structure HOrd (lt : Value → Value → Bool) (S : Value → Prop) : Prop where
  asym : ∀ x y, S x → S y → lt x y = true → lt y x = false
  trans : ∀ x y z, S x → S y → S z → lt y x = false → lt z y = false → lt z x = false
section
variable {lt : Value → Value → Bool} {S : Value → Prop} {f : Nat → Value} {n pos top : Nat}
/-- from the place top on each stands behind what is above it -/
def HpF (lt : Value → Value → Bool) (f : Nat → Value) (n top : Nat) : Prop := ∀ i, 0 < i → i < n → top ≤ (i - 1) / 2 → lt (f i) (f ((i - 1) / 2)) = false
def DnF (lt : Value → Value → Bool) (f : Nat → Value) (n pos top : Nat) : Prop := (∀ i, 0 < i → i < n → top ≤ (i - 1) / 2 → i ≠ pos → (i - 1) / 2 ≠ pos → lt (f i) (f ((i - 1) / 2)) = false) ∧
  (top < pos → ∀ c, 0 < c → c < n → (c - 1) / 2 = pos → lt (f c) (f ((pos - 1) / 2)) = false)
def UpF (lt : Value → Value → Bool) (f : Nat → Value) (n pos top : Nat) : Prop := (∀ i, 0 < i → i < n → top ≤ (i - 1) / 2 → i ≠ pos → lt (f i) (f ((i - 1) / 2)) = false) ∧
  (top < pos → ∀ c, 0 < c → c < n → (c - 1) / 2 = pos → lt (f c) (f ((pos - 1) / 2)) = false)
/-- pos lies below top -/
inductive Desc (top : Nat) : Nat → Prop where
  | refl : Desc top top
  | step {p : Nat} (c : Nat) : Desc top p → 0 < c → (c - 1) / 2 = p → Desc top c
theorem Desc.ge {top pos : Nat} (d : Desc top pos) : top ≤ pos := by
  induction d with
  | refl => exact Nat.le_refl _
  | step c d h e ih => omega
theorem Desc.up {top pos : Nat} (d : Desc top pos) (h : top < pos) : Desc top ((pos - 1) / 2) := by
  cases d with
  | refl => omega
  | step c d h e => rw [e]; exact d
/-- two places exchanged -/
def exF (f : Nat → Value) (i j : Nat) : Nat → Value := fun k => if k = j then f i else if k = i then f j else f k
theorem down_leaf (h : ¬ pos < n / 2) (d : DnF lt f n pos top) : UpF lt f n pos top := ⟨fun i h0 hi ht hp => d.1 i h0 hi ht hp (by omega), d.2⟩
theorem down_step {c : Nat} (hc : c < n) (hp : (c - 1) / 2 = pos) (c0 : 0 < c) (hsm : ∀ i, i ≠ c → 0 < i → i < n → (i - 1) / 2 = pos → lt (f i) (f c) = false) (ht : top ≤ pos) (d : DnF lt f n pos top) : DnF lt (exF f c pos) n c top := by
  have e : ∀ k, k ≠ pos → k ≠ c → exF f c pos k = f k := fun k h1 h2 => by
    unfold exF
    rw [if_neg h1, if_neg h2]
  have ep : exF f c pos pos = f c := by
    unfold exF
    rw [if_pos rfl]
  refine ⟨fun i h0 hi htp hic hpc => ?_, fun htc c' h0 hi hcp => ?_⟩
  · by_cases h1 : i = pos
    · subst h1
      rw [ep, e _ (by omega) (by omega)]
      exact d.2 (by omega) c c0 hc hp
    · by_cases h2 : (i - 1) / 2 = pos
      · rw [h2, ep, e i h1 hic]
        exact hsm i hic h0 hi h2
      · rw [e i h1 hic, e _ h2 hpc]
        exact d.1 i h0 hi htp h1 h2
  · rw [hp, ep, e c' (by omega) (by omega)]
    have := d.1 c' h0 hi (by omega) (by omega) (by omega)
    rw [hcp] at this
    exact this
theorem up_step (T : HOrd lt S) (hS : ∀ i, i < n → S (f i)) (hn : pos < n) (ht : top < pos) (hd : top ≤ (pos - 1) / 2) (hd2 : top < (pos - 1) / 2 → top ≤ ((pos - 1) / 2 - 1) / 2) (hl : lt (f pos) (f ((pos - 1) / 2)) = true) (d : UpF lt f n pos top) :
    UpF lt (exF f ((pos - 1) / 2) pos) n ((pos - 1) / 2) top := by
  have hp : (pos - 1) / 2 < pos := by omega
  generalize hq : (pos - 1) / 2 = p at *
  have e : ∀ k, k ≠ pos → k ≠ p → exF f p pos k = f k := fun k h1 h2 => by
    unfold exF
    rw [if_neg h1, if_neg h2]
  have ep : exF f p pos pos = f p := by
    unfold exF
    rw [if_pos rfl]
  have eq : exF f p pos p = f pos := by
    unfold exF
    rw [if_neg (by omega), if_pos rfl]
  have hpn : p < n := by omega
  refine ⟨fun i h0 hi htp hip => ?_, fun htq c h0 hi hcp => ?_⟩
  · by_cases h1 : i = pos
    · subst h1
      rw [hq, ep, eq]
      exact T.asym _ _ (hS _ hn) (hS _ hpn) hl
    · have h3 := d.1 i h0 hi htp h1
      rw [e i h1 hip]
      by_cases h2 : (i - 1) / 2 = p
      · rw [h2, eq]
        rw [h2] at h3
        exact T.trans _ _ _ (hS _ hn) (hS _ hpn) (hS _ hi) (T.asym _ _ (hS _ hn) (hS _ hpn) hl) h3
      · by_cases h4 : (i - 1) / 2 = pos
        · rw [h4, ep]
          have h7 := d.2 ht i h0 hi h4
          rw [hq] at h7
          exact h7
        · rw [e _ h4 h2]
          exact h3
  · have hpp : (p - 1) / 2 < p := by omega
    have h5 := d.1 p (by omega) hpn (hd2 htq) (by omega)
    rw [e ((p - 1) / 2) (by omega) (by omega)]
    by_cases h1 : c = pos
    · rw [h1, ep]
      exact h5
    · rw [e c h1 (by omega)]
      have h6 := d.1 c h0 hi (by omega) h1
      rw [hcp] at h6
      exact T.trans _ _ _ (hS _ (by omega)) (hS _ hpn) (hS _ hi) h5 h6
theorem up_stop (hl : lt (f pos) (f ((pos - 1) / 2)) = false) (d : UpF lt f n pos top) : HpF lt f n top := fun i h0 hi ht => by
  by_cases h : i = pos
  · subst h
    exact hl
  · exact d.1 i h0 hi ht h
theorem up_top (d : UpF lt f n top top) : HpF lt f n top := fun i h0 hi ht => d.1 i h0 hi ht (by omega)
theorem next_down (h : HpF lt f n (top + 1)) : DnF lt f n top top := ⟨fun i h0 hi ht _ hp => h i h0 hi (by omega), fun h => absurd h (Nat.lt_irrefl _)⟩
/-- the first is least -/
theorem hp_least (T : HOrd lt S) (hS : ∀ i, i < n → S (f i)) (hr : ∀ x, S x → lt x x = false) (h : HpF lt f n 0) : ∀ i, i < n → lt (f i) (f 0) = false := by
  intro i
  induction i using Nat.strongRecOn with
  | ind i ih =>
    intro hi
    by_cases h0 : i = 0
    · subst h0
      exact hr _ (hS _ hi)
    · have h1 := ih ((i - 1) / 2) (by omega) (by omega)
      exact T.trans _ _ _ (hS _ (by omega)) (hS _ (by omega)) (hS _ hi) h1 (h i (by omega) hi (Nat.zero_le _))
end
/-! ### the machine runs -/
def fA (xs : Array Value) : Nat → Value := fun i => (xs[i]?).getD .none
theorem fA_at {xs : Array Value} {i : Nat} (h : i < xs.size) : xs[i]? = some (fA xs i) := by
  unfold fA
  rw [Array.getElem?_eq_getElem h] <;> rfl
theorem fA_mem {xs : Array Value} {i : Nat} (h : i < xs.size) : fA xs i ∈ xs := by
  have := fA_at h
  exact Array.mem_of_getElem? this
theorem fA_sw {xs : Array Value} {i j : Nat} (hi : i < xs.size) (hj : j < xs.size) (hij : i ≠ j) : fA (swA xs i j (fA xs i) (fA xs j)) = exF (fA xs) i j := by
  funext k
  unfold swA exF
  show (((xs.setIfInBounds i (fA xs j)).setIfInBounds j (fA xs i))[k]?).getD .none = _
  rw [Array.getElem?_setIfInBounds, Array.getElem?_setIfInBounds, Array.size_setIfInBounds]
  by_cases h1 : k = j
  · subst h1
    rw [if_pos rfl, if_pos hj, if_pos rfl] <;> rfl
  · rw [if_neg (Ne.symm h1), if_neg h1]
    by_cases h2 : k = i
    · subst h2
      rw [if_pos rfl, if_pos hi, if_pos rfl] <;> rfl
    · rw [if_neg (Ne.symm h2), if_neg h2] <;> rfl
theorem sw_perm {xs : Array Value} {i j : Nat} (hi : i < xs.size) (hj : j < xs.size) : (swA xs i j (fA xs i) (fA xs j)).Perm xs := by
  have h := Array.swap_perm (xs := xs) (i := i) (j := j) hi hj
  rw [Array.swap_def] at h
  unfold swA
  have e1 : fA xs i = xs[i] := by
    unfold fA
    rw [Array.getElem?_eq_getElem hi] <;> rfl
  have e2 : fA xs j = xs[j] := by
    unfold fA
    rw [Array.getElem?_eq_getElem hj] <;> rfl
  have e3 : xs.setIfInBounds i xs[j] = xs.set i xs[j] hi := by rw [Array.setIfInBounds_def, dif_pos hi]
  rw [e1, e2, e3, Array.setIfInBounds_def, dif_pos (by rw [Array.size_set]; exact hj)]
  exact h
/-- the list at l holds xs, all else stands as in h0 -/
structure HqAt (h0 : Heap) (l : Addr) (xs0 : Array Value) (h : Heap) (xs : Array Value) : Prop where
  at_ : ∃ n, h.get? l = some ({ cls := .type "list", data := .seq xs n } : Obj)
  keep : ∀ b o, b ≠ l → h0.get? b = some o → h.get? b = some o
  perm : xs.Perm xs0
theorem HqAt.mut {h0 h : Heap} {l : Addr} {xs0 xs : Array Value} {f : Array Value → Array Value} (H : HqAt h0 l xs0 h xs) (p : (f xs).Perm xs0) : HqAt h0 l xs0 (h.update l (Obj.mapSeq f)) (f xs) := by
  obtain ⟨n, e⟩ := H.at_
  refine ⟨⟨_, Heap.get?_update_self _ e rfl⟩, fun b o n2 e2 => ?_, p⟩
  rw [Heap.get?_update_of_ne _ (Ne.symm n2)]
  exact H.keep b o n2 e2
section
variable {prog : Program} {w : World} {A : Around} {R : Result → Shared → Prop} {s0 : Shared} {l : Addr} {xs0 : Array Value} {lt : Value → Value → Bool} {r : Value}
theorem hq_entry : entryFor table "_heapq.heapify.sift" = some Builtin.«_heapq.heapify.sift» := entryFor_of_tree (by kernel_rfl)
theorem hq_plain : plainId "_heapq.heapify.sift" = true := by decide +kernel
/-- x < y of what the list holds, whatever it holds where -/
def HqCmp (prog : Program) (w : World) (A : Around) (s0 : Shared) (l : Addr) (xs0 : Array Value) (lt : Value → Value → Bool) : Prop := ∀ (h : Heap) (x y : Value) (Q : Value → Shared → Prop) (E : Value → Shared → Prop), (∀ b o, b ≠ l → s0.heap.get? b = some o → h.get? b = some o) → x ∈ xs0 → y ∈ xs0 →
  Q (.bool (lt x y)) { s0 with heap := h } → wpAny (model prog w) A.in1 (richCompare .Lt x y) Q E { s0 with heap := h }
theorem hq_run (T : HOrd lt (· ∈ xs0)) (C : HqCmp prog w A s0 l xs0 lt) (hz : xs0.size ≤ sizeLine) (k : ∀ h xs, HqAt s0.heap l xs0 h xs → HpF lt (fA xs) xs.size 0 → R (.ok (.ret r)) { s0 with heap := h }) :
    ∀ (m : Nat) (down : Bool) (pos top : Nat) (h : Heap) (xs : Array Value), HqAt s0.heap l xs0 h xs → pos < xs.size → Desc top pos → (if down then DnF lt (fA xs) xs.size pos top else UpF lt (fA xs) xs.size pos top) →
      top * (2 * xs.size + 2) + (if down then xs.size + 1 + (xs.size - pos) else pos) < m → codeAny (model prog w) A (hqc l down pos top r ((top : Int) - 1)) R { s0 with heap := h }
  | 0, _, _, _, _, _, _, _, _, _, hm => absurd hm (Nat.not_lt_zero _)
  | m + 1, down, pos, top, h, xs, H, hp, hd, hi, hm => by
    obtain ⟨n, ho⟩ := H.at_
    have hsz : xs.size = xs0.size := H.perm.size_eq
    have hzx : xs.size ≤ sizeLine := by rw [hsz]; exact hz
    have mem : ∀ i, i < xs.size → fA xs i ∈ xs0 := fun i h => (H.perm.mem_iff).mp (fA_mem h)
    refine codeAny_builtin hq_entry ?_
    rw [Around.under_plainId hq_plain]
    have go : ∀ {h' : Heap} {down' : Bool} {pos' top' : Nat} {af : Int} {xs' : Array Value}, af = (top' : Int) - 1 → HqAt s0.heap l xs0 h' xs' → pos' < xs'.size → Desc top' pos' → (if down' then DnF lt (fA xs') xs'.size pos' top' else UpF lt (fA xs') xs'.size pos' top') →
        top' * (2 * xs'.size + 2) + (if down' then xs'.size + 1 + (xs'.size - pos') else pos') < m → (hqc l down' pos' top' r af).quiet = true ∧ codeAny (model prog w) A (hqc l down' pos' top' r af) R { s0 with heap := h' } := fun e a b c d f => ⟨plainId_quiet hq_plain _, by rw [e]; exact hq_run T C hz k m _ _ _ _ _ a b c d f⟩
    cases down with
    | true =>
      rw [if_pos rfl] at hi hm
      by_cases hlf : pos < xs.size / 2
      · have hl1 : 2 * pos + 1 < xs.size := by omega
        have step : ∀ c, c < xs.size → (c - 1) / 2 = pos → 0 < c → (∀ i, i ≠ c → 0 < i → i < xs.size → (i - 1) / 2 = pos → lt (fA xs i) (fA xs c) = false) →
            (hqc l true c top r ((top : Int) - 1)).quiet = true ∧ codeAny (model prog w) A (hqc l true c top r ((top : Int) - 1)) R { s0 with heap := h.update l (Obj.mapSeq fun zs => swA zs c pos (fA xs c) (fA xs pos)) } := fun c hc e c0 hs => by
          have p := sw_perm hc hp
          refine go (xs' := swA xs c pos (fA xs c) (fA xs pos)) rfl (H.mut (f := fun zs => swA zs c pos (fA xs c) (fA xs pos)) (p.trans H.perm)) (by rw [swA_size]; exact hc) (hd.step c c0 e) ?_ ?_
          · rw [if_pos rfl, swA_size, fA_sw hc hp (by omega)]
            exact down_step hc e c0 hs hd.ge hi
          · rw [if_pos rfl, swA_size]
            generalize top * (2 * xs.size + 2) = M at *
            omega
        by_cases h2 : 2 * pos + 1 + 1 < xs.size
        · refine hq_two (b := lt (fA xs (2 * pos + 1)) (fA xs (2 * pos + 1 + 1))) ho rfl hlf h2 (fA_at hl1) (fA_at h2) (fA_at hp) hzx (fun hq => C h _ _ _ _ H.keep (mem _ hl1) (mem _ h2) hq) ?_
          cases hb : lt (fA xs (2 * pos + 1)) (fA xs (2 * pos + 1 + 1)) with
          | true =>
            refine step (2 * pos + 1) hl1 (by omega) (by omega) fun i h1 h3 h4 h5 => ?_
            obtain rfl : i = 2 * pos + 1 + 1 := by omega
            exact T.asym _ _ (mem _ hl1) (mem _ h2) hb
          | false =>
            refine step (2 * pos + 1 + 1) h2 (by omega) (by omega) fun i h1 h3 h4 h5 => ?_
            obtain rfl : i = 2 * pos + 1 := by omega
            exact hb
        · refine hq_one ho rfl hlf h2 (fA_at hl1) (fA_at hp) hzx (step (2 * pos + 1) hl1 (by omega) (by omega) fun i h1 h3 h4 h5 => ?_)
          omega
      · refine hq_leaf ho rfl hlf ?_
        refine go rfl H hp hd ?_ ?_
        · exact down_leaf hlf hi
        · rw [if_neg (by decide)]
          generalize top * (2 * xs.size + 2) = M at *
          omega
    | false =>
      rw [if_neg (by decide)] at hi hm
      have fin : ∀ (hh : HpF lt (fA xs) xs.size top) (m2 : top * (2 * xs.size + 2) ≤ m), if (top : Int) - 1 < 0 then R (.ok (.ret r)) { s0 with heap := h } else (hqc l true ((top : Int) - 1).toNat ((top : Int) - 1).toNat r ((top : Int) - 1 - 1)).quiet = true ∧ codeAny (model prog w) A (hqc l true ((top : Int) - 1).toNat ((top : Int) - 1).toNat r ((top : Int) - 1 - 1)) R { s0 with heap := h } := fun hh m2 => by
        by_cases h0 : (top : Int) - 1 < 0
        · rw [if_pos h0]
          obtain rfl : top = 0 := by omega
          exact k h xs H hh
        · rw [if_neg h0]
          obtain ⟨t, rfl⟩ : ∃ t, top = t + 1 := ⟨top - 1, by omega⟩
          have et : (((t + 1 : Nat) : Int) - 1).toNat = t := by omega
          rw [et]
          have hge := hd.ge
          refine go (by omega) H (by omega) .refl ?_ ?_
          · rw [if_pos rfl]
            exact next_down hh
          · rw [if_pos rfl]
            rw [Nat.succ_mul] at m2
            generalize t * (2 * xs.size + 2) = M at *
            omega
      by_cases ht : top < pos
      · have hdu := hd.up ht
        have hpp : (pos - 1) / 2 < xs.size := by omega
        refine hq_up (b := lt (fA xs pos) (fA xs ((pos - 1) / 2))) ho rfl ht (fA_at hp) (fA_at hpp) hzx (fun hq => C h _ _ _ _ H.keep (mem _ hp) (mem _ hpp) hq) ?_
        cases hb : lt (fA xs pos) (fA xs ((pos - 1) / 2)) with
        | true =>
          rw [if_pos rfl]
          have p := sw_perm hpp hp
          refine go (xs' := swA xs ((pos - 1) / 2) pos (fA xs ((pos - 1) / 2)) (fA xs pos)) rfl (H.mut (f := fun zs => swA zs ((pos - 1) / 2) pos (fA xs ((pos - 1) / 2)) (fA xs pos)) (p.trans H.perm)) (by rw [swA_size]; exact hpp) hdu ?_ ?_
          · rw [if_neg (by decide), swA_size, fA_sw hpp hp (by omega)]
            exact up_step T mem hp ht hdu.ge (fun h3 => (hdu.up h3).ge) hb hi
          · rw [if_neg (by decide), swA_size]
            generalize top * (2 * xs.size + 2) = M at *
            omega
        | false =>
          rw [if_neg (by decide)]
          refine fin (up_stop hb hi) ?_
          generalize top * (2 * xs.size + 2) = M at *
          omega
      · have hge := hd.ge
        obtain rfl : top = pos := by omega
        refine hq_top ho rfl ht (fin (up_top hi) ?_)
        generalize top * (2 * xs.size + 2) = M at *
        omega
end
end Xk

namespace Xk
open PySem PySem.Spec PyProof.Rows L2
section
variable {prog : Program} {w : World} {A : Around} {E : Value → Shared → Prop} {s : Shared} {l : Addr} {o : Obj} {xs : Array Value} {n pos top : Nat} {r : Value} {P : Fin → Shared → Prop}
theorem hq_heapify (ho : s.heap.get? l = some ({ cls := .type "list", data := .seq xs n } : Obj)) (hn : xs.size ≤ 2500) (k1 : xs.size < 2 → P (.done (.ret .none)) s) (k2 : ¬ xs.size < 2 → P (.again (hqc l true (xs.size / 2 - 1) (xs.size / 2 - 1) .none ((xs.size / 2 : Nat) - 2 : Int))) s) :
    wpAny (model prog w) A (Builtin.«_heapq.heapify» ⟨[.ref l], []⟩) P E s := by
  have hT : s.TypeIs (.ref l) "list" := ⟨_, ho, rfl⟩
  have hs : isSubtype (.type "list") (.type "list") = pure true := by first | rfl | kernel_rfl | (rw [isSubtype_type]; kernel_rfl)
  unfold Builtin.«_heapq.heapify»
  wp_walk using (wpAny_seqItems ho rfl)
  by_cases h : xs.size < 2
  · rw [if_pos h]
    wp_walk
    exact k1 h
  · rw [if_neg h]
    wp_walk
    exact k2 h
theorem hq_push {x : Value} (ho : s.heap.get? l = some ({ cls := .type "list", data := .seq xs n } : Obj)) (hz : xs.size ≤ sizeLine) (k2 : P (.again (hqc l false xs.size 0 .none (-1))) { s with heap := s.heap.update l (Obj.mapSeq (·.push x)) }) :
    wpAny (model prog w) A (Builtin.«_heapq.heappush» ⟨[.ref l, x], []⟩) P E s := by
  have hT : s.TypeIs (.ref l) "list" := ⟨_, ho, rfl⟩
  have hs : isSubtype (.type "list") (.type "list") = pure true := by first | rfl | kernel_rfl | (rw [isSubtype_type]; kernel_rfl)
  unfold Builtin.«_heapq.heappush»
  wp_walk using (wpAny_updateSeq (f := fun zs => zs.push x) ho rfl (hz := hz) (_hz' := by rw [Array.size_push]; omega))
  have e : ((fun zs : Array Value => zs.push x) xs).size - 1 = xs.size := by
    show (xs.push x).size - 1 = xs.size
    rw [Array.size_push]
    rfl
  rw [e]
  exact k2
theorem hq_pop (ho : s.heap.get? l = some ({ cls := .type "list", data := .seq xs n } : Obj)) (hz : xs.size ≤ sizeLine) {y x0 : Value} (hy : xs.back? = some y) (hx : xs[0]? = some x0)
    (k1 : xs.size = 1 → P (.done (.ret y)) { s with heap := s.heap.update l (Obj.mapSeq fun x => x.pop) })
    (k2 : xs.size ≠ 1 → P (.again (hqc l true 0 0 x0 (-1))) { s with heap := (s.heap.update l (Obj.mapSeq fun x => x.pop)).update l (Obj.mapSeq fun x => x.setIfInBounds 0 y) }) :
    wpAny (model prog w) A (Builtin.«_heapq.heappop» ⟨[.ref l], []⟩) P E s := by
  have hT : s.TypeIs (.ref l) "list" := ⟨_, ho, rfl⟩
  have hs : isSubtype (.type "list") (.type "list") = pure true := by first | rfl | kernel_rfl | (rw [isSubtype_type]; kernel_rfl)
  unfold Builtin.«_heapq.heappop»
  wp_walk using (wpAny_seqItems ho rfl)
  rw [hy]
  wp_walk using (wpAny_updateSeq (f := fun x => x.pop) ho rfl (hz := hz) (_hz' := by rw [Array.size_pop]; omega))
  by_cases h : xs.size = 1
  · rw [if_pos (by simp [h])]
    wp_walk
    exact k1 h
  · rw [if_neg (by simp [h])]
    wp_walk
    rw [hx]
    have e := Heap.get?_update_self (Obj.mapSeq fun x : Array Value => x.pop) ho rfl
    wp_walk using (wpAny_updateSeq (f := fun x => x.setIfInBounds 0 y) e rfl (hz := by rw [Array.size_pop]; omega) (_hz' := by rw [Array.size_setIfInBounds, Array.size_pop]; omega))
    exact k2 h
end
/-! ### told of the abstract heap -/
theorem tupLt (xs ys : List Int) : PySem.W.dataLt (.tuple (xs.map .int)) (.tuple (ys.map .int)) = decide (xs < ys) := (PySem.W.dataLt_tuple _ _).trans (PySem.W.dataLt_ints xs ys)
theorem eqv_tup (xs ys : List Int) : PyData.eqv (.tuple (xs.map .int)) (.tuple (ys.map .int)) = decide (xs = ys) := by
  have h := PySem.W.Datum.eqv (α := PySem.W.Tup Int) ⟨xs⟩ ⟨ys⟩
  refine Eq.trans h ?_
  exact decide_eq_decide.mpr ⟨fun e => by injection e, fun e => by rw [e]⟩
def vR (as : List Addr) : Array Value := (as.map Value.ref).toArray
def ltK (key : Addr → List Int) : Value → Value → Bool
  | .ref a, .ref b => decide (key a < key b)
  | _, _ => false
/-- the list of tuples is a heap by what they hold -/
def HpK (key : Addr → List Int) (as : List Addr) : Prop := HpF (ltK key) (fA (vR as)) as.length 0
theorem ltK_ord (key : Addr → List Int) (S : Value → Prop) (hS : ∀ v, S v → ∃ a, v = .ref a) : HOrd (ltK key) S := by
  constructor
  · intro x y hx hy h
    obtain ⟨a, rfl⟩ := hS x hx
    obtain ⟨b, rfl⟩ := hS y hy
    have h : key a < key b := of_decide_eq_true h
    exact decide_eq_false (List.lt_asymm h)
  · intro x y z hx hy hz h1 h2
    obtain ⟨a, rfl⟩ := hS x hx
    obtain ⟨b, rfl⟩ := hS y hy
    obtain ⟨c, rfl⟩ := hS z hz
    have h1 : ¬ key b < key a := of_decide_eq_false h1
    have h2 : ¬ key c < key b := of_decide_eq_false h2
    refine decide_eq_false ?_
    rw [List.not_lt] at *
    exact List.le_trans h1 h2
theorem vR_size (as : List Addr) : (vR as).size = as.length := by
  unfold vR
  rw [List.size_toArray, List.length_map]
theorem vR_mem {as : List Addr} {v : Value} (h : v ∈ vR as) : ∃ a ∈ as, v = .ref a := by
  unfold vR at h
  obtain ⟨a, h1, h2⟩ := List.mem_map.mp (List.mem_toArray.mp h)
  exact ⟨a, h1, h2.symm⟩
theorem vals_refs : ∀ {as : List Addr} {its : List Value}, Vals (as.map V.ref) its → its = as.map Value.ref
  | [], its, h => by
    cases h
    rfl
  | a :: as, its, h => by
    cases h with
    | cons h1 h2 =>
      rw [vals_refs h2]
      have h1 : _ = Value.ref a := h1
      rw [h1]
      rfl
theorem refs_vals : ∀ as : List Addr, Vals (as.map V.ref) (as.map Value.ref)
  | [] => .nil
  | a :: as => .cons rfl (refs_vals as)
theorem perm_refs {ys : Array Value} {as : List Addr} (h : ys.Perm (vR as)) : ∃ zs : List Addr, zs.Perm as ∧ ys = vR zs := by
  have h1 : ys.toList.Perm (as.map Value.ref) := Array.perm_iff_toList_perm.mp h
  let un : Value → Addr := fun v => match v with
    | .ref a => a
    | _ => 0
  have e : (as.map Value.ref).map un = as := by
    rw [List.map_map]
    exact List.map_id as
  refine ⟨ys.toList.map un, ?_, ?_⟩
  · have h2 := h1.map un
    rw [e] at h2
    exact h2
  · unfold vR
    rw [List.map_map]
    have h3 : ys.toList.map (Value.ref ∘ un) = ys.toList := by
      have : ∀ l : List Value, (∀ v ∈ l, v ∈ as.map Value.ref) → l.map (Value.ref ∘ un) = l := fun l hl => by
        induction l with
        | nil => rfl
        | cons v r ih =>
          obtain ⟨a, _, rfl⟩ := List.mem_map.mp (hl v (List.mem_cons_self ..))
          rw [List.map_cons, ih fun u hu => hl u (List.mem_cons_of_mem _ hu)]
          rfl
      exact this _ fun v hv => h1.mem_iff.mp hv
    rw [h3]
theorem ints_read (h : Heap) : ∀ {ks : List Int} {its : List Value}, Vals (ks.map V.int) its → ReadsAll h its (ks.map .int) []
  | [], its, r => by
    cases r
    exact .nil
  | k :: ks, its, r => by
    cases r with
    | cons r1 r2 =>
      obtain ⟨t, rfl⟩ := r1
      exact .cons (as := []) (bs := []) (.int k t) (ints_read h r2)
theorem ints_alike : ∀ xs ys : List Int, PySem.W.alikeAll (xs.map .int) (ys.map .int) = true
  | [], [] => rfl
  | [], _ :: _ => rfl
  | _ :: _, [] => rfl
  | x :: xs, y :: ys => by
    show (PySem.W.alike (.int x) (.int y) && PySem.W.alikeAll (xs.map .int) (ys.map .int)) = true
    rw [ints_alike xs ys]
    rfl
theorem ints_depth : ∀ xs : List Int, PyData.depthAll (xs.map .int) = 0
  | [] => rfl
  | x :: xs => by
    show max 0 (PyData.depthAll (xs.map .int)) = 0
    rw [ints_depth xs]
    rfl
section
variable {X : Cx} {pins : List (Addr × Obj)} {σ : L2.St} {H : Hp} {s : Shared} {key : Addr → List Int}
theorem hq_cmp {l : Addr} {as : List Addr} {n : Nat} {xs0 : Array Value} (hu : X.A.units + 64 < cLine) (I : Inv X pins σ H s) (hl : s.heap.get? l = some ({ cls := .type "list", data := .seq xs0 n } : Obj)) (ht : ∀ b ∈ as, SqT X.K H b ((key b).map V.int)) : HqCmp X.prog X.w X.A s l (vR as) (ltK key) := by
  intro h x y Q E keep hx hy q
  obtain ⟨a, ha, rfl⟩ := vR_mem hx
  obtain ⟨b, hb, rfl⟩ := vR_mem hy
  have rd : ∀ b ∈ as, Reads h (.ref b) (.tuple ((key b).map .int)) [] := fun b hb => by
    obtain ⟨its, rv, ⟨o, e1, e2, n2, e3⟩, _⟩ := I.tuple (ht b hb)
    have hne : b ≠ l := fun z => by
      rw [z, hl] at e1
      rw [← Option.some.inj e1] at e2
      have e4 : ("list" : String) = "tuple" := by injection e2
      exact absurd e4 (by decide)
    exact .tuple (keep b o hne e1) e2 e3 (ints_read h rv)
  have e : ltK key (.ref a) (.ref b) = PySem.W.dataLt (.tuple ((key a).map .int)) (.tuple ((key b).map .int)) := (tupLt _ _).symm
  rw [e] at q
  refine PySem.W.rcLt_alike _ _ X.A.in1 { s with heap := h } _ _ [] [] (rd a ha) (rd b hb) (by show PySem.W.alike (.tuple _) (.tuple _) = true; simp only [PySem.W.alike]; exact ints_alike _ _) (fun z => by cases z) ?_ X.prog X.w E Q q
  have d : (PyData.tuple ((key a).map .int)).depth = 1 := by
    show PyData.depthAll ((key a).map .int) + 1 = 1
    rw [ints_depth]
  have := Nat.min_le_left (PyData.tuple ((key a).map .int)).depth (PyData.tuple ((key b).map .int)).depth
  have hA : X.A.in1.units ≤ X.A.units + 1 := Nat.le_refl _
  omega
theorem hq_inv {l : Addr} {as zs : List Addr} {h : Heap} {xs : Array Value} (I : Inv X pins σ H s) {xs0 : List V} (hl : H l = some (.lst xs0)) (hA : HqAt s.heap l (vR as) h (vR zs)) (hz : zs.length ≤ sizeLine) : Inv X pins σ (upd H l (.lst (zs.map V.ref))) { s with heap := h } := by
  obtain ⟨n, e⟩ := hA.at_
  refine I.write (t' := s.toks) (x := l) (e := l) (by rw [hl]; exact True.intro) (.inl rfl) hA.keep ⟨_, e⟩ ?_
  exact ⟨by rw [List.length_map]; exact hz, zs.map Value.ref, n, refs_vals zs, e⟩
theorem hq_inv' {l : Addr} {as zs : List Addr} {h : Heap} {xs : Array Value} {xs0 : List V} (I : Inv X pins σ H s) (hl : H l = some (.lst xs0)) (hA : HqAt s.heap l (vR as) h (vR zs)) (hz : zs.length ≤ sizeLine) : Inv X pins σ (upd H l (.lst (zs.map V.ref))) { s with heap := h } := hq_inv (xs := xs) I hl hA hz
theorem desc0 (n : Nat) : Desc 0 n := by
  induction n using Nat.strongRecOn with
  | ind n ih =>
    by_cases h : n = 0
    · rw [h]
      exact .refl
    · exact .step n (ih ((n - 1) / 2) (by omega)) (by omega) rfl
def rHeapify (K : PySem.W.Frag) : List V → Hp → VK → Prop := fun vs H Q => ∃ (l : Addr) (as : List Addr) (key : Addr → List Int), vs = [.ref l] ∧ H l = some (.lst (as.map V.ref)) ∧ (∀ b ∈ as, SqT K H b ((key b).map V.int)) ∧ as.length ≤ 2000 ∧
  ∀ zs, zs.Perm as → HpK key zs → Q .non (upd H l (.lst (zs.map V.ref)))
def rHeappush (K : PySem.W.Frag) : List V → Hp → VK → Prop := fun vs H Q => ∃ (l x : Addr) (as : List Addr) (key : Addr → List Int), vs = [.ref l, .ref x] ∧ H l = some (.lst (as.map V.ref)) ∧ (∀ b ∈ as ++ [x], SqT K H b ((key b).map V.int)) ∧ as.length ≤ 2000 ∧ HpK key as ∧
  ∀ zs, zs.Perm (as ++ [x]) → HpK key zs → Q .non (upd H l (.lst (zs.map V.ref)))
def rHeappop (K : PySem.W.Frag) : List V → Hp → VK → Prop := fun vs H Q => ∃ (l : Addr) (as : List Addr) (key : Addr → List Int), vs = [.ref l] ∧ H l = some (.lst (as.map V.ref)) ∧ (∀ b ∈ as, SqT K H b ((key b).map V.int)) ∧ as.length ≤ 2000 ∧ as ≠ [] ∧ HpK key as ∧
  ∀ r zs, (r :: zs).Perm as → (∀ b ∈ as, ¬ key b < key r) → HpK key zs → Q (.ref r) (upd H l (.lst (zs.map V.ref)))
theorem sz2000 {n : Nat} (h : n ≤ 2001) : n ≤ sizeLine := by
  rw [sizeLine_eq]
  omega
theorem call_heapify (hu : X.A.units + 64 < cLine) : CallR X (.builtin "_heapq.heapify") (rHeapify X.K) := by
  intro pins s σ H vs us Q I r q
  obtain ⟨l, as, key, rfl, hl, ht, hlen, k⟩ := q
  obtain ⟨u, rfl, ru⟩ := vals1 r
  have ru : u = .ref l := ru
  subst ru
  obtain ⟨its, n, rv, ho, hz⟩ := I.lst hl
  have ei := vals_refs rv
  subst ei
  have ho : s.heap.get? l = some ({ cls := .type "list", data := .seq (vR as) n } : Obj) := ho
  have hsz := vR_size as
  have kind : builtinKind "_heapq.heapify" = none := by decide +kernel
  refine call_function_tree kind (by decide +kernel) (b := Builtin.«_heapq.heapify») (entryFor_of_tree (by kernel_rfl)) (by unfold argsOk; kernel_rfl) ?_
  have hH : HqAt s.heap l (vR as) s.heap (vR as) := ⟨⟨n, ho⟩, fun _ _ _ e => e, .rfl⟩
  have fin : ∀ h xs, HqAt s.heap l (vR as) h xs → HpF (ltK key) (fA xs) xs.size 0 → EP X pins σ Q .none { s with heap := h } := fun h xs hA hp => by
    obtain ⟨zs, pz, rfl⟩ := perm_refs hA.perm
    rw [vR_size] at hp
    exact ⟨.non, _, hq_inv (xs := vR as) I hl hA (by rw [pz.length_eq]; exact sz2000 (by omega)), rfl, k zs pz hp⟩
  refine hq_heapify ho (by omega) (fun h => ?_) fun h => ?_
  · refine fin s.heap (vR as) hH fun i h0 hi _ => ?_
    omega
  · rw [hsz] at h ⊢
    have e : ((as.length / 2 : Nat) : Int) - 2 = ((as.length / 2 - 1 : Nat) : Int) - 1 := by omega
    rw [e]
    refine ⟨plainId_quiet hq_plain _, ?_⟩
    refine hq_run (lt := ltK key) (xs0 := vR as) (ltK_ord key _ fun v hv => (vR_mem hv).elim fun a h => ⟨a, h.2⟩) (hq_cmp hu I ho ht) (by rw [hsz]; exact sz2000 (by omega)) (fun h' xs hA hp => fin h' xs hA hp) _ true _ _ s.heap (vR as) hH (by rw [hsz]; omega) .refl ?_ (Nat.lt_succ_self _)
    rw [if_pos rfl, hsz]
    refine ⟨fun i h0 hi ht2 _ hp => ?_, fun z => absurd z (Nat.lt_irrefl _)⟩
    omega
theorem fA_vR {as : List Addr} {i : Nat} {a : Addr} (h : as[i]? = some a) : fA (vR as) i = .ref a := by
  unfold fA vR
  rw [List.getElem?_toArray, List.getElem?_map, h] <;> rfl
theorem vR_push (as : List Addr) (x : Addr) : (vR as).push (.ref x) = vR (as ++ [x]) := by
  unfold vR
  rw [List.map_append, List.push_toArray]
  rfl
theorem call_heappush (hu : X.A.units + 64 < cLine) : CallR X (.builtin "_heapq.heappush") (rHeappush X.K) := by
  intro pins s σ H vs us Q I r q
  obtain ⟨l, x, as, key, rfl, hl, ht, hlen, hh, k⟩ := q
  obtain ⟨u, u2, rfl, ru, ru2⟩ := vals2 r
  have ru : u = .ref l := ru
  have ru2 : u2 = .ref x := ru2
  subst ru
  subst ru2
  obtain ⟨its, n, rv, ho, hz⟩ := I.lst hl
  have ei := vals_refs rv
  subst ei
  have ho : s.heap.get? l = some ({ cls := .type "list", data := .seq (vR as) n } : Obj) := ho
  have hsz := vR_size as
  have hsz2 : (vR (as ++ [x])).size = as.length + 1 := by rw [vR_size, List.length_append]; rfl
  have kind : builtinKind "_heapq.heappush" = none := by decide +kernel
  refine call_function_tree kind (by decide +kernel) (b := Builtin.«_heapq.heappush») (entryFor_of_tree (by kernel_rfl)) (by unfold argsOk; kernel_rfl) ?_
  have e := Heap.get?_update_self (Obj.mapSeq fun zs : Array Value => zs.push (.ref x)) ho rfl
  have hH : HqAt s.heap l (vR (as ++ [x])) (s.heap.update l (Obj.mapSeq fun zs => zs.push (.ref x))) (vR (as ++ [x])) := by
    rw [← vR_push]
    refine ⟨⟨_, e⟩, fun b o n2 e2 => ?_, .rfl⟩
    rw [Heap.get?_update_of_ne _ (Ne.symm n2)]
    exact e2
  have fin : ∀ h xs, HqAt s.heap l (vR (as ++ [x])) h xs → HpF (ltK key) (fA xs) xs.size 0 → EP X pins σ Q .none { s with heap := h } := fun h xs hA hp => by
    obtain ⟨zs, pz, rfl⟩ := perm_refs hA.perm
    rw [vR_size] at hp
    have hl2 := pz.length_eq
    rw [List.length_append] at hl2
    exact ⟨.non, _, hq_inv' (as := as ++ [x]) (xs := vR as) I hl hA (sz2000 (by simp at hl2; omega)), rfl, k zs pz hp⟩
  refine hq_push ho (by rw [hsz]; exact sz2000 (by omega)) ?_
  rw [hsz]
  refine ⟨plainId_quiet hq_plain _, ?_⟩
  refine hq_run (lt := ltK key) (xs0 := vR (as ++ [x])) (ltK_ord key _ fun v hv => (vR_mem hv).elim fun a h => ⟨a, h.2⟩) (hq_cmp hu I ho ht) (by rw [hsz2]; exact sz2000 (by omega)) (fun h' xs hA hp => fin h' xs hA hp) _ false as.length 0 _ (vR (as ++ [x])) hH (by rw [hsz2]; omega) (desc0 _) ?_ (Nat.lt_succ_self _)
  rw [if_neg (by decide), hsz2]
  have same : ∀ i, i < as.length → fA (vR (as ++ [x])) i = fA (vR as) i := fun i hi => by
    obtain ⟨a, ha⟩ := Xk.lt_at hi
    rw [fA_vR ha, fA_vR (a := a) (by rw [List.getElem?_append_left hi]; exact ha)]
  refine ⟨fun i h0 hi ht2 hp => ?_, fun z c h0 hc hp => ?_⟩
  · rw [same i (by omega), same _ (by omega)]
    exact hh i h0 (by omega) (Nat.zero_le _)
  · omega
theorem call_heappop (hu : X.A.units + 64 < cLine) : CallR X (.builtin "_heapq.heappop") (rHeappop X.K) := by
  intro pins s σ H vs us Q I r q
  obtain ⟨l, as, key, rfl, hl, ht, hlen, hne, hh, k⟩ := q
  obtain ⟨u, rfl, ru⟩ := vals1 r
  have ru : u = .ref l := ru
  subst ru
  obtain ⟨its, n, rv, ho, hz⟩ := I.lst hl
  have ei := vals_refs rv
  subst ei
  have ho : s.heap.get? l = some ({ cls := .type "list", data := .seq (vR as) n } : Obj) := ho
  have hsz := vR_size as
  have kind : builtinKind "_heapq.heappop" = none := by decide +kernel
  refine call_function_tree kind (by decide +kernel) (b := Builtin.«_heapq.heappop») (entryFor_of_tree (by kernel_rfl)) (by unfold argsOk; kernel_rfl) ?_
  obtain ⟨ini, z, rfl⟩ : ∃ ini z, as = ini ++ [z] := ⟨_, _, (List.dropLast_concat_getLast hne).symm⟩
  have hn1 : (ini ++ [z]).length = ini.length + 1 := by rw [List.length_append]; rfl
  have hback : (vR (ini ++ [z])).back? = some (.ref z) := by
    rw [← vR_push]
    exact Array.back?_push
  obtain ⟨f0, hf0⟩ : ∃ f0, (ini ++ [z])[0]? = some f0 := Xk.lt_at (by omega)
  have hx0 : (vR (ini ++ [z]))[0]? = some (.ref f0) := by
    rw [fA_at (by rw [hsz]; omega), fA_vR hf0]
  have hpop : (vR (ini ++ [z])).pop = vR ini := by
    rw [← vR_push]
    exact Array.pop_push ..
  have least : ∀ b ∈ ini ++ [z], ¬ key b < key f0 := fun b hb => by
    obtain ⟨i, hi⟩ := List.mem_iff_getElem?.mp hb
    have hil := (List.getElem?_eq_some_iff.mp hi).1
    have h := hp_least (S := (· ∈ vR (ini ++ [z]))) (ltK_ord key _ fun v hv => (vR_mem hv).elim fun a h => ⟨a, h.2⟩) (fun i hi => fA_mem (by rw [hsz]; exact hi)) (fun x hx => by
      obtain ⟨a, _, rfl⟩ := vR_mem hx
      exact decide_eq_false (List.lt_irrefl _)) hh i hil
    rw [fA_vR hi, fA_vR hf0] at h
    exact of_decide_eq_false h
  have e1 := Heap.get?_update_self (Obj.mapSeq fun x : Array Value => x.pop) ho rfl
  refine hq_pop ho (by rw [hsz]; exact sz2000 (by omega)) hback hx0 (fun h => ?_) fun h => ?_
  · rw [hsz, hn1] at h
    obtain rfl : ini = [] := List.length_eq_zero_iff.mp (by omega)
    have ef : f0 = z := (Option.some.inj hf0).symm
    have hA : HqAt s.heap l (vR []) (s.heap.update l (Obj.mapSeq fun x => x.pop)) (vR []) := by
      refine ⟨⟨_, e1⟩, fun b o n2 e2 => ?_, .rfl⟩
      rw [Heap.get?_update_of_ne _ (Ne.symm n2)]
      exact e2
    exact ⟨.ref z, _, hq_inv' (as := []) (zs := []) (xs := vR []) I hl hA (Nat.zero_le _), rfl, by
      rw [← ef]
      refine k f0 [] (by rw [ef]; exact .refl _) least fun i h0 hi _ => ?_
      exact absurd hi (Nat.not_lt_zero _)⟩
  · rw [hsz, hn1] at h
    obtain ⟨mid, rfl⟩ : ∃ mid, ini = f0 :: mid := by
      match ini, hf0 with
      | [], _ => exact absurd rfl h
      | a :: mid, hf0 => exact ⟨mid, by rw [Option.some.inj hf0]⟩
    have hset : (vR (f0 :: mid)).setIfInBounds 0 (.ref z) = vR (z :: mid) := by
      unfold vR
      rfl
    have e2 := Heap.get?_update_self (Obj.mapSeq fun x : Array Value => x.setIfInBounds 0 (.ref z)) e1 rfl
    have hA : HqAt s.heap l (vR (z :: mid)) ((s.heap.update l (Obj.mapSeq fun x => x.pop)).update l (Obj.mapSeq fun x => x.setIfInBounds 0 (.ref z))) (vR (z :: mid)) := by
      have e3 : (vR (f0 :: mid ++ [z])).pop.setIfInBounds 0 (.ref z) = vR (z :: mid) := by
        rw [hpop, hset]
      rw [← e3]
      refine ⟨⟨_, e2⟩, fun b o n2 e4 => ?_, .rfl⟩
      exact Heap.get?_update_of_ne _ (Ne.symm n2) (Heap.get?_update_of_ne _ (Ne.symm n2) e4)
    have hsz3 : (vR (z :: mid)).size = mid.length + 1 := vR_size _
    have hml : (f0 :: mid).length = mid.length + 1 := rfl
    have htz : ∀ b ∈ z :: mid, SqT X.K H b ((key b).map V.int) := fun b hb => ht b (by
      rcases List.mem_cons.mp hb with hb | hb
      · rw [hb]; simp
      · simp [hb])
    have fin : ∀ h xs, HqAt s.heap l (vR (z :: mid)) h xs → HpF (ltK key) (fA xs) xs.size 0 → EP X pins σ Q (.ref f0) { s with heap := h } := fun h xs hA hp => by
      obtain ⟨zs, pz, rfl⟩ := perm_refs hA.perm
      rw [vR_size] at hp
      have hl2 := pz.length_eq
      rw [List.length_cons] at hl2
      refine ⟨.ref f0, _, hq_inv' (as := z :: mid) (xs := vR mid) I hl hA (sz2000 (by omega)), rfl, k f0 zs ?_ least hp⟩
      refine (pz.cons f0).trans ?_
      rw [List.cons_append]
      exact (List.perm_append_comm (l₁ := [z]) (l₂ := mid)).cons f0
    refine ⟨plainId_quiet hq_plain _, ?_⟩
    refine hq_run (lt := ltK key) (xs0 := vR (z :: mid)) (ltK_ord key _ fun v hv => (vR_mem hv).elim fun a h => ⟨a, h.2⟩) (hq_cmp hu I ho htz) (by rw [hsz3]; exact sz2000 (by omega)) (fun h' xs hA hp => fin h' xs hA hp) _ true 0 0 _ (vR (z :: mid)) hA (by rw [hsz3]; omega) .refl ?_ (Nat.lt_succ_self _)
    rw [if_pos rfl, hsz3]
    have same : ∀ i, 0 < i → i < mid.length + 1 → fA (vR (z :: mid)) i = fA (vR (f0 :: mid ++ [z])) i := fun i h0 hi => by
      obtain ⟨j, rfl⟩ : ∃ j, i = j + 1 := ⟨i - 1, by omega⟩
      obtain ⟨a, ha⟩ := Xk.lt_at (xs := mid) (j := j) (by omega)
      rw [fA_vR (as := z :: mid) (a := a) ha, fA_vR (as := f0 :: mid ++ [z]) (a := a)]
      rw [List.cons_append, List.getElem?_cons_succ, List.getElem?_append_left (by omega)]
      exact ha
    refine ⟨fun i h0 hi ht2 hp hp2 => ?_, fun z => absurd z (Nat.lt_irrefl _)⟩
    rw [same i h0 hi, same _ (by omega) (by omega)]
    exact hh i h0 (by rw [List.length_append, hml]; simp; omega) (Nat.zero_le _)
/-- f(e, ..), f a name of the module that holds a builtin -/
theorem pe_callBG {id : String} {r : List V → Hp → VK → Prop} {x : Str} {e : Expr} {es : List Expr} {t : TA} {p pos : Pos} (hc : CallR X (.builtin id) r) (hg : Gl X x) (hm : X.mg x = some (.builtin id)) (ha : PA X (e :: es) t) (hdb : (x == ("__debug__" : Str)) = false := by decide)
    (he : starEach (e :: es) X.env = (false, eval e X.env) :: starEach es X.env := by rfl) (hpl : (backTo pos (starEach es X.env)).any (·.1) = false := by rfl) : PE X (.Call (.Name x p) (e :: es) [] pos) (tCB r t) := by
  refine ⟨fun pins s σ H Q I h => ?_⟩
  refine wpAny_Call_Name_kw (ld_glob I hg hm ?_ hdb)
  exact PyProof.Rows.callWith_builtin1 (thn (ha.run pos pins s σ H _ I h) fun us s1 ⟨vs, H1, I1, r1, q1⟩ => hc pins s1 σ H1 vs us Q I1 r1 q1) he hpl
theorem k_heapify {K : PySem.W.Frag} (hu : X.A.units + 64 < cLine) (e : X.K = K) : CallR X (.builtin "_heapq.heapify") (rHeapify K) := e ▸ call_heapify hu
theorem k_heappush {K : PySem.W.Frag} (hu : X.A.units + 64 < cLine) (e : X.K = K) : CallR X (.builtin "_heapq.heappush") (rHeappush K) := e ▸ call_heappush hu
theorem k_heappop {K : PySem.W.Frag} (hu : X.A.units + 64 < cLine) (e : X.K = K) : CallR X (.builtin "_heapq.heappop") (rHeappop K) := e ▸ call_heappop hu
end
end Xk


local macro_rules | `(tactic| wtm_at "key") => `(tactic| (first | assumption | exact rfl | fail "key"))
local macro_rules | `(tactic| wtm_at "few") => `(tactic| (first | assumption | exact Nat.le_of_ble_eq_true rfl | fail "few"))
local macro_rules | `(tactic| wtm_at "cls") => `(tactic| (first | assumption | fail "cls"))
local macro_rules | `(tactic| wtm_at "neq") => `(tactic| (first | assumption | exact Ne.symm (by assumption) | exact Xk.ne_new (by assumption) (by wtm_at "hx") | exact (Xk.ne_new (by assumption) (by wtm_at "hx")).symm | fail "neq"))
local macro_rules | `(tactic| wtm_at "hx") => `(tactic| (first | assumption | exact L2.upd_same | ((refine' (L2.upd_ne ?un).trans ?uh); (case un => wtm_at "neq"); (case uh => wtm_at "hx")) | ((refine' Xk.same_at ?ue ?uh); (case ue => assumption); (case uh => wtm_at "hx")) | ((refine' Xk.but_at ?ue ?un ?uh); (case ue => assumption); (case un => wtm_at "neq"); (case uh => wtm_at "hx")) | fail "hx"))
local macro_rules | `(tactic| wtm_at "free") => `(tactic| (first | assumption | ((refine' Xk.free_back ?uh ?ue); (case uh => assumption); (case ue => wtm_at "sm")) | ((refine' Xk.free_back ?uh ?ue); (case uh => (refine' Xk.fr_upd ?uf; case uf => assumption)); (case ue => wtm_at "sm")) | fail "free"))
local macro_rules | `(tactic| wtm_at "sm") => `(tactic| (first | assumption | exact L2.Same.refl _ | ((refine' Xk.same_mut ?ue ?uh); (case ue => wtm_at "sm"); (case uh => wtm_at "free")) | ((refine' L2.Same.trans ?ue ?uh); (case uh => assumption); (case ue => wtm_at "sm")) | ((refine' Xk.same_but ?ue ?uh ?us); (case ue => assumption); (case uh => wtm_at "free"); (case us => wtm_at "sm")) | fail "sm"))
local macro_rules | `(tactic| wtm_at "bm") => `(tactic| (first | assumption | exact Xk.But.refl _ _ | ((refine' Xk.but_mut ?ue); (case ue => wtm_at "bm")) | ((refine' Xk.but_new ?ue ?uh); (case ue => wtm_at "bm"); (case uh => wtm_at "free")) | ((refine' Xk.but_trans ?ue ?uh); (case uh => assumption); (case ue => wtm_at "bm")) | ((refine' Xk.but_trans ?ue (Xk.but_same ?uh)); (case uh => assumption); (case ue => wtm_at "bm")) | fail "bm"))
local macro_rules | `(tactic| wtm_at "sq") => `(tactic| (first | assumption | exact Xk.sq_of (by wtm_at "hx") | ((refine' Xk.sq_same ?uh ?ue); (case uh => assumption); (case ue => wtm_at "sm")) | fail "sq"))
local macro_rules | `(tactic| wtm_at "st") => `(tactic| (first | assumption | exact Xk.st_of (by wtm_at "hx") | ((refine' Xk.st_same ?uh ?ue); (case uh => assumption); (case ue => wtm_at "sm")) | fail "st"))
local macro_rules | `(tactic| wtm_at "side") => `(tactic| (first | assumption | decide | omega | (refine Or.inr ?_; omega) | (refine Or.inl ?_; omega) | (refine ⟨?_, ?_⟩ <;> omega) | (refine ⟨?_, ?_, ?_⟩ <;> first | omega | decide) | fail "side"))
local macro_rules | `(tactic| wtm_at "len") => `(tactic| (first | omega | (simp only [List.length_map, List.length_append, List.length_cons, List.length_nil, List.length_set, List.length_replicate] at *; omega) | exact Nat.le_of_ble_eq_true rfl | fail "len"))
local macro_rules | `(tactic| wtm_at "x") => `(tactic| (first
  | ((with_reducible refine' Xk.x_var ?a1 ?_); (case a1 => exact rfl))
  | (with_reducible refine Xk.x_c ?_)
  | (with_reducible refine Xk.x_op ?_)
  | (with_reducible refine Xk.x_I0 ?_)
  | ((with_reducible refine' Xk.x_I ?a1 ?_); (case a1 => wtm_at "side"))
  | (with_reducible refine Xk.x_cons ?_)
  | (with_reducible refine Xk.x_nil ?_)
  | (with_reducible refine Xk.x_cb ?_)
  | (with_reducible refine Xk.x_call ?_)
  | (with_reducible refine Xk.x_sasg ?_)
  | (with_reducible refine Xk.x_asg ?_)
  | (with_reducible refine Xk.x_ret ?_)
  | (with_reducible refine Xk.x_test ?_)
  | (with_reducible refine Xk.x_bl ?_)
  | (with_reducible refine Xk.x_isI ?_)
  | (with_reducible refine Xk.x_sif ?_)
  | (with_reducible refine Xk.x_ifS ?_)
  | (with_reducible refine Xk.x_and ?_)
  | (with_reducible refine Xk.x_or ?_)
  | (with_reducible refine Xk.x_not ?_)
  | (with_reducible refine Xk.x_B ?_)
  | (with_reducible refine Xk.x_nInt ?_)
  | (with_reducible refine Xk.x_nIntB ?_)
  | ((with_reducible refine' Xk.x_lenL ?a1 ?_); (case a1 => wtm_at "sq"))
  | ((with_reducible refine' Xk.x_lenT ?a1 ?_); (case a1 => wtm_at "st"))
  | (with_reducible refine Xk.x_un ?_)
  | (with_reducible refine Xk.x_U ?_)
  | ((with_reducible refine' Xk.x_eq ?a1 ?_); (case a1 => exact rfl))
  | ((with_reducible refine' Xk.x_ne ?a1 ?_); (case a1 => exact rfl))
  | ((with_reducible refine' Xk.x_ixL ?a1 ?a2 ?_); (case a1 => wtm_at "sq"); (case a2 => first | exact rfl | assumption | exact Xk.at_nat rfl (Xk.map_at (by assumption)) | exact Xk.at_nat rfl (by assumption)))
  | ((with_reducible refine' Xk.x_ixT ?a1 ?a2 ?_); (case a1 => wtm_at "st"); (case a2 => first | exact rfl | assumption | exact Xk.at_nat rfl (Xk.map_at (by assumption)) | exact Xk.at_nat rfl (by assumption)))
  | (with_reducible refine Xk.x_lst ?_)
  | (with_reducible refine Xk.x_tup ?_)
  | ((with_reducible refine' Xk.x_new ?a1 ?_); (case a1 => wtm_at "len"))
  | ((with_reducible refine' Xk.x_listL ?a1 ?_); (case a1 => wtm_at "sq"))
  | ((with_reducible refine' Xk.x_listT ?a1 ?_); (case a1 => wtm_at "st"))
  | ((with_reducible refine' Xk.x_tupleL ?a1 ?_); (case a1 => wtm_at "sq"))
  | ((with_reducible refine' Xk.x_tupleT ?a1 ?_); (case a1 => wtm_at "st"))
  | (with_reducible refine Xk.x_seq ?_)
  | (with_reducible refine Xk.x_next ?_)
  | (with_reducible refine Xk.x_sdrop ?_)
  | (with_reducible refine Xk.x_drop ?_)
  | (with_reducible refine Xk.x_bm ?_)
  | (with_reducible refine Xk.x_bm0 ?_)
  | ((with_reducible refine' Xk.x_tyL ?a1 ?_); (case a1 => wtm_at "sq"))
  | ((with_reducible refine' Xk.x_app ?a1 ?a2 ?_); (case a1 => wtm_at "hx"); (case a2 => wtm_at "len"))
  | (with_reducible refine Xk.x_sasgG ?_)
  | (with_reducible refine Xk.x_asgG ?_)
  | (with_reducible refine Xk.x_gName ?_)
  | ((with_reducible refine' Xk.x_gTup ?a1 ?a2 ?_); (case a1 => wtm_at "st"); (case a2 => exact rfl))
  | ((with_reducible refine' Xk.x_gLst ?a1 ?a2 ?_); (case a1 => wtm_at "sq"); (case a2 => exact rfl))
  | (with_reducible refine Xk.x_gCons ?_)
  | (with_reducible refine Xk.x_gNil ?_)
  | (with_reducible refine Xk.x_gSub ?_)
  | (with_reducible refine Xk.x_if ?_)
  | (with_reducible refine Xk.x_andV ?_)
  | (with_reducible refine Xk.x_orV ?_)
  | (with_reducible refine Xk.x_notV ?_)
  | (with_reducible refine Xk.x_chain ?_)
  | (with_reducible refine Xk.x_yes ?_)
  | (with_reducible refine Xk.x_sl ?_)
  | (with_reducible refine Xk.x_nopart ?_)
  | (with_reducible refine Xk.x_part ?_)
  | ((with_reducible refine' Xk.x_slL ?a1 ?_); (case a1 => wtm_at "sq"))
  | ((with_reducible refine' Xk.x_saug ?a1 ?_); (case a1 => exact rfl))
  | ((with_reducible refine' Xk.x_aug ?a1 ?_); (case a1 => exact rfl))
  | (with_reducible refine Xk.x_ipI ?_)
  | ((with_reducible refine' Xk.x_isiInt ?a1 ?_); (case a1 => first | exact Xk.kit_T (by decide +kernel) | exact Xk.kit_F (by decide +kernel)))
  | ((with_reducible refine' Xk.x_isiBl ?a1 ?_); (case a1 => first | exact Xk.kit_T (by decide +kernel) | exact Xk.kit_F (by decide +kernel)))
  | ((with_reducible refine' Xk.x_isiStr ?a1 ?_); (case a1 => first | exact Xk.kit_T (by decide +kernel) | exact Xk.kit_F (by decide +kernel)))
  | ((with_reducible refine' Xk.x_isiNon ?a1 ?_); (case a1 => first | exact Xk.kit_T (by decide +kernel) | exact Xk.kit_F (by decide +kernel)))
  | ((with_reducible refine' Xk.x_isiLst ?a1 ?a2 ?_); (case a1 => wtm_at "hx"); (case a2 => first | exact Xk.kit_T (by decide +kernel) | exact Xk.kit_F (by decide +kernel)))
  | ((with_reducible refine' Xk.x_isiTup ?a1 ?a2 ?_); (case a1 => wtm_at "hx"); (case a2 => first | exact Xk.kit_T (by decide +kernel) | exact Xk.kit_F (by decide +kernel)))
  | (with_reducible refine Xk.x_forR1 ?_)
  | (with_reducible refine Xk.x_forL1 ?_)
  | (with_reducible refine Xk.x_forT1 ?_)
  | (with_reducible refine Xk.x_brk ?_)
  | (with_reducible refine Xk.x_ct ?_)
  | (with_reducible refine Xk.x_retN ?_)
  | (with_reducible refine Xk.x_lcL1 ?_)
  | (with_reducible refine Xk.x_lcT1 ?_)
  | (with_reducible refine Xk.x_lcR1 ?_)
  | (with_reducible refine Xk.x_lcE1 ?_)
  | (with_reducible refine Xk.x_nocutW ?_)
  | (with_reducible refine Xk.x_nIsN ?_)
  | (with_reducible refine Xk.x_nNotN ?_)
  | (with_reducible refine Xk.x_and255 ?_)
  | (with_reducible refine Xk.x_wT ?_)
  | (with_reducible refine Xk.x_wF ?_)
  | (with_reducible refine Xk.x_lstRg ?_)
  | (with_reducible refine Xk.x_rg1 ?_)
  | ((with_reducible refine' Xk.x_nRg ?a1 ?_); (case a1 => omega))
  | (with_reducible refine L2.iteT ?_)
  | (with_reducible refine L2.iteF ?_)
  | (with_reducible refine Xk.x_nT ?_)
  | (with_reducible refine Xk.x_nF ?_)
  | ((with_reducible refine' Xk.x_dY ?a1 ?_); (case a1 => first | exact rfl | assumption | omega))
  | ((with_reducible refine' Xk.x_dN ?a1 ?_); (case a1 => first | assumption | omega | (intro z; cases z; done)))
  | ((with_reducible refine' Xk.x_ndY ?a1 ?_); (case a1 => first | exact rfl | assumption | omega))
  | ((with_reducible refine' Xk.x_ndN ?a1 ?_); (case a1 => first | assumption | omega | (intro z; cases z; done)))
  | (with_reducible refine Xk.x_lc2 ?_)
  | (with_reducible refine Xk.x_fld1 ?_)
  | ((with_reducible refine' Xk.x_rFld ?a1 ?a2 ?a3 ?a4 ?_); (case a1 => wtm_at "hx"); (case a2 => wtm_at "cls"); (case a3 => wtm_at "cls"); (case a4 => exact rfl))
  | (with_reducible refine Xk.x_ssfld ?_)
  | (with_reducible refine Xk.x_sfld ?_)
  | ((with_reducible refine' Xk.x_rSetF ?a1 ?a2 ?a3 ?a4 ?_); (case a1 => wtm_at "hx"); (case a2 => wtm_at "cls"); (case a3 => wtm_at "cls"); (case a4 => exact Nat.le_of_ble_eq_true rfl))
  | (with_reducible refine Xk.x_prop ?_)
  | ((with_reducible refine' Xk.x_rProp ?a1 ?_); (case a1 => wtm_at "hx"))
  | (with_reducible refine Xk.x_meth ?_)
  | ((with_reducible refine' Xk.x_rMeth ?a1 ?a2 ?_); (case a1 => wtm_at "hx"); (case a2 => exact rfl))
  | (with_reducible refine Xk.x_make ?_)
  | (with_reducible refine Xk.x_sdelT ?_)
  | (with_reducible refine Xk.x_delT ?_)
  | (with_reducible refine Xk.x_nMax2 ?_)
  | (with_reducible refine Xk.x_nMin2 ?_)
  | ((with_reducible refine' Xk.x_nRepS ?a1 ?a2 ?_); (case a1 => wtm_at "side"); (case a2 => decide))
  | (with_reducible refine Xk.x_inS ?_)
  | (with_reducible refine Xk.x_notInS ?_)
  | ((with_reducible refine' Xk.x_nAddS ?a1 ?_); (case a1 => wtm_at "len"))
  | ((with_reducible refine' Xk.x_nLenS ?a1 ?_); (case a1 => wtm_at "len"))
  | ((with_reducible refine' Xk.x_slS ?a1 ?_); (case a1 => wtm_at "len"))
  | (with_reducible refine Xk.x_lcS1 ?_)
  | (with_reducible refine Xk.x_forS1 ?_)
  | (with_reducible refine Xk.x_ord ?_)
  | (with_reducible refine Xk.x_dget1 ?_)
  | ((with_reducible refine' Xk.x_rGetD ?a1 ?_); (case a1 => wtm_at "hx"))
  | ((with_reducible refine' Xk.x_rGet1 ?a1 ?_); (case a1 => wtm_at "hx"))
  | (with_reducible refine Xk.x_dget2 ?_)
  | ((with_reducible refine' Xk.x_rGetE ?a1 ?_); (case a1 => wtm_at "hx"))
  | ((with_reducible refine' Xk.x_rGet2 ?a1 ?_); (case a1 => wtm_at "hx"))
  | (with_reducible refine Xk.x_dpop1 ?_)
  | ((with_reducible refine' Xk.x_rPopD ?a1 ?_); (case a1 => wtm_at "hx"))
  | (with_reducible refine Xk.x_dpop2 ?_)
  | ((with_reducible refine' Xk.x_rPopE ?a1 ?_); (case a1 => wtm_at "hx"))
  | (with_reducible refine Xk.x_din ?_)
  | ((with_reducible refine' Xk.x_rDInK ?a1 ?_); (case a1 => wtm_at "hx"))
  | (with_reducible refine Xk.x_dnew ?_)
  | (with_reducible refine Xk.x_notBl ?_)
  | (with_reducible refine Xk.x_isBl ?_)
  | (with_reducible refine Xk.x_dget ?_)
  | ((with_reducible refine' Xk.x_rDG ?a1 ?a2 ?_); (case a1 => wtm_at "hx"); (case a2 => wtm_at "key"))
  | (with_reducible refine Xk.x_sdput ?_)
  | (with_reducible refine Xk.x_dput ?_)
  | ((with_reducible refine' Xk.x_rDP ?a1 ?a2 ?a3 ?_); (case a1 => wtm_at "hx"); (case a2 => wtm_at "few"); (case a3 => wtm_at "key"))
  | (with_reducible refine Xk.x_pcons ?_)
  | (with_reducible refine Xk.x_pnil ?_)
  | (with_reducible refine Xk.x_forRev1 ?_)
  | (with_reducible refine Xk.x_forR2 ?_)
  | ((with_reducible refine' Xk.x_geP ?a1 ?a2 ?_); (case a1 => wtm_at "st"); (case a2 => wtm_at "st"))
  | ((with_reducible refine' Xk.x_ltP ?a1 ?a2 ?_); (case a1 => wtm_at "st"); (case a2 => wtm_at "st"))
  | (with_reducible refine Xk.x_lcZ1 ?_)
  | (with_reducible refine Xk.x_lcET1 ?_)
  | (with_reducible refine Xk.x_dcT1 ?_)
  | (with_reducible refine Xk.x_nLtS ?_)
  | (with_reducible refine Xk.x_nLeS ?_)
  | (with_reducible refine Xk.x_nGeS ?_)
  | (with_reducible refine Xk.x_spar ?_)
  | (with_reducible refine Xk.x_par ?_)
  | (with_reducible refine Xk.x_rPar ?_)
  | (with_reducible refine Xk.x_gSubSl ?_)
  | fail "x"))
local macro_rules | `(tactic| wtm_at "xs") => `(tactic| ((repeat wtm_at "x"); try dsimp only [L2.wipe, List.set, List.append_nil, List.cons_append, List.nil_append]))
local macro_rules | `(tactic| wtm_at "x0") => `(tactic| (dsimp only [L2.cxOf, L2.start, List.map, List.length, List.replicate, Nat.reduceAdd, Nat.reduceSub, List.cons_append, List.nil_append]))
local macro_rules | `(tactic| wtm_at "xc") => `(tactic| (dsimp only [L2.wipe, List.set, List.append_nil, List.cons_append, List.nil_append]))

local macro_rules | `(tactic| wtm_at "x") => `(tactic| (first | (with_reducible refine Xk.x_dcTL1 ?_) | (with_reducible refine Xk.x_dnewT ?_) | (with_reducible refine Xk.x_dnin ?_) | fail "x"))
namespace K84
open PySem PySem.Spec PyProof.Rows L2
def topS (i : Nat) : Stmt := PySem.Challenge.pw_crosskeep_k84_names_are_sorted.main.body.getD i (.Pass ⟨0, 0, 0, 0⟩)
abbrev s_sorted_names : Stmt := topS 2
abbrev N_sorted_names : List Str := ["names", "pairs", "ahead", "behind", "first", "second", "free", "order", "name", "other"]
theorem sc_sorted_names : FnScope ["names", "pairs", "ahead", "behind", "first", "second", "free", "order", "name", "other"] ["names", "pairs"] (defScope s_sorted_names) := ⟨rfl, rfl, rfl, by decide +kernel, rfl, by decide +kernel, by decide +kernel⟩
abbrev s__law_number : Stmt := topS 4
abbrev N__law_number : List Str := ["script", "k", "cell", "first", "second"]
theorem sc__law_number : FnScope ["script", "k", "cell", "first", "second"] ["script", "k"] (defScope s__law_number) := ⟨rfl, rfl, rfl, by decide +kernel, rfl, by decide +kernel, by decide +kernel⟩
abbrev s__law_take : Stmt := topS 5
abbrev N__law_take : List Str := ["box", "size", "digit"]
theorem sc__law_take : FnScope ["box", "size", "digit"] ["box", "size"] (defScope s__law_take) := ⟨rfl, rfl, rfl, by decide +kernel, rfl, by decide +kernel, by decide +kernel⟩
abbrev s__law_due : Stmt := topS 6
abbrev N__law_due : List Str := ["names", "pairs", "rest", "found", "turn", "free", "name", "pair"]
theorem sc__law_due : FnScope ["names", "pairs", "rest", "found", "turn", "free", "name", "pair"] ["names", "pairs"] (defScope s__law_due) := ⟨rfl, rfl, rfl, by decide +kernel, rfl, by decide +kernel, by decide +kernel⟩
abbrev s_law : Stmt := topS 7
abbrev N_law : List Str := ["script", "box", "names", "k", "name", "bent", "pairs", "first", "second", "known", "given", "told"]
theorem sc_law : FnScope ["script", "box", "names", "k", "name", "bent", "pairs", "first", "second", "known", "given", "told"] ["script"] (defScope s_law) := ⟨rfl, rfl, rfl, by decide +kernel, rfl, by decide +kernel, by decide +kernel⟩
structure Txt (K : PySem.W.Frag) (mg : Str → Option Value) where
  f_sorted_names : Addr
  d_sorted_names : FuncData
  F_sorted_names : Fun K "sorted_names" "sorted_names" s_sorted_names f_sorted_names d_sorted_names
  b_sorted_names : Binds K d_sorted_names ["names", "pairs"] []
  g_sorted_names : mg "sorted_names" = some (.ref f_sorted_names)
  f__law_number : Addr
  d__law_number : FuncData
  F__law_number : Fun K "_law_number" "_law_number" s__law_number f__law_number d__law_number
  b__law_number : Binds K d__law_number ["script", "k"] []
  g__law_number : mg "_law_number" = some (.ref f__law_number)
  f__law_take : Addr
  d__law_take : FuncData
  F__law_take : Fun K "_law_take" "_law_take" s__law_take f__law_take d__law_take
  b__law_take : Binds K d__law_take ["box", "size"] []
  g__law_take : mg "_law_take" = some (.ref f__law_take)
  f__law_due : Addr
  d__law_due : FuncData
  F__law_due : Fun K "_law_due" "_law_due" s__law_due f__law_due d__law_due
  b__law_due : Binds K d__law_due ["names", "pairs"] []
  g__law_due : mg "_law_due" = some (.ref f__law_due)
  f_law : Addr
  d_law : FuncData
  F_law : Fun K "law" "law" s_law f_law d_law
  b_law : Binds K d_law ["script"] []
  g_law : mg "law" = some (.ref f_law)
  m_int : mg "int" = none
  m_isinstance : mg "isinstance" = none
  m_len : mg "len" = none
  m_list : mg "list" = none
  m_range : mg "range" = none
  m_sorted : mg "sorted" = none
  i_heapify : mg "heapify" = some (.builtin "_heapq.heapify")
  i_heappop : mg "heappop" = some (.builtin "_heapq.heappop")
  i_heappush : mg "heappush" = some (.builtin "_heapq.heappush")
section
variable {P : Program} {w : World} {K : PySem.W.Frag} {mg : Str → Option Value} {base : Heap}
def sp__law_take (K : PySem.W.Frag) : Sp := fun vs H Q _ => ∃ (a : Addr) (z n : Int), vs = [.ref a, .int z] ∧ H a = some (.lst [.int n]) ∧ 0 < z ∧ z < 1073741824 ∧ (0 ≤ n % z → n % z < z → Q (.int (n % z)) (upd H a (.lst [.int (n / z)])))
theorem ok__law_take (T : Txt K mg) : FnOk P w K mg base CX0 1 T.f__law_take T.d__law_take ["box", "size"] (sp__law_take K) := by
  refine T.F__law_take.ok sc__law_take (fun vs H Q E h => ?_) (fun cdv A outer s H vs Q E hr h => ?_)
  · obtain ⟨a, z, n, rfl, _⟩ := h
    rfl
  obtain ⟨a, z, n, rfl, hb, h0, h1, q⟩ := h
  refine ⟨_, (pss_cons (ps_set (i := 2) sc__law_take.nd rfl (Or.inl rfl) (pe_op op_mod (pe_callTy Xk.call_nInt (by rfl) T.m_int (by decide +kernel) (pa_cons (pe_ix (Xk.k_ixL (K := K) (by rfl)) (pv 0) (pe_int) (fun _ _ => rfl)) pa_nil)) (pv 1)))
      (pss_cons (ps_asg (pe_op op_fdiv (pe_ix (Xk.k_ixL (K := K) (by rfl)) (pv 0) (pe_int) (fun _ _ => rfl)) (pv 1)) (pg_sub (pv 0) (pe_int) set_list))
      (pss_one (ps_ret (pv 2))))), ?_⟩
  wtm_at "x0"
  wtm_at "xs"
  refine Xk.x_setL (j := 0) hb rfl ?_
  wtm_at "xs"
  exact q (Int.emod_nonneg _ (by omega)) (Int.emod_lt_of_pos _ h0)
def sp__law_number (K : PySem.W.Frag) : Sp := fun vs H Q _ => ∃ (a : Addr) (k : Int) (ns : List Int), vs = [.ref a, .int k] ∧ SqL K H a (ns.map V.int) ∧ ns.length ≤ 63 ∧ 0 ≤ k ∧ k ≤ 1000 ∧ ∀ n : Int, 0 ≤ n → Q (.int n) H
theorem ok__law_number (T : Txt K mg) : FnOk P w K mg base CX0 1 T.f__law_number T.d__law_number ["script", "k"] (sp__law_number K) := by
  refine T.F__law_number.ok sc__law_number (fun vs H Q E h => ?_) (fun cdv A outer s H vs Q E hr h => ?_)
  · obtain ⟨a, k, ns, rfl, _⟩ := h
    rfl
  obtain ⟨a, k, ns, rfl, hS, hl, hk, hk2, q⟩ := h
  refine ⟨_, (pss_cons (ps_set (i := 2) sc__law_number.nd rfl (Or.inl rfl) (pe_int))
      (Evl.pss_cut (ps_if (pt_cmpR op_gt (pe_callB (Xk.k_len (K := K) (by rfl)) (by rfl) T.m_len PySem.boot_len (pa_cons (pv 0) pa_nil)) (pe_int) (nomark _)) (pss_one (ps_set (i := 2) sc__law_number.nd rfl (Or.inl rfl) (pe_ix (Xk.k_ixL (K := K) (by rfl)) (pv 0) (pe_op op_mod (pe_callTy Xk.call_nInt (by rfl) T.m_int (by decide +kernel) (pa_cons (pv 1) pa_nil)) (pe_callB (Xk.k_len (K := K) (by rfl)) (by rfl) T.m_len PySem.boot_len (pa_cons (pv 0) pa_nil))) (fun _ _ => rfl)))) pss_nil)
      (Evl.pss_cut (ps_if (pt_cmpR op_lt (pv 2) (pe_int) (nomark _)) (pss_one (ps_set (i := 2) sc__law_number.nd rfl (Or.inl rfl) (pe_op op_sub (pe_int) (pe_op op_mul (pe_int) (pv 2))))) pss_nil)
      (Evl.pss_cut (ps_if (PW.pt (pw_and (pt_cmpR op_ge (pv 2) (pe_op op_pow (pe_int) (pe_int)) (nomark _)) (pw_and1 (pt_cmpR op_lt (pv 1) (pe_callB (Xk.k_len (K := K) (by rfl)) (by rfl) T.m_len PySem.boot_len (pa_cons (pv 0) pa_nil)) (nomark _))))) (pss_one (ps_ret (pv 2))) pss_nil)
      (pss_cons (ps_set (i := 3) sc__law_number.nd rfl (Or.inl rfl) (pe_op op_mod (pe_callTy Xk.call_nInt (by rfl) T.m_int (by decide +kernel) (pa_cons (pe_op op_add (pe_op op_mul (pe_op op_add (pv 2) (pe_int)) (pe_int)) (pe_op op_mul (pe_op op_add (pv 1) (pe_int)) (pe_int))) pa_nil)) (pe_int)))
      (pss_cons (ps_set (i := 4) sc__law_number.nd rfl (Or.inl rfl) (pe_op op_mod (pe_callTy Xk.call_nInt (by rfl) T.m_int (by decide +kernel) (pa_cons (pe_op op_add (pe_op op_add (pe_op op_mul (pe_op op_add (pv 3) (pe_int)) (pe_int)) (pe_op op_mul (pe_op op_add (pv 2) (pe_int)) (pe_int))) (pv 1)) pa_nil)) (pe_int)))
      (pss_one (ps_ret (pe_op op_mod (pe_callTy Xk.call_nInt (by rfl) T.m_int (by decide +kernel) (pa_cons (pe_op op_add (pe_op op_add (pe_op op_mul (pv 3) (pe_int)) (pe_op op_mul (pv 4) (pe_int))) (pv 2)) pa_nil)) (pe_int)))))))))), ?_⟩
  wtm_at "x0"
  wtm_at "xs"
  refine Xk.x_cut (fun σ' H' => H = H' ∧ ∃ c : Int, σ' = [some (.ref a), some (.int k), some (.int c), none, none]) ?_ ?_
  · wtm_at "xs"
    refine Xk.x_itd (fun h => ?_) (fun h => ?_)
    · wtm_at "xs"
      rw [List.length_map] at h ⊢
      have h1 : k % (ns.length : Int) < ns.length := Int.emod_lt_of_pos _ h
      have h2 : 0 ≤ k % (ns.length : Int) := Int.emod_nonneg _ (by omega)
      obtain ⟨j, hj⟩ := Int.eq_ofNat_of_zero_le h2
      rw [hj] at h1 ⊢
      have h3 : j < ns.length := by omega
      refine Xk.x_ixL hS (atI_nat (j := j) (by rw [List.getElem?_map, List.getElem?_eq_getElem h3]; rfl)) ?_
      exact ⟨rfl, _, rfl⟩
    · wtm_at "xs"
      exact ⟨rfl, _, rfl⟩
  rintro σ' H' ⟨rfl, c, rfl⟩
  refine Xk.x_cut (fun σ' H' => H = H' ∧ ∃ c : Int, 0 ≤ c ∧ σ' = [some (.ref a), some (.int k), some (.int c), none, none]) ?_ ?_
  · wtm_at "xs"
    refine Xk.x_itd (fun h => ?_) (fun h => ?_)
    · wtm_at "xs"
      exact ⟨rfl, _, by omega, rfl⟩
    · wtm_at "xs"
      exact ⟨rfl, _, by omega, rfl⟩
  rintro σ' H' ⟨rfl, c, hc, rfl⟩
  refine Xk.x_cut (fun σ' H' => H = H' ∧ σ' = [some (.ref a), some (.int k), some (.int c), none, none]) ?_ ?_
  · wtm_at "xs"
    refine Xk.x_itd (fun h => ?_) (fun h => ?_)
    · wtm_at "xs"
      refine Xk.x_itd (fun h => ?_) (fun h => ?_)
      · wtm_at "xs"
        exact q _ hc
      · wtm_at "xs"
        exact ⟨rfl, rfl⟩
    · wtm_at "xs"
      exact ⟨rfl, rfl⟩
  rintro σ' H' ⟨rfl, rfl⟩
  wtm_at "xs"
  exact q _ (by omega)
--CUT--
abbrev Nm := List Int
abbrev Pr := Nm × Nm
/-- how many pairs to y come from names that aren't in o -/
def cnt (ps : List Pr) (o : List Nm) (y : Nm) : Nat := ps.countP fun p => decide (p.2 = y) && !decide (p.1 ∈ o)
/-- how many pairs go from x to y -/
def arr (ps : List Pr) (x y : Nm) : Nat := ps.countP fun p => decide (p.1 = x) && decide (p.2 = y)
theorem cnt_pop {ps : List Pr} {o : List Nm} {x y : Nm} (hx : x ∉ o) : cnt ps (o ++ [x]) y + arr ps x y = cnt ps o y := by
  unfold cnt arr
  induction ps with
  | nil => rfl
  | cons p r ih =>
    rw [List.countP_cons, List.countP_cons, List.countP_cons]
    have e : (if (decide (p.2 = y) && !decide (p.1 ∈ o ++ [x])) = true then 1 else 0) + (if (decide (p.1 = x) && decide (p.2 = y)) = true then 1 else 0) = if (decide (p.2 = y) && !decide (p.1 ∈ o)) = true then 1 else 0 := by
      by_cases h1 : p.2 = y <;> by_cases h2 : p.1 = x <;> by_cases h3 : p.1 ∈ o <;> simp [h1, h2, h3, hx]
    omega
/-- nothing that is left comes ahead of x -/
def free1 (ps : List Pr) (rest : List Nm) (x : Nm) : Bool := (ps.filter fun p => decide (p.2 = x) && decide (p.1 ∈ rest)).length == 0
def dueGo (ps : List Pr) : Nat → List Nm → Option (List Nm)
  | 0, _ => some []
  | n + 1, rest => match rest.filter (free1 ps rest) with
    | [] => none
    | x :: _ => (dueGo ps n (rest.filter fun y => decide (y ≠ x))).map (x :: ·)
def leN (a b : Nm) : Prop := ¬ b < a
structure Ok (ns : List Nm) (ps : List Pr) (srt : List Nm) : Prop where
  nd : ns.Nodup
  pin : ∀ p ∈ ps, p.1 ∈ ns ∧ p.2 ∈ ns ∧ p.1 ≠ p.2
  perm : srt.Perm ns
  srt : srt.Pairwise leN
def left (srt o : List Nm) : List Nm := srt.filter fun y => decide (y ∉ o)
theorem left_mem {srt o : List Nm} {x : Nm} : x ∈ left srt o ↔ x ∈ srt ∧ x ∉ o := by
  unfold left
  rw [List.mem_filter, decide_eq_true_eq]
theorem free_cnt {ns : List Nm} {ps : List Pr} {srt o : List Nm} (h : Ok ns ps srt) (x : Nm) : free1 ps (left srt o) x = decide (cnt ps o x = 0) := by
  unfold free1 cnt
  rw [List.countP_eq_length_filter]
  have e : (ps.filter fun p => decide (p.2 = x) && decide (p.1 ∈ left srt o)) = ps.filter fun p => decide (p.2 = x) && !decide (p.1 ∈ o) := by
    refine List.filter_congr fun p hp => ?_
    have h1 := (h.perm.mem_iff (a := p.1)).mpr (h.pin p hp).1
    by_cases h2 : p.1 ∈ o <;> simp [left_mem, h1, h2]
  rw [e]
  exact Bool.beq_eq_decide_eq _ _
theorem left_next (srt o : List Nm) (x : Nm) : (left srt o).filter (fun y => decide (y ≠ x)) = left srt (o ++ [x]) := by
  unfold left
  rw [List.filter_filter]
  refine List.filter_congr fun y _ => ?_
  by_cases h1 : y = x <;> by_cases h2 : y ∈ o <;> simp [h1, h2]
theorem le_eq {a b : Nm} (h1 : ¬ b < a) (h2 : ¬ a < b) : a = b := by
  rw [List.not_lt] at h1 h2
  exact List.le_antisymm h1 h2
/-- the first free name is the least one -/
theorem first_free {ns : List Nm} {ps : List Pr} {srt o : List Nm} (h : Ok ns ps srt) {x : Nm} (hx : x ∈ ns) (ho : x ∉ o) (h0 : cnt ps o x = 0) (hmin : ∀ y ∈ ns, y ∉ o → cnt ps o y = 0 → ¬ y < x) :
    ∃ r, (left srt o).filter (free1 ps (left srt o)) = x :: r := by
  have hm : ∀ y, y ∈ (left srt o).filter (free1 ps (left srt o)) ↔ y ∈ ns ∧ y ∉ o ∧ cnt ps o y = 0 := fun y => by
    rw [List.mem_filter, left_mem, free_cnt h, decide_eq_true_eq, h.perm.mem_iff]
    exact ⟨fun ⟨⟨a, b⟩, c⟩ => ⟨a, b, c⟩, fun ⟨a, b, c⟩ => ⟨⟨a, b⟩, c⟩⟩
  have hp : ((left srt o).filter (free1 ps (left srt o))).Pairwise leN := (h.srt.filter _).filter _
  have hin := (hm x).mpr ⟨hx, ho, h0⟩
  cases e : (left srt o).filter (free1 ps (left srt o)) with
  | nil => rw [e] at hin; cases hin
  | cons y r =>
    rw [e] at hin hp
    have hy := (hm y).mp (by rw [e]; exact List.mem_cons_self ..)
    rcases List.mem_cons.mp hin with z | z
    · exact ⟨r, by rw [z]⟩
    · have h1 : ¬ x < y := (List.pairwise_cons.mp hp).1 x z
      have h2 := hmin y hy.1 hy.2.1 hy.2.2
      exact ⟨r, by rw [le_eq h1 h2]⟩
theorem no_free {ns : List Nm} {ps : List Pr} {srt o : List Nm} (h : Ok ns ps srt) (hn : ∀ y ∈ ns, y ∉ o → cnt ps o y ≠ 0) : (left srt o).filter (free1 ps (left srt o)) = [] := by
  rw [List.filter_eq_nil_iff]
  intro y hy
  rw [left_mem] at hy
  rw [free_cnt h, decide_eq_true_eq]
  exact hn y (h.perm.mem_iff.mp hy.1) hy.2
/-- what is due from where o stands -/
def DueFrom (ns : List Nm) (ps : List Pr) (srt o : List Nm) : Prop := (dueGo ps (ns.length - o.length) (left srt o)).map (o ++ ·) = dueGo ps ns.length srt
theorem due_start {ns : List Nm} {ps : List Pr} {srt : List Nm} : DueFrom ns ps srt [] := by
  unfold DueFrom left
  rw [List.filter_eq_self.mpr (fun y _ => by simp)]
  show (dueGo ps ns.length srt).map ([] ++ ·) = _
  cases dueGo ps ns.length srt <;> rfl
theorem due_pop {ns : List Nm} {ps : List Pr} {srt o : List Nm} (h : Ok ns ps srt) (hd : DueFrom ns ps srt o) (hol : o.length < ns.length) {x : Nm} (hx : x ∈ ns) (ho : x ∉ o) (h0 : cnt ps o x = 0) (hmin : ∀ y ∈ ns, y ∉ o → cnt ps o y = 0 → ¬ y < x) : DueFrom ns ps srt (o ++ [x]) := by
  obtain ⟨r, hr⟩ := first_free h hx ho h0 hmin
  unfold DueFrom at hd ⊢
  rw [← hd]
  obtain ⟨m, hm⟩ : ∃ m, ns.length - o.length = m + 1 := ⟨ns.length - o.length - 1, by omega⟩
  have hm2 : ns.length - (o ++ [x]).length = m := by
    rw [List.length_append]
    show ns.length - (o.length + 1) = m
    omega
  rw [hm, hm2]
  show _ = Option.map (o ++ ·) (match (left srt o).filter (free1 ps (left srt o)) with | [] => none | x :: _ => (dueGo ps m ((left srt o).filter fun y => decide (y ≠ x))).map (x :: ·))
  rw [hr]
  show _ = Option.map (o ++ ·) ((dueGo ps m ((left srt o).filter fun y => decide (y ≠ x))).map (x :: ·))
  rw [left_next]
  cases dueGo ps m (left srt (o ++ [x])) with
  | none => rfl
  | some l => simp
/-- none is free: o is the end, or there is none -/
theorem due_end {ns : List Nm} {ps : List Pr} {srt o : List Nm} (h : Ok ns ps srt) (hd : DueFrom ns ps srt o) (hol : o.length ≤ ns.length) (hn : ∀ y ∈ ns, y ∉ o → cnt ps o y ≠ 0) : dueGo ps ns.length srt = if o.length = ns.length then some o else none := by
  unfold DueFrom at hd
  rw [← hd]
  by_cases he : o.length = ns.length
  · rw [if_pos he, he, Nat.sub_self]
    show some (o ++ []) = some o
    rw [List.append_nil]
  · rw [if_neg he]
    obtain ⟨m, hm⟩ : ∃ m, ns.length - o.length = m + 1 := ⟨ns.length - o.length - 1, by omega⟩
    rw [hm]
    show Option.map (o ++ ·) (match (left srt o).filter (free1 ps (left srt o)) with | [] => none | x :: _ => (dueGo ps m ((left srt o).filter fun y => decide (y ≠ x))).map (x :: ·)) = none
    rw [no_free h hn]
    rfl
def kk (x : Nm) : List Key := x.map Sum.inl
theorem kk_V (x : Nm) : (kk x).map kV = x.map V.int := by
  unfold kk
  rw [List.map_map]
  rfl
theorem kk_inj {x y : Nm} (h : kk x = kk y) : x = y := by
  unfold kk at h
  exact (List.map_inj_right (fun a b e => Sum.inl.inj e)).mp h
/-- a dict of all names -/
def mk (ns : List Nm) (g : Nm → V) : List (List Key × V) := ns.map fun x => (kk x, g x)
theorem mk_val {ns : List Nm} {g : Nm → V} {x : Nm} : valV (mk ns g) (kk x) = if x ∈ ns then some (g x) else none := by
  induction ns with
  | nil => rfl
  | cons y r ih =>
    unfold mk at ih ⊢
    rw [List.map_cons]
    by_cases h : y = x
    · rw [valV_pos (by rw [h]), if_pos (by simp [h]), h]
    · rw [valV_neg (fun e => h (kk_inj e)), ih]
      by_cases h2 : x ∈ r
      · rw [if_pos h2, if_pos (List.mem_cons_of_mem _ h2)]
      · rw [if_neg h2, if_neg (fun z => (List.mem_cons.mp z).elim (fun e => h e.symm) h2)]
theorem mk_at {ns : List Nm} {g : Nm → V} {i : Nat} {k : List Key} {v : V} (h : (mk ns g)[i]? = some (k, v)) : ∃ x, ns[i]? = some x ∧ k = kk x ∧ v = g x := by
  unfold mk at h
  rw [List.getElem?_map] at h
  cases hx : ns[i]? with
  | none => rw [hx] at h; cases h
  | some x =>
    rw [hx] at h
    have h := Option.some.inj h
    exact ⟨x, rfl, (congrArg Prod.fst h).symm, (congrArg Prod.snd h).symm⟩
theorem mk_put {ns : List Nm} {g : Nm → V} {x : Nm} {v : V} (h : x ∈ ns) : putK (mk ns g) (kk x) v = mk ns fun y => if y = x then v else g y := by
  unfold putK
  rw [valV_any, mk_val, if_pos h, if_pos (show (some (g x)).isSome = true from rfl)]
  unfold mk
  rw [List.map_map]
  refine List.map_congr_left fun y _ => ?_
  by_cases e : y = x
  · simp [e]
  · have : ¬ kk y = kk x := fun z => e (kk_inj z)
    simp [e, this]
theorem mk_new {ns : List Nm} {g : Nm → V} {x : Nm} {v : V} (h : x ∉ ns) (hg : g x = v) : putK (mk ns g) (kk x) v = mk (ns ++ [x]) g := by
  rw [putK_new _ (by rw [mk_val, if_neg h])]
  unfold mk
  rw [List.map_append, ← hg]
  rfl
abbrev Rn := List (Addr × Nm)
abbrev rf (as : Rn) : List V := as.map fun b => V.ref b.1
abbrev nm (as : Rn) : List Nm := as.map (·.2)
/-- a name's tuple -/
def At (K : PySem.W.Frag) (H : Hp) (b : Addr × Nm) : Prop := H b.1 = some (.tup (b.2.map V.int))
theorem At.same {H H' : Hp} {b : Addr × Nm} (h : At K H b) (e : Same H H') : At K H' b := e _ _ h
theorem rf_at {as : Rn} {i : Nat} {v : V} (e : (rf as)[i]? = some v) : ∃ b, as[i]? = some b ∧ v = .ref b.1 := by
  rw [List.getElem?_map] at e
  cases hb : as[i]? with
  | none => rw [hb] at e; cases e
  | some b => rw [hb] at e; exact ⟨b, rfl, (Option.some.inj e).symm⟩
/-- a pair's tuple -/
structure PrAt (K : PySem.W.Frag) (H : Hp) (e : Addr × (Addr × Nm) × (Addr × Nm)) : Prop where
  tp : H e.1 = some (.tup [.ref e.2.1.1, .ref e.2.2.1])
  a : At K H e.2.1
  b : At K H e.2.2
def prs (qs : List (Addr × (Addr × Nm) × (Addr × Nm))) : List Pr := qs.map fun e => (e.2.1.2, e.2.2.2)
def optV (K : PySem.W.Frag) (H : Hp) (v : V) : Option (List Nm) → Prop
  | none => v = .non
  | some o => ∃ (p : Addr) (as : Rn), v = .ref p ∧ H p = some (.lst (rf as)) ∧ (∀ b ∈ as, At K H b) ∧ nm as = o
theorem take_no {as : Rn} (h : (nm as).Nodup) {i : Nat} {b : Addr × Nm} (hb : as[i]? = some b) : b.2 ∉ nm (as.take i) := fun z => by
  unfold nm at z h
  rw [List.map_take] at z
  obtain ⟨j, hj⟩ := List.mem_iff_getElem?.mp z
  rw [List.getElem?_take] at hj
  split at hj
  · rename_i hji
    have h1 : (as.map (·.2))[i]? = some b.2 := by rw [List.getElem?_map, hb]; rfl
    have h2 := (List.getElem?_inj (List.getElem?_eq_some_iff.mp h1).1 h).mp (h1.trans hj.symm)
    omega
  · cases hj
theorem take_no2 {ns : List Nm} (h : ns.Nodup) {i : Nat} {x : Nm} (hx : ns[i]? = some x) : x ∉ ns.take i := fun z => by
  obtain ⟨j, hj⟩ := List.mem_iff_getElem?.mp z
  rw [List.getElem?_take] at hj
  split at hj
  · have h2 := (List.getElem?_inj (List.getElem?_eq_some_iff.mp hx).1 h).mp (hx.trans hj.symm)
    omega
  · cases hj
theorem mk_len {ns : List Nm} {g : Nm → V} {n : Nat} (h : ns.length < n) : (mk ns g).length < n := by
  unfold mk
  rw [List.length_map]
  exact h
theorem mk_cong {ns : List Nm} {f g : Nm → V} (h : ∀ y ∈ ns, f y = g y) : mk ns g = mk ns f := List.map_congr_left fun y hy => by rw [h y hy]
/-- each name's list, behind H0 -/
structure Bl (H0 H : Hp) (bl : Nm → Addr) (ns : List Nm) (br : Nm → Rn) : Prop where
  at_ : ∀ x ∈ ns, H (bl x) = some (.lst (rf (br x))) ∧ H0 (bl x) = none
  inj : ∀ x ∈ ns, ∀ y ∈ ns, bl x = bl y → x = y
theorem Bl.add {H0 H H1 : Hp} {bl : Nm → Addr} {ns : List Nm} {t d : Addr} {x : Nm} {kvs : List (List Key × V)} {o : HO} (h : Bl H0 H bl ns fun _ => []) (s : Same H0 H) (s1 : Same H H1) (ht : Xk.Fr t H) (h1 : H1 t = some (.lst [])) (hx : x ∉ ns) (hd : H1 d = some (.dT kvs)) :
    Bl H0 (upd H1 d o) (fun y => if y = x then t else bl y) (ns ++ [x]) fun _ => [] := by
  have ne : ∀ y ∈ ns, y ≠ x := fun y hy e => hx (e ▸ hy)
  refine ⟨fun y hy => ?_, fun y hy z hz e => ?_⟩
  · rcases List.mem_append.mp hy with hy | hy
    · rw [if_neg (ne y hy)]
      have := h.at_ y hy
      exact ⟨by rw [upd_ne (ne_of (s1 _ _ this.1) hd (by simp))]; exact s1 _ _ this.1, this.2⟩
    · rw [if_pos (List.mem_singleton.mp hy)]
      exact ⟨by rw [upd_ne (ne_of h1 hd (by simp))]; exact h1, Same.free s ht.1⟩
  · have tn : ∀ y ∈ ns, bl y ≠ t := fun y hy e => ne_of_none (h.at_ y hy).1 ht.1 e
    rcases List.mem_append.mp hy with hy | hy <;> rcases List.mem_append.mp hz with hz | hz
    · rw [if_neg (ne y hy), if_neg (ne z hz)] at e
      exact h.inj y hy z hz e
    · rw [if_neg (ne y hy), if_pos (List.mem_singleton.mp hz)] at e
      exact absurd e (tn y hy)
    · rw [if_pos (List.mem_singleton.mp hy), if_neg (ne z hz)] at e
      exact absurd e.symm (tn z hz)
    · rw [List.mem_singleton.mp hy, List.mem_singleton.mp hz]
theorem x_lockDcT {g : TG} {t : TT} {tk tv : TE} {vs : List Nat} {σ : L2.St} {D : Ends} {H : Hp} {a n : Nat} {r : Addr} {kvs : List (List Key × V)} (ea : σ[a]? = some (some (.ref r))) (hr : H r = some (.dT kvs))
    (q : ∀ od H0, H0 = upd H r (.frz od (.dT kvs)) → ∃ Pv : Addr → Nat → Hp → Prop, (∀ Dl, Xk.Fr Dl H0 → Pv Dl 0 (upd H0 Dl (.dT []))) ∧ (∀ Dl i H', Xk.Fr Dl H0 → Pv Dl i H' → H' r = some (.frz od (.dT kvs))) ∧
      (∀ Dl, Xk.Fr Dl H0 → ∀ i k v p H', kvs[i]? = some (k, v) → H' p = some (.tup (k.map kV)) → Pv Dl i H' → Xk.DcTurn g t tk tv vs σ Dl (Pv Dl (i + 1)) (.ref p) H') ∧
      ∀ Dl H', Xk.Fr Dl H0 → Pv Dl kvs.length H' → D.nx (σ.set n (some (.ref Dl))) (upd H' r (.dT kvs))) : tLock (tAsg (Xk.tDcT (iKeys (tVar a)) g t tk tv vs) (gName n)) D σ H := by
  refine ⟨r, _, hr, trivial, fun od => ?_⟩
  obtain ⟨Pv, h0, h1, h2, h3⟩ := q od _ rfl
  refine ⟨.ref r, ea, r, od, rfl, .inr ⟨kvs, upd_same, fun Dl hD => ⟨fun i m G => m = kvs.length - i ∧ i ≤ kvs.length ∧ Pv Dl i G, ⟨kvs.length, by omega, Nat.zero_le _, h0 Dl ⟨hD⟩⟩, ?_⟩⟩⟩
  intro i m G hw
  obtain ⟨em, hi, p⟩ := hw
  have hz := h1 Dl i G ⟨hD⟩ p
  rcases Nat.lt_or_ge i kvs.length with lt | ge
  · refine .inr ⟨⟨hz, lt⟩, Pv Dl (i + 1), fun G3 p3 => ⟨kvs.length - (i + 1), by omega, rfl, lt, p3⟩, fun x G3 y => ?_⟩
    obtain ⟨rfl, k, v, q, e, rfl, hq⟩ := y
    exact h2 Dl ⟨hD⟩ i k v q _ e hq p
  · obtain rfl : i = kvs.length := by omega
    exact .inl ⟨⟨hz, Nat.le_refl _⟩, hz, h3 Dl G ⟨hD⟩ p⟩
theorem mk_length (ns : List Nm) (g : Nm → V) : (mk ns g).length = ns.length := by
  unfold mk
  rw [List.length_map]
/-- the two dicts and the names' lists -/
structure Dg (H : Hp) (d bd : Addr) (bl : Nm → Addr) (ns : List Nm) (ah : Nm → Int) (br : Nm → Rn) : Prop where
  da : H d = some (.dT (mk ns fun x => V.int (ah x)))
  db : H bd = some (.dT (mk ns fun x => V.ref (bl x)))
  dl : ∀ x ∈ ns, H (bl x) = some (.lst (rf (br x)))
  inj : ∀ x ∈ ns, ∀ y ∈ ns, bl x = bl y → x = y
theorem din {H : Hp} {d : Addr} {b : Addr × Nm} {ns : List Nm} {g : Nm → V} {Q : VK} (e : H d = some (.dT (mk ns g))) (h : At K H b) (hin : b.2 ∈ ns) (q : Q (.bl true) H) : Xk.rDInK (.ref b.1) Q (.ref d) H := by
  refine Xk.x_dinT (k := kk b.2) e (by rw [kk_V]; exact h) ?_
  rw [mk_val, if_pos hin]
  exact q
theorem dget {H : Hp} {d : Addr} {b : Addr × Nm} {ns : List Nm} {g : Nm → V} (e : H d = some (.dT (mk ns g))) (h : At K H b) (hin : b.2 ∈ ns) : DGet H d (.ref b.1) (some (g b.2)) := by
  have := DGet.t (k := kk b.2) e (by rw [kk_V]; exact h)
  rw [mk_val, if_pos hin] at this
  exact this
theorem dgetF {H : Hp} {d : Addr} {b : Addr × Nm} {ns : List Nm} {g : Nm → V} {od : Obj} (e : H d = some (.frz od (.dT (mk ns g)))) (h : At K H b) (hin : b.2 ∈ ns) : DGet H d (.ref b.1) (some (g b.2)) :=
  .inr ⟨_, kk b.2, b.1, .inr ⟨_, e⟩, rfl, by rw [kk_V]; exact h, by rw [mk_val, if_pos hin]⟩
theorem dput {H : Hp} {d : Addr} {b : Addr × Nm} {ns : List Nm} {g : Nm → V} {v : V} (e : H d = some (.dT (mk ns g))) (h : At K H b) (hin : b.2 ∈ ns) (hl : ns.length < 100000) : DPut H d (.ref b.1) v (upd H d (.dT (mk ns fun y => if y = b.2 then v else g y))) := by
  have := DPut.t (k := kk b.2) (v := v) e (by rw [kk_V]; exact h) (Xk.size_lt (mk_len hl))
  rw [mk_put hin] at this
  exact this
theorem at_pk {H : Hp} {b : Addr × Nm} (h : At K H b) : Xk.Pk K H 1 (.ref b.1) (.tuple (b.2.map .int)) := Xk.pk_tup (Xk.st_of h) (Xk.pk_ints b.2)
theorem ne_at {H : Hp} {a b : Addr × Nm} {Q : VK} (h : At K H a) (h' : At K H b) (hne : a.2 ≠ b.2) (q : Q (.bl true) H) : rNeD K (.ref a.1) (.ref b.1) H Q := by
  refine ⟨_, _, (at_pk h).1, (at_pk h').1, Xk.shaped_of (at_pk h).lay (Nat.le_trans (at_pk h).2.2 (by decide)), Xk.shaped_of (at_pk h').lay (Nat.le_trans (at_pk h').2.2 (by decide)), ?_⟩
  rw [Xk.eqv_tup, decide_eq_false hne]
  exact q
theorem dg_put {H : Hp} {d bd : Addr} {bl : Nm → Addr} {ns : List Nm} {ah : Nm → Int} {br : Nm → Rn} {x : Nm} {v : Int} (h : Dg H d bd bl ns ah br) (hne : d ≠ bd) : Dg (upd H d (.dT (mk ns fun y => if y = x then V.int v else V.int (ah y)))) d bd bl ns (fun y => if y = x then v else ah y) br := by
  refine ⟨?_, ?_, fun y hy => ?_, h.inj⟩
  · rw [upd_same]
    congr 2
    exact mk_cong fun y _ => by by_cases e : y = x <;> simp [e]
  · rw [upd_ne (Ne.symm hne)]
    exact h.db
  · rw [upd_ne (ne_of (h.dl y hy) h.da (by simp))]
    exact h.dl y hy
theorem dg_app {H : Hp} {d bd : Addr} {bl : Nm → Addr} {ns : List Nm} {ah : Nm → Int} {br : Nm → Rn} {x : Nm} {b : Addr × Nm} (h : Dg H d bd bl ns ah br) (hx : x ∈ ns) : Dg (upd H (bl x) (.lst (rf (br x) ++ [.ref b.1]))) d bd bl ns ah (fun y => if y = x then br y ++ [b] else br y) := by
  refine ⟨?_, ?_, fun y hy => ?_, h.inj⟩
  · rw [upd_ne (ne_of h.da (h.dl x hx) (by simp))]
    exact h.da
  · rw [upd_ne (ne_of h.db (h.dl x hx) (by simp))]
    exact h.db
  · by_cases e : y = x
    · rw [e, upd_same, if_pos rfl]
      simp [rf]
    · rw [upd_ne (fun z => e (h.inj y hy x hx z)), if_neg e]
      exact h.dl y hy
theorem dg_to {H : Hp} {d bd : Addr} {bl : Nm → Addr} {ns : List Nm} {ah ah' : Nm → Int} {br br' : Nm → Rn} (h : Dg H d bd bl ns ah br) (h1 : ∀ y, ah y = ah' y) (h2 : ∀ y, br y = br' y) : Dg H d bd bl ns ah' br' := by
  have e1 : ah = ah' := funext h1
  have e2 : br = br' := funext h2
  rw [← e1, ← e2]
  exact h
theorem x_lockLcT {g : TG} {t : TT} {te : TE} {vs : List Nat} {σ : L2.St} {D : Ends} {H : Hp} {a n : Nat} {r : Addr} {kvs : List (List Key × V)} (ea : σ[a]? = some (some (.ref r))) (hr : H r = some (.dT kvs))
    (q : ∀ od H0, H0 = upd H r (.frz od (.dT kvs)) → ∃ Pv : Addr → Nat → Hp → Prop, (∀ Dl, Xk.Fr Dl H0 → Pv Dl 0 (upd H0 Dl (.lst []))) ∧ (∀ Dl i H', Xk.Fr Dl H0 → Pv Dl i H' → H' r = some (.frz od (.dT kvs))) ∧
      (∀ Dl, Xk.Fr Dl H0 → ∀ i k v p H', kvs[i]? = some (k, v) → H' p = some (.tup (k.map kV)) → Pv Dl i H' → g (.ref p) (wipe σ vs) H' fun σ2 H2 => wipe σ2 vs = wipe σ vs ∧ t σ2 H2 fun b H3 =>
        if b = true then te σ2 H3 fun y H4 => ∃ acc, H4 Dl = some (.lst acc) ∧ acc.length < sizeLine ∧ Pv Dl (i + 1) (upd H4 Dl (.lst (acc ++ [y]))) else Pv Dl (i + 1) H3) ∧
      ∀ Dl H', Xk.Fr Dl H0 → Pv Dl kvs.length H' → D.nx (σ.set n (some (.ref Dl))) (upd H' r (.dT kvs))) : tLock (tAsg (tLc (iKeys (tVar a)) g t te vs) (gName n)) D σ H := by
  refine ⟨r, _, hr, trivial, fun od => ?_⟩
  obtain ⟨Pv, h0, h1, h2, h3⟩ := q od _ rfl
  refine ⟨.ref r, ea, r, od, rfl, .inr ⟨kvs, upd_same, fun Dl hD => ?_⟩⟩
  refine lc_it (walk_keysT (o := od)) (Pv Dl) (h0 Dl ⟨hD⟩) (fun i H' _ p => h1 Dl i H' ⟨hD⟩ p) (fun i x H1 H' _ p y => ?_) fun H' p => ⟨h1 Dl _ H' ⟨hD⟩ p, h3 Dl H' ⟨hD⟩ p⟩
  obtain ⟨rfl, k, v, q, e, rfl, hq⟩ := y
  exact h2 Dl ⟨hD⟩ i k v q _ e hq p
def brT (qs : List (Addr × (Addr × Nm) × (Addr × Nm))) (x : Nm) : Rn := (qs.filter fun e => decide (e.2.1.2 = x)).map (·.2.2)
def ahT (qs : List (Addr × (Addr × Nm) × (Addr × Nm))) (y : Nm) : Int := (cnt (prs qs) [] y : Nat)
theorem ahT_next {qs : List (Addr × (Addr × Nm) × (Addr × Nm))} {i : Nat} {e : Addr × (Addr × Nm) × (Addr × Nm)} (h : qs[i]? = some e) (y : Nm) : ahT (qs.take (i + 1)) y = ahT (qs.take i) y + if y = e.2.2.2 then 1 else 0 := by
  unfold ahT cnt prs
  rw [List.take_add_one, h, List.map_append, List.countP_append]
  by_cases z : y = e.2.2.2
  · simp [z]
  · have w : ¬ e.2.2.2 = y := fun w => z w.symm
    simp [z, w]
theorem brT_next {qs : List (Addr × (Addr × Nm) × (Addr × Nm))} {i : Nat} {e : Addr × (Addr × Nm) × (Addr × Nm)} (h : qs[i]? = some e) (y : Nm) : brT (qs.take (i + 1)) y = brT (qs.take i) y ++ if y = e.2.1.2 then [e.2.2] else [] := by
  unfold brT
  rw [List.take_add_one, h, List.filter_append, List.map_append]
  by_cases z : y = e.2.1.2
  · simp [z]
  · have w : ¬ e.2.1.2 = y := fun w => z w.symm
    simp [z, w]
/-- what the tuple at a holds -/
def keyH (H : Hp) (a : Addr) : Nm := match H a with
  | some (.tup xs) => xs.filterMap fun v => match v with
    | .int i => some i
    | _ => none
  | _ => []
theorem keyH_at {H : Hp} {b : Addr × Nm} (h : At K H b) : keyH H b.1 = b.2 := by
  unfold keyH
  unfold At at h
  rw [h]
  show (b.2.map V.int).filterMap _ = b.2
  rw [List.filterMap_map]
  exact List.filterMap_some
theorem arr_br (qs : List (Addr × (Addr × Nm) × (Addr × Nm))) (x y : Nm) : arr (prs qs) x y = (nm (brT qs x)).count y := by
  unfold arr prs nm brT
  induction qs with
  | nil => rfl
  | cons e r ih =>
    rw [List.map_cons, List.countP_cons, ih, List.filter_cons]
    by_cases h1 : e.2.1.2 = x
    · by_cases h2 : e.2.2.2 = y <;> simp [h1, h2, List.count_cons]
    · simp [h1]
/-- the state between two turns -/
structure Lp (K : PySem.W.Frag) (H0 H5 H : Hp) (d bd f op : Addr) (bl : Nm → Addr) (ns : List Nm) (qs : List (Addr × (Addr × Nm) × (Addr × Nm))) (srt : List Nm) (zs : List Addr) (o : Rn) (ah : Nm → Int) : Prop where
  same : Same H0 H
  tups : ∀ a xs, H5 a = some (.tup xs) → H a = some (.tup xs)
  dg : Dg H d bd bl ns ah (brT qs)
  fr : H f = some (.lst (zs.map V.ref))
  od : H op = some (.lst (rf o))
  hp : Xk.HpK (keyH H5) zs
  za : ∀ a ∈ zs, At K H5 (a, keyH H5 a)
  oa : ∀ b ∈ o, At K H5 b
  ond : (nm o).Nodup
  osub : ∀ y ∈ nm o, y ∈ ns
  oc : ∀ y ∈ nm o, cnt (prs qs) (nm o) y = 0
  cn : ∀ y ∈ ns, y ∉ nm o → ah y = (cnt (prs qs) (nm o) y : Nat)
  znd : (zs.map (keyH H5)).Nodup
  zm : ∀ y, y ∈ zs.map (keyH H5) ↔ y ∈ ns ∧ y ∉ nm o ∧ cnt (prs qs) (nm o) y = 0
  du : DueFrom ns (prs qs) srt (nm o)
theorem nodup_sub : ∀ {xs ys : List Nm}, xs.Nodup → (∀ x ∈ xs, x ∈ ys) → xs.length ≤ ys.length
  | [], ys, _, _ => Nat.zero_le _
  | x :: xs, ys, h, hs => by
    obtain ⟨h1, h2⟩ := List.nodup_cons.mp h
    have hx := hs x (List.mem_cons_self ..)
    have h3 := nodup_sub (ys := ys.erase x) h2 fun y hy => (List.mem_erase_of_ne (fun e => h1 (by rw [← e]; exact hy))).mpr (hs y (List.mem_cons_of_mem _ hy))
    rw [List.length_erase_of_mem hx] at h3
    have := List.length_pos_of_mem hx
    show xs.length + 1 ≤ _
    omega
def sp_sorted_names (K : PySem.W.Frag) : Sp := fun vs H Q _ => ∃ (n p : Addr) (as : Rn) (qs : List (Addr × (Addr × Nm) × (Addr × Nm))) (srt : List Nm), vs = [.ref n, .ref p] ∧ ((H n = some (.lst (rf as)) ∧ ∀ b ∈ as, At K H b) ∨ H n = some (.dT (mk (nm as) fun _ => V.int 1))) ∧ H p = some (.lst (qs.map fun e => V.ref e.1)) ∧ (∀ e ∈ qs, PrAt K H e) ∧
  as.length ≤ 20 ∧ qs.length ≤ 50 ∧ Ok (nm as) (prs qs) srt ∧ ∀ H' v, Same H H' → optV K H' v (dueGo (prs qs) as.length srt) → Q v H'
theorem ok_sorted_names (T : Txt K mg) : FnOk P w K mg base CX0 1 T.f_sorted_names T.d_sorted_names ["names", "pairs"] (sp_sorted_names K) := by
  refine T.F_sorted_names.ok sc_sorted_names (fun vs H Q E h => ?_) (fun cdv A outer s H vs Q E hr h => ?_)
  · obtain ⟨n, p, as, qs, srt, rfl, _⟩ := h
    rfl
  obtain ⟨n, p, as, qs, srt, rfl, hn, hp, hqa, hal, hql, ok, k⟩ := h
  rcases hn with ⟨hn, hat⟩ | hn
  · refine ⟨_, (pss_cons (ps_set (i := 2) sc_sorted_names.nd rfl (Or.inr rfl) (Xk.pe_dcT (own := [("name", 8)]) (g := gName 8) (tt := tYes) rfl (hu_of hr) sc_sorted_names.nd  (pi_list (pv 0)) (blkOk_by (N := N_sorted_names) (sc := defScope s_sorted_names) (own := [("name", 8)]) (by decide +kernel)) (fun _ _ _ _ _ => pg_name (i := 8) sc_sorted_names.nd rfl (Or.inl rfl)) (fun _ _ _ _ _ => pts_nil) (fun _ _ _ _ _ => (pv 8)) (fun _ _ _ _ _ => (pe_int))))
      (pss_cons (Xk.ps_setDcT (i := 3) (own := [("name", 8)]) (g := gName 8) (tt := tYes) rfl (hu_of hr) sc_sorted_names.nd rfl rfl (Xk.sw_trueD rfl rfl rfl (by decide +kernel)) (pi_list (pv 0)) (blkOk_by (N := N_sorted_names) (sc := defScope s_sorted_names) (own := [("name", 8)]) (by decide +kernel)) (fun _ _ _ _ _ => pg_name (i := 8) sc_sorted_names.nd rfl (Or.inl rfl)) (fun _ _ _ _ _ => pts_nil) (fun _ _ _ _ _ => (pv 8)) (fun _ _ _ _ _ => (pe_lst pa_nil)))
      (pss_cons (ps_for PassesOwn.never rfl (pi_list (pv 1)) (pg_tup rfl (pgs_cons (pg_name (i := 4) sc_sorted_names.nd rfl (Or.inl rfl)) (pgs_cons (pg_name (i := 5) sc_sorted_names.nd rfl (Or.inl rfl)) pgs_nil))) (pss_one (ps_if (PW.pt (pw_and (pt_cmp (pc_din (hu_of hr) (pv 4) (pv 2))) (pw_and (pt_cmp (pc_din (hu_of hr) (pv 5) (pv 2))) (pw_and1 (pt_cmpR (Xk.k_neD (K := K) hr.units (by rfl)) (pv 4) (pv 5) (nomark _)))))) (pss_cons (ps_daug (hu_of hr) (pv 2) (pv 5) (pe_int) in_add (by intros; rfl))
      (pss_one (ps_expr (pe_bm PySem.F.plainAttrs_list PySem.F.slot_list_append PySem.F.type_list_append mt_append (pe_dget (hu_of hr) (pv 3) (pv 4) (fun _ _ => rfl)) (pa_cons (pv 5) pa_nil))))) pss_nil)))
      (pss_cons (ps_lock (ps_setLc (i := 6) (own := [("name", 8)]) (g := gName 8) rfl sc_sorted_names.nd rfl rfl (sw_true rfl rfl rfl (by decide +kernel)) (pi_keys (pv 2)) (blkOk_by (N := N_sorted_names) (sc := defScope s_sorted_names) (own := [("name", 8)]) (by decide +kernel)) (fun _ _ _ _ _ => pg_name (i := 8) sc_sorted_names.nd rfl (Or.inl rfl)) (fun _ _ _ _ _ => pts_one (pt_cmpR op_eq (pe_dget (hu_of hr) (pv 2) (pv 8) (fun _ _ => rfl)) (pe_int) (nomark _))) (fun _ _ _ _ _ => (pv 8))))
      (pss_cons (ps_expr (Xk.pe_callBG (Xk.k_heapify (K := K) hr.units (by rfl)) (by rfl) T.i_heapify (pa_cons (pv 6) pa_nil)))
      (pss_cons (ps_set (i := 7) sc_sorted_names.nd rfl (Or.inl rfl) (pe_lst pa_nil))
      (Evl.pss_cut (ps_while PassesOwn.never (pt_truth (pv 6) (by intro _; rfl)) (pss_cons (ps_set (i := 8) sc_sorted_names.nd rfl (Or.inl rfl) (Xk.pe_callBG (Xk.k_heappop (K := K) hr.units (by rfl)) (by rfl) T.i_heappop (pa_cons (pv 6) pa_nil)))
      (pss_cons (ps_expr (pe_bm PySem.F.plainAttrs_list PySem.F.slot_list_append PySem.F.type_list_append mt_append (pv 7) (pa_cons (pv 8) pa_nil)))
      (pss_one (ps_for PassesOwn.never rfl (pi_list (pe_dget (hu_of hr) (pv 3) (pv 8) (fun _ _ => rfl))) (pg_name (i := 9) sc_sorted_names.nd rfl (Or.inl rfl)) (pss_cons (ps_daug (hu_of hr) (pv 2) (pv 9) (pe_int) in_sub (by intros; rfl))
      (pss_one (ps_if (pt_cmpR op_eq (pe_dget (hu_of hr) (pv 2) (pv 9) (fun _ _ => rfl)) (pe_int) (nomark _)) (pss_one (ps_expr (Xk.pe_callBG (Xk.k_heappush (K := K) hr.units (by rfl)) (by rfl) T.i_heappush (pa_cons (pv 6) (pa_cons (pv 9) pa_nil))))) pss_nil))))))))
      (pss_one (ps_ret (pe_ifExp (pt_cmpR op_eq (pe_callB (Xk.k_len (K := K) (by rfl)) (by rfl) T.m_len PySem.boot_len (pa_cons (pv 7) pa_nil)) (pe_callB call_len_dT (by rfl) T.m_len PySem.boot_len (pa_cons (pv 2) pa_nil)) (nomark _)) (pv 7) (pe_non))))))))))), ?_⟩
    wtm_at "x0"
    have hn1 := Xk.sq_of (K := K) hn
    wtm_at "xs"
    refine Xk.x_dcTL (xs := rf as) (fun d i H' => Same H H' ∧ H' d = some (.dT (mk (nm (as.take i)) fun _ => V.int 0))) hn1 (fun d hd => ⟨Xk.same_fr hd, upd_same⟩) (fun d i H' hd s => Xk.sq_same hn1 s.1) ?_ ?_
    · rintro d hd i x H' hx ⟨s1, h1⟩
      obtain ⟨b, hb, rfl⟩ := rf_at hx
      have hba := (hat b (List.mem_of_getElem? hb)).same s1
      have hil := Xk.at_lt hb
      have et : nm (as.take (i + 1)) = nm (as.take i) ++ [b.2] := by
        rw [List.take_add_one, hb]
        simp [nm]
      have hno := take_no ok.nd hb
      show Xk.DcTurn _ _ _ _ _ _ _ _ _ _
      unfold Xk.DcTurn
      wtm_at "xs"
      refine ⟨rfl, ?_⟩
      wtm_at "xs"
      refine Xk.x_putT (k := kk b.2) h1 (by rw [kk_V]; exact hba) (mk_len (by rw [List.length_map, List.length_take]; omega)) ⟨Xk.same_mut s1 hd, ?_⟩
      rw [upd_same, et, mk_new hno rfl]
    rintro d H1 hd ⟨s1, h1⟩
    rw [show as.take (rf as).length = as by rw [List.length_map, List.take_length]] at h1
    have hn2 := Xk.sq_same hn1 s1
    have hat1 : ∀ b ∈ as, At K H1 b := fun b hb => (hat b hb).same s1
    have hqa1 : ∀ e ∈ qs, PrAt K H1 e := fun e he => ⟨s1 _ _ (hqa e he).tp, (hqa e he).a.same s1, (hqa e he).b.same s1⟩
    have hp1 := s1 _ _ hp
    wtm_at "xs"
    refine Xk.x_dcTL (xs := rf as) (fun b i H' => Same H1 H' ∧ ∃ bl : Nm → Addr, H' b = some (.dT (mk (nm (as.take i)) fun x => V.ref (bl x))) ∧ Bl H1 H' bl (nm (as.take i)) (fun _ => [])) hn2 (fun b hb => ⟨Xk.same_fr hb, fun _ => 0, upd_same, fun x hx => absurd hx (List.not_mem_nil), fun x hx => absurd hx (List.not_mem_nil)⟩) (fun d i H' hd s => Xk.sq_same hn2 s.1) ?_ ?_
    · rintro bd hbd i x H' hx ⟨s2, bl, h2, hB⟩
      obtain ⟨b, hb, rfl⟩ := rf_at hx
      have hba := (hat1 b (List.mem_of_getElem? hb)).same s2
      have hil := Xk.at_lt hb
      have et : nm (as.take (i + 1)) = nm (as.take i) ++ [b.2] := by
        rw [List.take_add_one, hb]
        simp [nm]
      have hno := take_no ok.nd hb
      show Xk.DcTurn _ _ _ _ _ _ _ _ _ _
      unfold Xk.DcTurn
      wtm_at "xs"
      refine ⟨rfl, ?_⟩
      wtm_at "xs"
      intro t H2 ht s3 h3
      have h23 := s3 _ _ h2
      refine Xk.x_putT (k := kk b.2) h23 (by rw [kk_V]; exact hba.same s3) (mk_len (by rw [List.length_map, List.length_take]; omega)) ⟨Xk.same_mut (s2.trans s3) hbd, fun y => if y = b.2 then t else bl y, ?_, ?_⟩
      · rw [upd_same, et, mk_cong (g := fun x => V.ref (bl x)) (f := fun y => V.ref (if y = b.2 then t else bl y)) fun y hy => by rw [if_neg (fun e : y = b.2 => hno (e ▸ hy))], mk_new hno (by rw [if_pos rfl])]
      · rw [et]
        exact hB.add s2 s3 ht h3 hno h23
    rintro bd H2 hbd ⟨s2, bl, h2, hB⟩
    rw [show as.take (rf as).length = as by rw [List.length_map, List.take_length]] at h2 hB
    have s02 := s1.trans s2
    have hfd : Xk.Fr d H := hd
    have hfb : Xk.Fr bd H := ⟨Same.free s1 hbd.1⟩
    have hfl : ∀ x ∈ nm as, Xk.Fr (bl x) H := fun x hx => ⟨Same.free s1 (hB.at_ x hx).2⟩
    have hD : Dg H2 d bd bl (nm as) (ahT (qs.take 0)) (brT (qs.take 0)) := ⟨s2 _ _ h1, h2, fun x hx => (hB.at_ x hx).1, hB.inj⟩
    have hp2 := Xk.sq_of (K := K) (s2 _ _ hp1)
    have hdb : d ≠ bd := ne_of_none h1 hbd.1
    clear hn1 hn2 hat1 hqa1 hp1 h1 h2 s1 s2 hd hbd hB
    wtm_at "xs"
    refine Xk.x_forL (xs := qs.map fun e => V.ref e.1) (fun i σ' H' => ∃ (y4 y5 : Option V), σ' = [some (V.ref n), some (V.ref p), some (V.ref d), some (V.ref bd), y4, y5, none, none, none, none] ∧ Same H H' ∧ Dg H' d bd bl (nm as) (ahT (qs.take i)) (brT (qs.take i))) hp2 ⟨_, _, rfl, s02, hD⟩ (fun i σ' H' _ ⟨_, _, _, s, _⟩ => Xk.sq_of (s _ _ hp)) ?_ ?_
    · clear hD hp2 s02
      rintro i v σ' H3 hi ⟨y4, y5, rfl, s3, hD⟩
      obtain ⟨e, he, rfl⟩ := Xk.of_map_at hi
      have hq := hqa e (List.mem_of_getElem? he)
      have hpin := ok.pin (e.2.1.2, e.2.2.2) (List.mem_map_of_mem (f := fun e : Addr × (Addr × Nm) × (Addr × Nm) => (e.2.1.2, e.2.2.2)) (List.mem_of_getElem? he))
      have htp := Xk.st_of (K := K) (s3 _ _ hq.tp)
      have ha := hq.a.same s3
      have hb := hq.b.same s3
      have hnl : (nm as).length < 100000 := by rw [List.length_map]; omega
      wtm_at "xs"
      refine din hD.da ha hpin.1 ⟨_, rfl, ?_⟩
      wtm_at "xs"
      refine din hD.da hb hpin.2.1 ⟨_, rfl, ?_⟩
      wtm_at "xs"
      refine ne_at ha hb hpin.2.2 ⟨_, rfl, ?_⟩
      wtm_at "xs"
      unfold sDAug
      wtm_at "xs"
      refine ⟨d, _, rfl, dget hD.da hb hpin.2.1, ?_⟩
      wtm_at "xs"
      refine ⟨_, _, rfl, rfl, _, dput hD.da hb hpin.2.1 hnl, ?_⟩
      have hD2 := dg_put hD (x := e.2.2.2) (v := ahT (qs.take i) e.2.2.2 + 1) hdb
      have s4 := Xk.same_mut (o := .dT (mk (nm as) fun y => if y = e.2.2.2 then V.int (ahT (qs.take i) e.2.2.2 + 1) else V.int (ahT (qs.take i) y))) s3 hfd
      have ha4 := hq.a.same s4
      have hb4 := hq.b.same s4
      generalize upd H3 d _ = H4 at *
      have hl4 := hD2.dl _ hpin.1
      have hbl : (brT (qs.take i) e.2.1.2).length ≤ 50 := by
        unfold brT
        rw [List.length_map]
        refine Nat.le_trans (List.length_filter_le ..) ?_
        rw [List.length_take]
        omega
      wtm_at "xs"
      refine ⟨bd, _, rfl, dget hD2.db ha4 hpin.1, ?_⟩
      wtm_at "xs"
      refine ⟨_, _, rfl, Xk.same_mut s4 (hfl _ hpin.1), dg_to (dg_app hD2 (b := e.2.2) hpin.1) (fun y => ?_) fun y => ?_⟩
      · rw [ahT_next he]
        by_cases z : y = e.2.2.2 <;> simp [z]
      · rw [brT_next he]
        by_cases z : y = e.2.1.2 <;> simp [z]
    · rintro σ' H3 ⟨y4, y5, rfl, s3, hD⟩
      rw [List.length_map, List.take_length] at hD
      wtm_at "xs"
      refine x_lockLcT (r := d) rfl hD.da fun od H0 e0 => ?_
      have h0d : H0 d = some (.frz od (.dT (mk (nm as) fun x => V.int (ahT qs x)))) := by rw [e0, upd_same]
      refine ⟨fun Dl i H' => Same H0 H' ∧ ∃ fs : Rn, H' Dl = some (.lst (rf fs)) ∧ (∀ b ∈ fs, At K H' b) ∧ nm fs = ((nm as).take i).filter fun x => decide (ahT qs x = 0), ?_, ?_, ?_, ?_⟩
      · exact fun Dl hf => ⟨Xk.same_fr hf, [], upd_same, fun b hb => absurd hb (List.not_mem_nil), rfl⟩
      · exact fun Dl i H' _ h => h.1 _ _ h0d
      · rintro Dl hf i k v q H' hi hq ⟨s4, fs, h4, hfs, hnm⟩
        obtain ⟨x, hx, rfl, rfl⟩ := mk_at hi
        have hq2 : At K H' (q, x) := by
          rw [kk_V] at hq
          exact hq
        have hd4 := s4 _ _ h0d
        have hxm := List.mem_of_getElem? hx
        have et : ((nm as).take (i + 1)).filter (fun x => decide (ahT qs x = 0)) = nm fs ++ if ahT qs x = 0 then [x] else [] := by
          rw [List.take_add_one, hx, List.filter_append, ← hnm]
          by_cases z : ahT qs x = 0 <;> simp [z]
        have hfl2 : fs.length ≤ 20 := by
          have h1 : (nm fs).length ≤ (nm as).length := by
            rw [hnm]
            refine Nat.le_trans (List.length_filter_le ..) ?_
            rw [List.length_take]
            omega
          rw [List.length_map, List.length_map] at h1
          omega
        wtm_at "xs"
        refine ⟨rfl, ?_⟩
        wtm_at "xs"
        refine ⟨d, _, rfl, dgetF hd4 hq2 hxm, ?_⟩
        wtm_at "xs"
        refine Xk.x_itd (fun h => ?_) (fun h => ?_)
        · have hz : ahT qs x = 0 := by injection h
          wtm_at "xs"
          refine ⟨_, h4, Xk.size_lt (by rw [List.length_map]; omega), Xk.same_mut s4 hf, fs ++ [(q, x)], ?_, fun b hb => ?_, ?_⟩
          · rw [upd_same]
            simp [rf]
          · have hb2 : At K H' b := by
              rcases List.mem_append.mp hb with hb | hb
              · exact hfs b hb
              · rw [List.mem_singleton.mp hb]
                exact hq2
            unfold At
            rw [upd_ne (ne_of hb2 h4 (by simp))]
            exact hb2
          · rw [et, if_pos hz]
            simp [nm]
        · have hz : ¬ ahT qs x = 0 := fun z => h (by rw [z])
          refine ⟨s4, fs, h4, hfs, ?_⟩
          rw [et, if_neg hz, List.append_nil]
      · rintro Dl H' hf ⟨s4, fs, h4, hfs, hnm⟩
        have nDd : Dl ≠ d := fun z => by
          have h1 := hf.1
          rw [z, h0d] at h1
          cases h1
        have h03 : ∀ b o, b ≠ d → H3 b = some o → H' b = some o := fun b o n e => s4 _ _ (by rw [e0, upd_ne n]; exact e)
        have s5 : Same H (upd H' d (.dT (mk (nm as) fun x => V.int (ahT qs x)))) := fun b o e => by
          have nb : b ≠ d := ne_of_none e hfd.1
          rw [upd_ne nb]
          exact h03 b o nb (s3 _ _ e)
        have hD5 : Dg (upd H' d (.dT (mk (nm as) fun x => V.int (ahT qs x)))) d bd bl (nm as) (ahT qs) (brT qs) :=
          ⟨upd_same, by rw [upd_ne (Ne.symm hdb)]; exact h03 _ _ (Ne.symm hdb) hD.db, fun x hx => by
            have nb := ne_of (hD.dl x hx) hD.da (by simp)
            rw [upd_ne nb]
            exact h03 _ _ nb (hD.dl x hx), hD.inj⟩
        have hfr : Xk.Fr Dl H := ⟨Same.free s3 (by have h1 := hf.1; rw [e0, upd_ne nDd] at h1; exact h1)⟩
        have h5 : upd H' d (.dT (mk (nm as) fun x => V.int (ahT qs x))) Dl = some (.lst (rf fs)) := by
          rw [upd_ne nDd]
          exact h4
        have hfs5 : ∀ b ∈ fs, At K (upd H' d (.dT (mk (nm as) fun x => V.int (ahT qs x)))) b := fun b hb => by
          unfold At
          rw [upd_ne (ne_of (hfs b hb) (s4 _ _ h0d) (by simp))]
          exact hfs b hb
        rw [show (mk (nm as) fun x => V.int (ahT qs x)).length = (nm as).length by unfold mk; rw [List.length_map], List.take_length] at hnm
        generalize upd H' d _ = H5 at *
        have nfl : ∀ x ∈ nm as, bl x ≠ Dl := fun x hx z => by
          have nb := ne_of (hD.dl x hx) hD.da (by simp)
          have h1 := hf.1
          rw [← z, e0, upd_ne nb, hD.dl x hx] at h1
          cases h1
        clear h4 hfs s4 h03 h0d e0 hf hD s3
        wtm_at "xs"
        have hfsl : fs.length ≤ 20 := by
          have h1 : (nm fs).length ≤ (nm as).length := by
            rw [hnm]
            exact List.length_filter_le ..
          rw [List.length_map, List.length_map] at h1
          omega
        refine ⟨Dl, fs.map (·.1), keyH H5, rfl, by rw [h5, List.map_map]; rfl, fun b hb => ?_, by rw [List.length_map]; omega, fun zs hpz hhz => ?_⟩
        · obtain ⟨c, hc, rfl⟩ := List.mem_map.mp hb
          rw [keyH_at (hfs5 c hc)]
          exact Xk.st_of (hfs5 c hc)
        have s6 : Same H (upd H5 Dl (.lst (zs.map V.ref))) := Xk.same_mut s5 hfr
        have hD6 : Dg (upd H5 Dl (.lst (zs.map V.ref))) d bd bl (nm as) (ahT qs) (brT qs) := ⟨by rw [upd_ne (Ne.symm nDd)]; exact hD5.da, by rw [upd_ne (ne_of hD5.db h5 (by simp))]; exact hD5.db, fun x hx => by rw [upd_ne (nfl x hx)]; exact hD5.dl x hx, hD5.inj⟩
        have t6 : ∀ a xs, H5 a = some (.tup xs) → upd H5 Dl (.lst (zs.map V.ref)) a = some (.tup xs) := fun a xs e => by rw [upd_ne (ne_of e h5 (by simp))]; exact e
        have f6 : upd H5 Dl (.lst (zs.map V.ref)) Dl = some (.lst (zs.map V.ref)) := upd_same
        generalize upd H5 Dl (.lst (zs.map V.ref)) = H6 at *
        wtm_at "xs"
        intro op H7 hop s7 h7
        have kmap : (fs.map (·.1)).map (keyH H5) = nm fs := by
          rw [List.map_map]
          exact List.map_congr_left fun c hc => keyH_at (hfs5 c hc)
        have pk : (zs.map (keyH H5)).Perm (nm fs) := by
          rw [← kmap]
          exact hpz.map _
        have L0 : Lp K H H5 H7 d bd Dl op bl (nm as) qs srt zs [] (ahT qs) := by
          refine ⟨s6.trans s7, fun a xs e => s7 _ _ (t6 a xs e), ⟨s7 _ _ hD6.da, s7 _ _ hD6.db, fun x hx => s7 _ _ (hD6.dl x hx), hD6.inj⟩, s7 _ _ f6, h7, hhz, fun a ha => ?_, fun b hb => absurd hb (List.not_mem_nil), .nil, fun y hy => absurd hy (List.not_mem_nil), fun y hy => absurd hy (List.not_mem_nil), fun y _ _ => rfl, ?_, fun y => ?_, due_start⟩
          · obtain ⟨c, hc, rfl⟩ := List.mem_map.mp (hpz.mem_iff.mp ha)
            rw [keyH_at (hfs5 c hc)]
            exact hfs5 c hc
          · refine pk.nodup_iff.mpr ?_
            rw [hnm]
            exact ok.nd.filter _
          · rw [pk.mem_iff, hnm, List.mem_filter, decide_eq_true_eq]
            unfold ahT
            refine ⟨fun ⟨a, b⟩ => ⟨a, List.not_mem_nil, by exact_mod_cast b⟩, fun ⟨a, _, c⟩ => ⟨a, by exact_mod_cast c⟩⟩
        have nop : ∀ x ∈ nm as, bl x ≠ op := fun x hx => ne_of_none (hD6.dl x hx) hop.1
        have nfo : Dl ≠ op := ne_of_none f6 hop.1
        have hfo : Xk.Fr op H := ⟨Same.free s6 hop.1⟩
        wtm_at "xs"
        refine Xk.x_while1 (fun m σ' H' => ∃ (zs : List Addr) (o : Rn) (ah : Nm → Int) (y8 y9 : Option V), σ' = [some (V.ref n), some (V.ref p), some (V.ref d), some (V.ref bd), y4, y5, some (V.ref Dl), some (V.ref op), y8, y9] ∧ Lp K H H5 H' d bd Dl op bl (nm as) qs srt zs o ah ∧ m = as.length - o.length) as.length ⟨zs, [], ahT qs, none, none, rfl, L0, rfl⟩ ?_
        clear L0 hhz pk kmap hpz s6 t6 f6 s7 h7 hD6 h5 hfs5 hnm hop hfsl hD5
        rintro m σ' H8 ⟨zs, o, ah, y8, y9, rfl, L, hm⟩
        have hfr8 := L.fr
        have hod8 := L.od
        wtm_at "xs"
        refine ⟨_, .inl ⟨_, Xk.sq_of hfr8, rfl⟩, ?_⟩
        cases zs with
        | nil =>
          refine Xk.x_wF ?_
          wtm_at "xs"
          refine ⟨d, _, rfl, L.dg.da, ?_⟩
          have hol : (nm o).length ≤ (nm as).length := nodup_sub L.ond L.osub
          have hend := due_end ok L.du hol fun y hy hno hc => by
            have := (L.zm y).mpr ⟨hy, hno, hc⟩
            cases this
          have oal : (nm as).length = as.length := List.length_map ..
          have ool : (nm o).length = o.length := List.length_map ..
          rw [oal] at hend
          wtm_at "xs"
          refine Xk.x_itd (fun h => ?_) (fun h => ?_)
          · have he : (nm o).length = as.length := by
              injection h with h
              rw [List.length_map] at h
              unfold mk at h
              rw [List.length_map] at h
              omega
            rw [if_pos he] at hend
            wtm_at "xs"
            refine k H8 _ L.same ?_
            rw [hend]
            exact ⟨op, o, rfl, L.od, fun b hb => L.tups _ _ (L.oa b hb), rfl⟩
          · have he : ¬ (nm o).length = as.length := fun e => h (by
              unfold mk
              rw [List.length_map, List.length_map, ← ool, e, oal])
            rw [if_neg he] at hend
            wtm_at "xs"
            refine k H8 _ L.same ?_
            rw [hend]
            rfl
        | cons z0 zr =>
          refine Xk.x_wT ?_
          wtm_at "xs"
          have zlen : (z0 :: zr).length ≤ 20 := by
            have h1 := nodup_sub L.znd (fun y hy => ((L.zm y).mp hy).1)
            rw [List.length_map, List.length_map] at h1
            omega
          refine ⟨Dl, z0 :: zr, keyH H5, rfl, hfr8, fun b hb => Xk.st_of (L.tups _ _ (L.za b hb)), by omega, by simp, L.hp, fun r rest hperm hmin hhp => ?_⟩
          have hrin : r ∈ z0 :: zr := hperm.mem_iff.mp (List.mem_cons_self ..)
          have hAr := L.za r hrin
          generalize hxd : keyH H5 r = x at hAr hmin
          have hxz : x ∈ (z0 :: zr).map (keyH H5) := hxd ▸ List.mem_map_of_mem hrin
          obtain ⟨hxn, hxo, hxc⟩ := (L.zm x).mp hxz
          have hol2 : o.length < as.length := by
            have h1 := nodup_sub (xs := x :: nm o) (List.nodup_cons.mpr ⟨hxo, L.ond⟩) (ys := nm as) fun y hy => (List.mem_cons.mp hy).elim (fun e => e ▸ hxn) (L.osub y)
            rw [List.length_cons, List.length_map, List.length_map] at h1
            omega
          have hdu := due_pop ok L.du (by rw [List.length_map, List.length_map]; exact hol2) hxn hxo hxc fun y hy hno hc => by
            obtain ⟨c, hc1, hc2⟩ := List.mem_map.mp ((L.zm y).mpr ⟨hy, hno, hc⟩)
            rw [← hc2]
            exact hmin c hc1
          have s9 : Same H (upd H8 Dl (.lst (rest.map V.ref))) := Xk.same_mut L.same hfr
          have t9 : ∀ a xs, H5 a = some (.tup xs) → upd H8 Dl (.lst (rest.map V.ref)) a = some (.tup xs) := fun a xs e => by rw [upd_ne (ne_of (L.tups a xs e) hfr8 (by simp))]; exact L.tups a xs e
          have d9 : Dg (upd H8 Dl (.lst (rest.map V.ref))) d bd bl (nm as) ah (brT qs) := ⟨by rw [upd_ne (ne_of L.dg.da hfr8 (by simp))]; exact L.dg.da, by rw [upd_ne (ne_of L.dg.db hfr8 (by simp))]; exact L.dg.db, fun y hy => by rw [upd_ne (nfl y hy)]; exact L.dg.dl y hy, L.dg.inj⟩
          have f9 : upd H8 Dl (.lst (rest.map V.ref)) Dl = some (.lst (rest.map V.ref)) := upd_same
          have o9 : upd H8 Dl (.lst (rest.map V.ref)) op = some (.lst (rf o)) := by rw [upd_ne (Ne.symm nfo)]; exact hod8
          generalize upd H8 Dl (.lst (rest.map V.ref)) = H9 at *
          have hol3 : o.length < 100000 := by omega
          wtm_at "xs"
          have s10 : Same H (upd H9 op (.lst (rf o ++ [.ref r]))) := Xk.same_mut s9 hfo
          have t10 : ∀ a xs, H5 a = some (.tup xs) → upd H9 op (.lst (rf o ++ [.ref r])) a = some (.tup xs) := fun a xs e => by rw [upd_ne (ne_of (t9 a xs e) o9 (by simp))]; exact t9 a xs e
          have d10 : Dg (upd H9 op (.lst (rf o ++ [.ref r]))) d bd bl (nm as) ah (brT qs) := ⟨by rw [upd_ne (ne_of d9.da o9 (by simp))]; exact d9.da, by rw [upd_ne (ne_of d9.db o9 (by simp))]; exact d9.db, fun y hy => by rw [upd_ne (nop y hy)]; exact d9.dl y hy, d9.inj⟩
          have f10 : upd H9 op (.lst (rf o ++ [.ref r])) Dl = some (.lst (rest.map V.ref)) := by rw [upd_ne nfo]; exact f9
          have o10 : upd H9 op (.lst (rf o ++ [.ref r])) op = some (.lst (rf (o ++ [(r, x)]))) := by rw [upd_same]; simp [rf]
          generalize upd H9 op (.lst (rf o ++ [.ref r])) = H10 at *
          have eo : nm (o ++ [(r, x)]) = nm o ++ [x] := by simp [nm]
          have hAr10 : At K H10 (r, x) := t10 _ _ hAr
          refine ⟨bd, _, rfl, dget d10.db hAr10 hxn, ?_⟩
          have hb10 := Xk.sq_of (K := K) (d10.dl x hxn)
          have pz : (x :: rest.map (keyH H5)).Perm ((z0 :: zr).map (keyH H5)) := by
            rw [← hxd]
            exact hperm.map (keyH H5)
          have pnd := pz.nodup_iff.mpr L.znd
          have rmem : ∀ y, y ∈ rest.map (keyH H5) ↔ y ∈ nm as ∧ y ∉ nm o ++ [x] ∧ ah y = 0 := fun y => by
            have h1 := (pz.mem_iff (a := y)).trans (L.zm y)
            rw [List.mem_cons] at h1
            rw [List.mem_append, List.mem_singleton]
            constructor
            · intro hy
              obtain ⟨a1, a2, a3⟩ := h1.mp (.inr hy)
              refine ⟨a1, fun z => z.elim a2 fun e => (List.nodup_cons.mp pnd).1 (e ▸ hy), ?_⟩
              rw [L.cn y a1 a2, a3]
              rfl
            · rintro ⟨a1, a2, a3⟩
              have a4 : y ∉ nm o := fun z => a2 (.inl z)
              rw [L.cn y a1 a4] at a3
              exact (h1.mpr ⟨a1, a4, by omega⟩).resolve_left fun e => a2 (.inr e)
          refine Xk.x_forL (xs := rf (brT qs x)) (fun j σ' H' => ∃ (zs : List Addr) (ah : Nm → Int) (y9 : Option V), σ' = [some (V.ref n), some (V.ref p), some (V.ref d), some (V.ref bd), y4, y5, some (V.ref Dl), some (V.ref op), some (V.ref r), y9] ∧ Same H H' ∧ (∀ a xs, H5 a = some (.tup xs) → H' a = some (.tup xs)) ∧ Dg H' d bd bl (nm as) ah (brT qs) ∧
            H' Dl = some (.lst (zs.map V.ref)) ∧ H' op = some (.lst (rf (o ++ [(r, x)]))) ∧ Xk.HpK (keyH H5) zs ∧ (∀ a ∈ zs, At K H5 (a, keyH H5 a)) ∧ (zs.map (keyH H5)).Nodup ∧ (∀ y ∈ nm as, y ∉ nm o ++ [x] → ah y = (cnt (prs qs) (nm o ++ [x]) y + ((nm (brT qs x)).drop j).count y : Nat)) ∧ ∀ y, y ∈ zs.map (keyH H5) ↔ y ∈ nm as ∧ y ∉ nm o ++ [x] ∧ ah y = 0) hb10
            ⟨rest, ah, _, rfl, s10, t10, d10, f10, o10, hhp, fun a ha => L.za a (hperm.mem_iff.mp (List.mem_cons_of_mem _ ha)), (List.nodup_cons.mp pnd).2, fun y hy hno => ?_, rmem⟩ (fun j σ' H' _ ⟨_, _, _, _, _, _, dg, _⟩ => Xk.sq_of (dg.dl x hxn)) ?_ ?_
          · have hno2 : y ∉ nm o := fun z => hno (List.mem_append_left _ z)
            rw [L.cn y hy hno2, ← cnt_pop hxo, arr_br]
            rfl
          · rintro j v σ' H11 hj ⟨zs, ah2, y9, rfl, s11, t11, d11, f11, o11, hp11, za11, znd11, cn11, zm11⟩
            obtain ⟨b, hb, rfl⟩ := rf_at hj
            have hbm := List.mem_of_getElem? hb
            obtain ⟨e, he, hbe⟩ := List.mem_map.mp (show b ∈ (qs.filter fun e => decide (e.2.1.2 = x)).map (·.2.2) from hbm)
            have heq := (List.mem_filter.mp he).1
            have hex : e.2.1.2 = x := of_decide_eq_true (List.mem_filter.mp he).2
            have hbat : At K H b := hbe ▸ (hqa e heq).b
            have hpm : (x, b.2) ∈ prs qs := by
              rw [← hex, ← hbe]
              exact List.mem_map_of_mem (f := fun e : Addr × (Addr × Nm) × (Addr × Nm) => (e.2.1.2, e.2.2.2)) heq
            obtain ⟨_, hbn, hbx⟩ := ok.pin _ hpm
            have hbn : b.2 ∈ nm as := hbn
            have hbx : x ≠ b.2 := hbx
            have hc1 : 0 < cnt (prs qs) (nm o) b.2 := List.countP_pos_iff.mpr ⟨(x, b.2), hpm, by simp [hxo]⟩
            have hbo : b.2 ∉ nm o := fun z => by
              have := L.oc _ z
              omega
            have hbo2 : b.2 ∉ nm o ++ [x] := fun z => (List.mem_append.mp z).elim hbo fun z => hbx (List.mem_singleton.mp z).symm
            have hdrop : (nm (brT qs x)).drop j = b.2 :: (nm (brT qs x)).drop (j + 1) := by
              have hlt : j < (nm (brT qs x)).length := by
                rw [List.length_map]
                exact Xk.at_lt hb
              rw [List.drop_eq_getElem_cons hlt]
              congr 1
              have h1 : (nm (brT qs x))[j]? = some b.2 := by rw [List.getElem?_map, hb]; rfl
              exact Option.some.inj ((List.getElem?_eq_getElem hlt).symm.trans h1)
            have hat5 : At K H5 b := s5 _ _ hbat
            have hkey := keyH_at hat5
            have hb11 := hbat.same s11
            have hnl : (nm as).length < 100000 := by rw [List.length_map]; omega
            have hah := cn11 b.2 hbn hbo2
            rw [hdrop, List.count_cons_self] at hah
            have hbz : b.2 ∉ zs.map (keyH H5) := fun z => by
              have := ((zm11 b.2).mp z).2.2
              omega
            have zlen : zs.length ≤ 20 := by
              have h1 := nodup_sub znd11 (fun y hy => ((zm11 y).mp hy).1)
              rw [List.length_map, List.length_map] at h1
              omega
            wtm_at "xs"
            unfold sDAug
            wtm_at "xs"
            refine ⟨d, _, rfl, dget d11.da hb11 hbn, ?_⟩
            wtm_at "xs"
            refine ⟨_, _, rfl, rfl, _, dput d11.da hb11 hbn hnl, ?_⟩
            have d12 := dg_put d11 (x := b.2) (v := ah2 b.2 - 1) hdb
            have s12 := Xk.same_mut (o := .dT (mk (nm as) fun y => if y = b.2 then V.int (ah2 b.2 - 1) else V.int (ah2 y))) s11 hfd
            have t12 : ∀ a xs, H5 a = some (.tup xs) → upd H11 d (.dT (mk (nm as) fun y => if y = b.2 then V.int (ah2 b.2 - 1) else V.int (ah2 y))) a = some (.tup xs) := fun a xs e => by rw [upd_ne (ne_of (t11 a xs e) d11.da (by simp))]; exact t11 a xs e
            have f12 : upd H11 d (.dT (mk (nm as) fun y => if y = b.2 then V.int (ah2 b.2 - 1) else V.int (ah2 y))) Dl = some (.lst (zs.map V.ref)) := by rw [upd_ne (ne_of f11 d11.da (by simp))]; exact f11
            have o12 : upd H11 d (.dT (mk (nm as) fun y => if y = b.2 then V.int (ah2 b.2 - 1) else V.int (ah2 y))) op = some (.lst (rf (o ++ [(r, x)]))) := by rw [upd_ne (ne_of o11 d11.da (by simp))]; exact o11
            generalize upd H11 d _ = H12 at *
            have hb12 := hbat.same s12
            have cn12 : ∀ y ∈ nm as, y ∉ nm o ++ [x] → (fun y => if y = b.2 then ah2 b.2 - 1 else ah2 y) y = (cnt (prs qs) (nm o ++ [x]) y + ((nm (brT qs x)).drop (j + 1)).count y : Nat) := fun y hy hno => by
              have h1 := cn11 y hy hno
              rw [hdrop] at h1
              by_cases hyb : y = b.2
              · subst hyb
                rw [List.count_cons_self] at h1
                show (if b.2 = b.2 then ah2 b.2 - 1 else ah2 b.2) = _
                rw [if_pos rfl]
                omega
              · rw [List.count_cons_of_ne (fun e => hyb e.symm)] at h1
                show (if y = b.2 then ah2 b.2 - 1 else ah2 y) = _
                rw [if_neg hyb]
                exact h1
            wtm_at "xs"
            refine ⟨d, _, rfl, dget d12.da hb12 hbn, ?_⟩
            wtm_at "xs"
            refine Xk.x_itd (fun h => ?_) (fun h => ?_)
            · have hz : ah2 b.2 - 1 = 0 := by
                have h : (if b.2 = b.2 then ah2 b.2 - 1 else ah2 b.2) = 0 := by injection h
                rw [if_pos rfl] at h
                exact h
              wtm_at "xs"
              refine ⟨Dl, b.1, zs, keyH H5, rfl, f12, fun a ha => ?_, by omega, hp11, fun zs2 hp2 hh2 => ?_⟩
              · rcases List.mem_append.mp ha with ha | ha
                · exact Xk.st_of (t12 _ _ (za11 a ha))
                · rw [List.mem_singleton.mp ha, hkey]
                  exact Xk.st_of hb12
              have hk2 : (zs2.map (keyH H5)).Perm (zs.map (keyH H5) ++ [b.2]) := by
                have := hp2.map (keyH H5)
                rw [List.map_append] at this
                rw [← hkey]
                exact this
              refine ⟨zs2, _, _, rfl, Xk.same_mut s12 hfr, fun a xs e => by rw [upd_ne (ne_of (t12 a xs e) f12 (by simp))]; exact t12 a xs e, ⟨by rw [upd_ne (ne_of d12.da f12 (by simp))]; exact d12.da, by rw [upd_ne (ne_of d12.db f12 (by simp))]; exact d12.db, fun y hy => by rw [upd_ne (nfl y hy)]; exact d12.dl y hy, d12.inj⟩, upd_same, by rw [upd_ne (Ne.symm nfo)]; exact o12, hh2, fun a ha => ?_, ?_, cn12, fun y => ?_⟩
              · rcases List.mem_append.mp (hp2.mem_iff.mp ha) with ha | ha
                · exact za11 a ha
                · rw [List.mem_singleton.mp ha, hkey]
                  exact hat5
              · refine hk2.nodup_iff.mpr (List.nodup_append.mpr ⟨znd11, by simp, fun a ha c hc e => hbz (by rw [List.mem_singleton.mp hc] at e; exact e ▸ ha)⟩)
              · rw [hk2.mem_iff, List.mem_append, List.mem_singleton, zm11 y]
                by_cases hyb : y = b.2
                · subst hyb
                  simp [hbn, hbo, hbx.symm, hz]
                · simp [hyb]
            · have hz : ¬ ah2 b.2 - 1 = 0 := fun z => h (by rw [if_pos rfl, z])
              refine ⟨zs, _, _, rfl, s12, t12, d12, f12, o12, hp11, za11, znd11, cn12, fun y => ?_⟩
              rw [zm11 y]
              by_cases hyb : y = b.2
              · subst hyb
                have hne : ¬ ah2 b.2 = 0 := by omega
                simp [hz, hne]
              · simp [hyb]
          · rintro σ' H11 ⟨zs, ah2, y9, rfl, s11, t11, d11, f11, o11, hp11, za11, znd11, cn11, zm11⟩
            refine ⟨as.length - (o ++ [(r, x)]).length, by rw [List.length_append]; simp; omega, zs, o ++ [(r, x)], ah2, _, _, rfl, ⟨s11, t11, d11, f11, o11, hp11, za11, fun b hb => ?_, ?_, fun y hy => ?_, fun y hy => ?_, fun y hy hno => ?_, znd11, fun y => ?_, ?_⟩, rfl⟩
            · rcases List.mem_append.mp hb with hb | hb
              · exact L.oa b hb
              · rw [List.mem_singleton.mp hb]
                exact hAr
            · rw [eo]
              exact List.nodup_append.mpr ⟨L.ond, by simp, fun a ha b hb e => hxo (by rw [List.mem_singleton.mp hb] at e; exact e ▸ ha)⟩
            · rw [eo] at hy
              rcases List.mem_append.mp hy with hy | hy
              · exact L.osub y hy
              · rw [List.mem_singleton.mp hy]
                exact hxn
            · rw [eo] at hy ⊢
              have hc := cnt_pop (ps := prs qs) (y := y) hxo
              rcases List.mem_append.mp hy with hy | hy
              · have := L.oc y hy
                omega
              · rw [List.mem_singleton.mp hy] at hc ⊢
                omega
            · rw [eo] at hno ⊢
              have := cn11 y hy hno
              rw [List.drop_of_length_le (by rw [List.length_map, List.length_map]; omega)] at this
              exact this
            · rw [eo, zm11 y]
              constructor
              · rintro ⟨a1, a2, a3⟩
                have := cn11 y a1 a2
                rw [List.drop_of_length_le (by rw [List.length_map, List.length_map]; omega), List.count_nil] at this
                exact ⟨a1, a2, by omega⟩
              · rintro ⟨a1, a2, a3⟩
                have := cn11 y a1 a2
                rw [List.drop_of_length_le (by rw [List.length_map, List.length_map]; omega), List.count_nil] at this
                exact ⟨a1, a2, by omega⟩
            · rw [eo]
              exact hdu
  · refine ⟨_, (pss_cons (ps_lock (ps_set (i := 2) sc_sorted_names.nd rfl (Or.inr rfl) (Xk.pe_dcT (own := [("name", 8)]) (g := gName 8) (tt := tYes) rfl (hu_of hr) sc_sorted_names.nd  (pi_keys (pv 0)) (blkOk_by (N := N_sorted_names) (sc := defScope s_sorted_names) (own := [("name", 8)]) (by decide +kernel)) (fun _ _ _ _ _ => pg_name (i := 8) sc_sorted_names.nd rfl (Or.inl rfl)) (fun _ _ _ _ _ => pts_nil) (fun _ _ _ _ _ => (pv 8)) (fun _ _ _ _ _ => (pe_int)))))
      (pss_cons (ps_lock (Xk.ps_setDcT (i := 3) (own := [("name", 8)]) (g := gName 8) (tt := tYes) rfl (hu_of hr) sc_sorted_names.nd rfl rfl (Xk.sw_trueD rfl rfl rfl (by decide +kernel)) (pi_keys (pv 0)) (blkOk_by (N := N_sorted_names) (sc := defScope s_sorted_names) (own := [("name", 8)]) (by decide +kernel)) (fun _ _ _ _ _ => pg_name (i := 8) sc_sorted_names.nd rfl (Or.inl rfl)) (fun _ _ _ _ _ => pts_nil) (fun _ _ _ _ _ => (pv 8)) (fun _ _ _ _ _ => (pe_lst pa_nil))))
      (pss_cons (ps_for PassesOwn.never rfl (pi_list (pv 1)) (pg_tup rfl (pgs_cons (pg_name (i := 4) sc_sorted_names.nd rfl (Or.inl rfl)) (pgs_cons (pg_name (i := 5) sc_sorted_names.nd rfl (Or.inl rfl)) pgs_nil))) (pss_one (ps_if (PW.pt (pw_and (pt_cmp (pc_din (hu_of hr) (pv 4) (pv 2))) (pw_and (pt_cmp (pc_din (hu_of hr) (pv 5) (pv 2))) (pw_and1 (pt_cmpR (Xk.k_neD (K := K) hr.units (by rfl)) (pv 4) (pv 5) (nomark _)))))) (pss_cons (ps_daug (hu_of hr) (pv 2) (pv 5) (pe_int) in_add (by intros; rfl))
      (pss_one (ps_expr (pe_bm PySem.F.plainAttrs_list PySem.F.slot_list_append PySem.F.type_list_append mt_append (pe_dget (hu_of hr) (pv 3) (pv 4) (fun _ _ => rfl)) (pa_cons (pv 5) pa_nil))))) pss_nil)))
      (pss_cons (ps_lock (ps_setLc (i := 6) (own := [("name", 8)]) (g := gName 8) rfl sc_sorted_names.nd rfl rfl (sw_true rfl rfl rfl (by decide +kernel)) (pi_keys (pv 2)) (blkOk_by (N := N_sorted_names) (sc := defScope s_sorted_names) (own := [("name", 8)]) (by decide +kernel)) (fun _ _ _ _ _ => pg_name (i := 8) sc_sorted_names.nd rfl (Or.inl rfl)) (fun _ _ _ _ _ => pts_one (pt_cmpR op_eq (pe_dget (hu_of hr) (pv 2) (pv 8) (fun _ _ => rfl)) (pe_int) (nomark _))) (fun _ _ _ _ _ => (pv 8))))
      (pss_cons (ps_expr (Xk.pe_callBG (Xk.k_heapify (K := K) hr.units (by rfl)) (by rfl) T.i_heapify (pa_cons (pv 6) pa_nil)))
      (pss_cons (ps_set (i := 7) sc_sorted_names.nd rfl (Or.inl rfl) (pe_lst pa_nil))
      (Evl.pss_cut (ps_while PassesOwn.never (pt_truth (pv 6) (by intro _; rfl)) (pss_cons (ps_set (i := 8) sc_sorted_names.nd rfl (Or.inl rfl) (Xk.pe_callBG (Xk.k_heappop (K := K) hr.units (by rfl)) (by rfl) T.i_heappop (pa_cons (pv 6) pa_nil)))
      (pss_cons (ps_expr (pe_bm PySem.F.plainAttrs_list PySem.F.slot_list_append PySem.F.type_list_append mt_append (pv 7) (pa_cons (pv 8) pa_nil)))
      (pss_one (ps_for PassesOwn.never rfl (pi_list (pe_dget (hu_of hr) (pv 3) (pv 8) (fun _ _ => rfl))) (pg_name (i := 9) sc_sorted_names.nd rfl (Or.inl rfl)) (pss_cons (ps_daug (hu_of hr) (pv 2) (pv 9) (pe_int) in_sub (by intros; rfl))
      (pss_one (ps_if (pt_cmpR op_eq (pe_dget (hu_of hr) (pv 2) (pv 9) (fun _ _ => rfl)) (pe_int) (nomark _)) (pss_one (ps_expr (Xk.pe_callBG (Xk.k_heappush (K := K) hr.units (by rfl)) (by rfl) T.i_heappush (pa_cons (pv 6) (pa_cons (pv 9) pa_nil))))) pss_nil))))))))
      (pss_one (ps_ret (pe_ifExp (pt_cmpR op_eq (pe_callB (Xk.k_len (K := K) (by rfl)) (by rfl) T.m_len PySem.boot_len (pa_cons (pv 7) pa_nil)) (pe_callB call_len_dT (by rfl) T.m_len PySem.boot_len (pa_cons (pv 2) pa_nil)) (nomark _)) (pv 7) (pe_non))))))))))), ?_⟩
    wtm_at "x0"
    wtm_at "xs"
    refine x_lockDcT (r := n) rfl hn fun od H0 e0 => ?_
    have h0n : H0 n = some (.frz od (.dT (mk (nm as) fun _ => V.int 1))) := by rw [e0, upd_same]
    refine ⟨fun d i H' => Same H0 H' ∧ H' d = some (.dT (mk ((nm as).take i) fun _ => V.int 0)), fun d hd => ⟨Xk.same_fr hd, upd_same⟩, fun d i H' hd s => s.1 _ _ h0n, ?_, ?_⟩
    · rintro d hd i k v q H' hi hq ⟨s1, h1⟩
      obtain ⟨x, hx, rfl, rfl⟩ := mk_at hi
      have et : (nm as).take (i + 1) = (nm as).take i ++ [x] := by
        rw [List.take_add_one, hx]
        rfl
      have hil := Xk.at_lt hx
      have hno := take_no2 ok.nd hx
      unfold Xk.DcTurn
      wtm_at "xs"
      refine ⟨rfl, ?_⟩
      wtm_at "xs"
      refine Xk.x_putT (k := kk x) h1 hq (mk_len (by rw [List.length_take]; rw [List.length_map] at hil ⊢; omega)) ⟨Xk.same_mut s1 hd, ?_⟩
      rw [upd_same, et, mk_new hno rfl]
    rintro d Hx hd ⟨sx, hx1⟩
    rw [mk_length, List.take_length] at hx1
    have ndn : d ≠ n := fun z => by
      have h1 := hd.1
      rw [z, h0n] at h1
      cases h1
    have s1 : Same H (upd Hx n (.dT (mk (nm as) fun _ => V.int 1))) := fun b o e => by
      by_cases z : b = n
      · rw [z, hn] at e
        rw [z, upd_same, e]
      · rw [upd_ne z]
        exact sx _ _ (by rw [e0, upd_ne z]; exact e)
    have h1 : upd Hx n (.dT (mk (nm as) fun _ => V.int 1)) d = some (.dT (mk (nm as) fun _ => V.int 0)) := by
      rw [upd_ne ndn]
      exact hx1
    have hn1 : upd Hx n (.dT (mk (nm as) fun _ => V.int 1)) n = some (.dT (mk (nm as) fun _ => V.int 1)) := upd_same
    replace hd : Xk.Fr d H := ⟨by have h2 := hd.1; rw [e0, upd_ne ndn] at h2; exact h2⟩
    generalize upd Hx n _ = H1 at *
    clear sx hx1 h0n e0
    wtm_at "xs"
    refine x_lockDcT (r := n) rfl hn1 fun od H0 e0 => ?_
    have h0n : H0 n = some (.frz od (.dT (mk (nm as) fun _ => V.int 1))) := by rw [e0, upd_same]
    refine ⟨fun b i H' => Same H0 H' ∧ ∃ bl : Nm → Addr, H' b = some (.dT (mk ((nm as).take i) fun x => V.ref (bl x))) ∧ Bl H0 H' bl ((nm as).take i) (fun _ => []), fun b hb => ⟨Xk.same_fr hb, fun _ => 0, upd_same, fun x hx => absurd hx (List.not_mem_nil), fun x hx => absurd hx (List.not_mem_nil)⟩, fun d i H' hd s => s.1 _ _ h0n, ?_, ?_⟩
    · rintro bd hbd i k v q H' hi hq ⟨s2, bl, h2, hB⟩
      obtain ⟨x, hx, rfl, rfl⟩ := mk_at hi
      have et : (nm as).take (i + 1) = (nm as).take i ++ [x] := by
        rw [List.take_add_one, hx]
        rfl
      have hil := Xk.at_lt hx
      have hno := take_no2 ok.nd hx
      unfold Xk.DcTurn
      wtm_at "xs"
      refine ⟨rfl, ?_⟩
      wtm_at "xs"
      intro t H2 ht s3 h3
      have h23 := s3 _ _ h2
      refine Xk.x_putT (k := kk x) h23 (s3 _ _ hq) (mk_len (by rw [List.length_take]; rw [List.length_map] at hil ⊢; omega)) ⟨Xk.same_mut (s2.trans s3) hbd, fun y => if y = x then t else bl y, ?_, ?_⟩
      · rw [upd_same, et, mk_cong (g := fun x => V.ref (bl x)) (f := fun y => V.ref (if y = x then t else bl y)) fun y hy => by rw [if_neg (fun e : y = x => hno (e ▸ hy))], mk_new hno (by rw [if_pos rfl])]
      · rw [et]
        exact hB.add s2 s3 ht h3 hno h23
    rintro bd Hx hbd ⟨sx, bl, hx2, hBx⟩
    rw [mk_length, List.take_length] at hx2 hBx
    have hxn := sx _ _ h0n
    have nbn : bd ≠ n := fun z => by
      have h1 := hbd.1
      rw [z, h0n] at h1
      cases h1
    have s2 : Same H1 (upd Hx n (.dT (mk (nm as) fun _ => V.int 1))) := fun b o e => by
      by_cases z : b = n
      · rw [z, hn1] at e
        rw [z, upd_same, e]
      · rw [upd_ne z]
        exact sx _ _ (by rw [e0, upd_ne z]; exact e)
    have h2 : upd Hx n (.dT (mk (nm as) fun _ => V.int 1)) bd = some (.dT (mk (nm as) fun x => V.ref (bl x))) := by
      rw [upd_ne nbn]
      exact hx2
    have hB : Bl H1 (upd Hx n (.dT (mk (nm as) fun _ => V.int 1))) bl (nm as) (fun _ => []) := ⟨fun x hx => by
      have h3 := hBx.at_ x hx
      have nb := ne_of h3.1 hxn (by simp)
      refine ⟨by rw [upd_ne nb]; exact h3.1, ?_⟩
      have h4 := h3.2
      rw [e0, upd_ne nb] at h4
      exact h4, hBx.inj⟩
    replace hbd : Xk.Fr bd H1 := ⟨by have h3 := hbd.1; rw [e0, upd_ne nbn] at h3; exact h3⟩
    generalize upd Hx n _ = H2 at *
    have hp1 := s1 _ _ hp
    clear sx hx2 hBx hxn h0n e0 hn1
    have s02 := s1.trans s2
    have hfd : Xk.Fr d H := hd
    have hfb : Xk.Fr bd H := ⟨Same.free s1 hbd.1⟩
    have hfl : ∀ x ∈ nm as, Xk.Fr (bl x) H := fun x hx => ⟨Same.free s1 (hB.at_ x hx).2⟩
    have hD : Dg H2 d bd bl (nm as) (ahT (qs.take 0)) (brT (qs.take 0)) := ⟨s2 _ _ h1, h2, fun x hx => (hB.at_ x hx).1, hB.inj⟩
    have hp2 := Xk.sq_of (K := K) (s2 _ _ hp1)
    have hdb : d ≠ bd := ne_of_none h1 hbd.1
    clear hp1 h1 h2 s1 s2 hd hbd hB
    wtm_at "xs"
    refine Xk.x_forL (xs := qs.map fun e => V.ref e.1) (fun i σ' H' => ∃ (y4 y5 : Option V), σ' = [some (V.ref n), some (V.ref p), some (V.ref d), some (V.ref bd), y4, y5, none, none, none, none] ∧ Same H H' ∧ Dg H' d bd bl (nm as) (ahT (qs.take i)) (brT (qs.take i))) hp2 ⟨_, _, rfl, s02, hD⟩ (fun i σ' H' _ ⟨_, _, _, s, _⟩ => Xk.sq_of (s _ _ hp)) ?_ ?_
    · clear hD hp2 s02
      rintro i v σ' H3 hi ⟨y4, y5, rfl, s3, hD⟩
      obtain ⟨e, he, rfl⟩ := Xk.of_map_at hi
      have hq := hqa e (List.mem_of_getElem? he)
      have hpin := ok.pin (e.2.1.2, e.2.2.2) (List.mem_map_of_mem (f := fun e : Addr × (Addr × Nm) × (Addr × Nm) => (e.2.1.2, e.2.2.2)) (List.mem_of_getElem? he))
      have htp := Xk.st_of (K := K) (s3 _ _ hq.tp)
      have ha := hq.a.same s3
      have hb := hq.b.same s3
      have hnl : (nm as).length < 100000 := by rw [List.length_map]; omega
      wtm_at "xs"
      refine din hD.da ha hpin.1 ⟨_, rfl, ?_⟩
      wtm_at "xs"
      refine din hD.da hb hpin.2.1 ⟨_, rfl, ?_⟩
      wtm_at "xs"
      refine ne_at ha hb hpin.2.2 ⟨_, rfl, ?_⟩
      wtm_at "xs"
      unfold sDAug
      wtm_at "xs"
      refine ⟨d, _, rfl, dget hD.da hb hpin.2.1, ?_⟩
      wtm_at "xs"
      refine ⟨_, _, rfl, rfl, _, dput hD.da hb hpin.2.1 hnl, ?_⟩
      have hD2 := dg_put hD (x := e.2.2.2) (v := ahT (qs.take i) e.2.2.2 + 1) hdb
      have s4 := Xk.same_mut (o := .dT (mk (nm as) fun y => if y = e.2.2.2 then V.int (ahT (qs.take i) e.2.2.2 + 1) else V.int (ahT (qs.take i) y))) s3 hfd
      have ha4 := hq.a.same s4
      have hb4 := hq.b.same s4
      generalize upd H3 d _ = H4 at *
      have hl4 := hD2.dl _ hpin.1
      have hbl : (brT (qs.take i) e.2.1.2).length ≤ 50 := by
        unfold brT
        rw [List.length_map]
        refine Nat.le_trans (List.length_filter_le ..) ?_
        rw [List.length_take]
        omega
      wtm_at "xs"
      refine ⟨bd, _, rfl, dget hD2.db ha4 hpin.1, ?_⟩
      wtm_at "xs"
      refine ⟨_, _, rfl, Xk.same_mut s4 (hfl _ hpin.1), dg_to (dg_app hD2 (b := e.2.2) hpin.1) (fun y => ?_) fun y => ?_⟩
      · rw [ahT_next he]
        by_cases z : y = e.2.2.2 <;> simp [z]
      · rw [brT_next he]
        by_cases z : y = e.2.1.2 <;> simp [z]
    · rintro σ' H3 ⟨y4, y5, rfl, s3, hD⟩
      rw [List.length_map, List.take_length] at hD
      wtm_at "xs"
      refine x_lockLcT (r := d) rfl hD.da fun od H0 e0 => ?_
      have h0d : H0 d = some (.frz od (.dT (mk (nm as) fun x => V.int (ahT qs x)))) := by rw [e0, upd_same]
      refine ⟨fun Dl i H' => Same H0 H' ∧ ∃ fs : Rn, H' Dl = some (.lst (rf fs)) ∧ (∀ b ∈ fs, At K H' b) ∧ nm fs = ((nm as).take i).filter fun x => decide (ahT qs x = 0), ?_, ?_, ?_, ?_⟩
      · exact fun Dl hf => ⟨Xk.same_fr hf, [], upd_same, fun b hb => absurd hb (List.not_mem_nil), rfl⟩
      · exact fun Dl i H' _ h => h.1 _ _ h0d
      · rintro Dl hf i k v q H' hi hq ⟨s4, fs, h4, hfs, hnm⟩
        obtain ⟨x, hx, rfl, rfl⟩ := mk_at hi
        have hq2 : At K H' (q, x) := by
          rw [kk_V] at hq
          exact hq
        have hd4 := s4 _ _ h0d
        have hxm := List.mem_of_getElem? hx
        have et : ((nm as).take (i + 1)).filter (fun x => decide (ahT qs x = 0)) = nm fs ++ if ahT qs x = 0 then [x] else [] := by
          rw [List.take_add_one, hx, List.filter_append, ← hnm]
          by_cases z : ahT qs x = 0 <;> simp [z]
        have hfl2 : fs.length ≤ 20 := by
          have h1 : (nm fs).length ≤ (nm as).length := by
            rw [hnm]
            refine Nat.le_trans (List.length_filter_le ..) ?_
            rw [List.length_take]
            omega
          rw [List.length_map, List.length_map] at h1
          omega
        wtm_at "xs"
        refine ⟨rfl, ?_⟩
        wtm_at "xs"
        refine ⟨d, _, rfl, dgetF hd4 hq2 hxm, ?_⟩
        wtm_at "xs"
        refine Xk.x_itd (fun h => ?_) (fun h => ?_)
        · have hz : ahT qs x = 0 := by injection h
          wtm_at "xs"
          refine ⟨_, h4, Xk.size_lt (by rw [List.length_map]; omega), Xk.same_mut s4 hf, fs ++ [(q, x)], ?_, fun b hb => ?_, ?_⟩
          · rw [upd_same]
            simp [rf]
          · have hb2 : At K H' b := by
              rcases List.mem_append.mp hb with hb | hb
              · exact hfs b hb
              · rw [List.mem_singleton.mp hb]
                exact hq2
            unfold At
            rw [upd_ne (ne_of hb2 h4 (by simp))]
            exact hb2
          · rw [et, if_pos hz]
            simp [nm]
        · have hz : ¬ ahT qs x = 0 := fun z => h (by rw [z])
          refine ⟨s4, fs, h4, hfs, ?_⟩
          rw [et, if_neg hz, List.append_nil]
      · rintro Dl H' hf ⟨s4, fs, h4, hfs, hnm⟩
        have nDd : Dl ≠ d := fun z => by
          have h1 := hf.1
          rw [z, h0d] at h1
          cases h1
        have h03 : ∀ b o, b ≠ d → H3 b = some o → H' b = some o := fun b o n e => s4 _ _ (by rw [e0, upd_ne n]; exact e)
        have s5 : Same H (upd H' d (.dT (mk (nm as) fun x => V.int (ahT qs x)))) := fun b o e => by
          have nb : b ≠ d := ne_of_none e hfd.1
          rw [upd_ne nb]
          exact h03 b o nb (s3 _ _ e)
        have hD5 : Dg (upd H' d (.dT (mk (nm as) fun x => V.int (ahT qs x)))) d bd bl (nm as) (ahT qs) (brT qs) :=
          ⟨upd_same, by rw [upd_ne (Ne.symm hdb)]; exact h03 _ _ (Ne.symm hdb) hD.db, fun x hx => by
            have nb := ne_of (hD.dl x hx) hD.da (by simp)
            rw [upd_ne nb]
            exact h03 _ _ nb (hD.dl x hx), hD.inj⟩
        have hfr : Xk.Fr Dl H := ⟨Same.free s3 (by have h1 := hf.1; rw [e0, upd_ne nDd] at h1; exact h1)⟩
        have h5 : upd H' d (.dT (mk (nm as) fun x => V.int (ahT qs x))) Dl = some (.lst (rf fs)) := by
          rw [upd_ne nDd]
          exact h4
        have hfs5 : ∀ b ∈ fs, At K (upd H' d (.dT (mk (nm as) fun x => V.int (ahT qs x)))) b := fun b hb => by
          unfold At
          rw [upd_ne (ne_of (hfs b hb) (s4 _ _ h0d) (by simp))]
          exact hfs b hb
        rw [show (mk (nm as) fun x => V.int (ahT qs x)).length = (nm as).length by unfold mk; rw [List.length_map], List.take_length] at hnm
        generalize upd H' d _ = H5 at *
        have nfl : ∀ x ∈ nm as, bl x ≠ Dl := fun x hx z => by
          have nb := ne_of (hD.dl x hx) hD.da (by simp)
          have h1 := hf.1
          rw [← z, e0, upd_ne nb, hD.dl x hx] at h1
          cases h1
        clear h4 hfs s4 h03 h0d e0 hf hD s3
        wtm_at "xs"
        have hfsl : fs.length ≤ 20 := by
          have h1 : (nm fs).length ≤ (nm as).length := by
            rw [hnm]
            exact List.length_filter_le ..
          rw [List.length_map, List.length_map] at h1
          omega
        refine ⟨Dl, fs.map (·.1), keyH H5, rfl, by rw [h5, List.map_map]; rfl, fun b hb => ?_, by rw [List.length_map]; omega, fun zs hpz hhz => ?_⟩
        · obtain ⟨c, hc, rfl⟩ := List.mem_map.mp hb
          rw [keyH_at (hfs5 c hc)]
          exact Xk.st_of (hfs5 c hc)
        have s6 : Same H (upd H5 Dl (.lst (zs.map V.ref))) := Xk.same_mut s5 hfr
        have hD6 : Dg (upd H5 Dl (.lst (zs.map V.ref))) d bd bl (nm as) (ahT qs) (brT qs) := ⟨by rw [upd_ne (Ne.symm nDd)]; exact hD5.da, by rw [upd_ne (ne_of hD5.db h5 (by simp))]; exact hD5.db, fun x hx => by rw [upd_ne (nfl x hx)]; exact hD5.dl x hx, hD5.inj⟩
        have t6 : ∀ a xs, H5 a = some (.tup xs) → upd H5 Dl (.lst (zs.map V.ref)) a = some (.tup xs) := fun a xs e => by rw [upd_ne (ne_of e h5 (by simp))]; exact e
        have f6 : upd H5 Dl (.lst (zs.map V.ref)) Dl = some (.lst (zs.map V.ref)) := upd_same
        generalize upd H5 Dl (.lst (zs.map V.ref)) = H6 at *
        wtm_at "xs"
        intro op H7 hop s7 h7
        have kmap : (fs.map (·.1)).map (keyH H5) = nm fs := by
          rw [List.map_map]
          exact List.map_congr_left fun c hc => keyH_at (hfs5 c hc)
        have pk : (zs.map (keyH H5)).Perm (nm fs) := by
          rw [← kmap]
          exact hpz.map _
        have L0 : Lp K H H5 H7 d bd Dl op bl (nm as) qs srt zs [] (ahT qs) := by
          refine ⟨s6.trans s7, fun a xs e => s7 _ _ (t6 a xs e), ⟨s7 _ _ hD6.da, s7 _ _ hD6.db, fun x hx => s7 _ _ (hD6.dl x hx), hD6.inj⟩, s7 _ _ f6, h7, hhz, fun a ha => ?_, fun b hb => absurd hb (List.not_mem_nil), .nil, fun y hy => absurd hy (List.not_mem_nil), fun y hy => absurd hy (List.not_mem_nil), fun y _ _ => rfl, ?_, fun y => ?_, due_start⟩
          · obtain ⟨c, hc, rfl⟩ := List.mem_map.mp (hpz.mem_iff.mp ha)
            rw [keyH_at (hfs5 c hc)]
            exact hfs5 c hc
          · refine pk.nodup_iff.mpr ?_
            rw [hnm]
            exact ok.nd.filter _
          · rw [pk.mem_iff, hnm, List.mem_filter, decide_eq_true_eq]
            unfold ahT
            refine ⟨fun ⟨a, b⟩ => ⟨a, List.not_mem_nil, by exact_mod_cast b⟩, fun ⟨a, _, c⟩ => ⟨a, by exact_mod_cast c⟩⟩
        have nop : ∀ x ∈ nm as, bl x ≠ op := fun x hx => ne_of_none (hD6.dl x hx) hop.1
        have nfo : Dl ≠ op := ne_of_none f6 hop.1
        have hfo : Xk.Fr op H := ⟨Same.free s6 hop.1⟩
        wtm_at "xs"
        refine Xk.x_while1 (fun m σ' H' => ∃ (zs : List Addr) (o : Rn) (ah : Nm → Int) (y8 y9 : Option V), σ' = [some (V.ref n), some (V.ref p), some (V.ref d), some (V.ref bd), y4, y5, some (V.ref Dl), some (V.ref op), y8, y9] ∧ Lp K H H5 H' d bd Dl op bl (nm as) qs srt zs o ah ∧ m = as.length - o.length) as.length ⟨zs, [], ahT qs, none, none, rfl, L0, rfl⟩ ?_
        clear L0 hhz pk kmap hpz s6 t6 f6 s7 h7 hD6 h5 hfs5 hnm hop hfsl hD5
        rintro m σ' H8 ⟨zs, o, ah, y8, y9, rfl, L, hm⟩
        have hfr8 := L.fr
        have hod8 := L.od
        wtm_at "xs"
        refine ⟨_, .inl ⟨_, Xk.sq_of hfr8, rfl⟩, ?_⟩
        cases zs with
        | nil =>
          refine Xk.x_wF ?_
          wtm_at "xs"
          refine ⟨d, _, rfl, L.dg.da, ?_⟩
          have hol : (nm o).length ≤ (nm as).length := nodup_sub L.ond L.osub
          have hend := due_end ok L.du hol fun y hy hno hc => by
            have := (L.zm y).mpr ⟨hy, hno, hc⟩
            cases this
          have oal : (nm as).length = as.length := List.length_map ..
          have ool : (nm o).length = o.length := List.length_map ..
          rw [oal] at hend
          wtm_at "xs"
          refine Xk.x_itd (fun h => ?_) (fun h => ?_)
          · have he : (nm o).length = as.length := by
              injection h with h
              rw [List.length_map] at h
              unfold mk at h
              rw [List.length_map] at h
              omega
            rw [if_pos he] at hend
            wtm_at "xs"
            refine k H8 _ L.same ?_
            rw [hend]
            exact ⟨op, o, rfl, L.od, fun b hb => L.tups _ _ (L.oa b hb), rfl⟩
          · have he : ¬ (nm o).length = as.length := fun e => h (by
              unfold mk
              rw [List.length_map, List.length_map, ← ool, e, oal])
            rw [if_neg he] at hend
            wtm_at "xs"
            refine k H8 _ L.same ?_
            rw [hend]
            rfl
        | cons z0 zr =>
          refine Xk.x_wT ?_
          wtm_at "xs"
          have zlen : (z0 :: zr).length ≤ 20 := by
            have h1 := nodup_sub L.znd (fun y hy => ((L.zm y).mp hy).1)
            rw [List.length_map, List.length_map] at h1
            omega
          refine ⟨Dl, z0 :: zr, keyH H5, rfl, hfr8, fun b hb => Xk.st_of (L.tups _ _ (L.za b hb)), by omega, by simp, L.hp, fun r rest hperm hmin hhp => ?_⟩
          have hrin : r ∈ z0 :: zr := hperm.mem_iff.mp (List.mem_cons_self ..)
          have hAr := L.za r hrin
          generalize hxd : keyH H5 r = x at hAr hmin
          have hxz : x ∈ (z0 :: zr).map (keyH H5) := hxd ▸ List.mem_map_of_mem hrin
          obtain ⟨hxn, hxo, hxc⟩ := (L.zm x).mp hxz
          have hol2 : o.length < as.length := by
            have h1 := nodup_sub (xs := x :: nm o) (List.nodup_cons.mpr ⟨hxo, L.ond⟩) (ys := nm as) fun y hy => (List.mem_cons.mp hy).elim (fun e => e ▸ hxn) (L.osub y)
            rw [List.length_cons, List.length_map, List.length_map] at h1
            omega
          have hdu := due_pop ok L.du (by rw [List.length_map, List.length_map]; exact hol2) hxn hxo hxc fun y hy hno hc => by
            obtain ⟨c, hc1, hc2⟩ := List.mem_map.mp ((L.zm y).mpr ⟨hy, hno, hc⟩)
            rw [← hc2]
            exact hmin c hc1
          have s9 : Same H (upd H8 Dl (.lst (rest.map V.ref))) := Xk.same_mut L.same hfr
          have t9 : ∀ a xs, H5 a = some (.tup xs) → upd H8 Dl (.lst (rest.map V.ref)) a = some (.tup xs) := fun a xs e => by rw [upd_ne (ne_of (L.tups a xs e) hfr8 (by simp))]; exact L.tups a xs e
          have d9 : Dg (upd H8 Dl (.lst (rest.map V.ref))) d bd bl (nm as) ah (brT qs) := ⟨by rw [upd_ne (ne_of L.dg.da hfr8 (by simp))]; exact L.dg.da, by rw [upd_ne (ne_of L.dg.db hfr8 (by simp))]; exact L.dg.db, fun y hy => by rw [upd_ne (nfl y hy)]; exact L.dg.dl y hy, L.dg.inj⟩
          have f9 : upd H8 Dl (.lst (rest.map V.ref)) Dl = some (.lst (rest.map V.ref)) := upd_same
          have o9 : upd H8 Dl (.lst (rest.map V.ref)) op = some (.lst (rf o)) := by rw [upd_ne (Ne.symm nfo)]; exact hod8
          generalize upd H8 Dl (.lst (rest.map V.ref)) = H9 at *
          have hol3 : o.length < 100000 := by omega
          wtm_at "xs"
          have s10 : Same H (upd H9 op (.lst (rf o ++ [.ref r]))) := Xk.same_mut s9 hfo
          have t10 : ∀ a xs, H5 a = some (.tup xs) → upd H9 op (.lst (rf o ++ [.ref r])) a = some (.tup xs) := fun a xs e => by rw [upd_ne (ne_of (t9 a xs e) o9 (by simp))]; exact t9 a xs e
          have d10 : Dg (upd H9 op (.lst (rf o ++ [.ref r]))) d bd bl (nm as) ah (brT qs) := ⟨by rw [upd_ne (ne_of d9.da o9 (by simp))]; exact d9.da, by rw [upd_ne (ne_of d9.db o9 (by simp))]; exact d9.db, fun y hy => by rw [upd_ne (nop y hy)]; exact d9.dl y hy, d9.inj⟩
          have f10 : upd H9 op (.lst (rf o ++ [.ref r])) Dl = some (.lst (rest.map V.ref)) := by rw [upd_ne nfo]; exact f9
          have o10 : upd H9 op (.lst (rf o ++ [.ref r])) op = some (.lst (rf (o ++ [(r, x)]))) := by rw [upd_same]; simp [rf]
          generalize upd H9 op (.lst (rf o ++ [.ref r])) = H10 at *
          have eo : nm (o ++ [(r, x)]) = nm o ++ [x] := by simp [nm]
          have hAr10 : At K H10 (r, x) := t10 _ _ hAr
          refine ⟨bd, _, rfl, dget d10.db hAr10 hxn, ?_⟩
          have hb10 := Xk.sq_of (K := K) (d10.dl x hxn)
          have pz : (x :: rest.map (keyH H5)).Perm ((z0 :: zr).map (keyH H5)) := by
            rw [← hxd]
            exact hperm.map (keyH H5)
          have pnd := pz.nodup_iff.mpr L.znd
          have rmem : ∀ y, y ∈ rest.map (keyH H5) ↔ y ∈ nm as ∧ y ∉ nm o ++ [x] ∧ ah y = 0 := fun y => by
            have h1 := (pz.mem_iff (a := y)).trans (L.zm y)
            rw [List.mem_cons] at h1
            rw [List.mem_append, List.mem_singleton]
            constructor
            · intro hy
              obtain ⟨a1, a2, a3⟩ := h1.mp (.inr hy)
              refine ⟨a1, fun z => z.elim a2 fun e => (List.nodup_cons.mp pnd).1 (e ▸ hy), ?_⟩
              rw [L.cn y a1 a2, a3]
              rfl
            · rintro ⟨a1, a2, a3⟩
              have a4 : y ∉ nm o := fun z => a2 (.inl z)
              rw [L.cn y a1 a4] at a3
              exact (h1.mpr ⟨a1, a4, by omega⟩).resolve_left fun e => a2 (.inr e)
          refine Xk.x_forL (xs := rf (brT qs x)) (fun j σ' H' => ∃ (zs : List Addr) (ah : Nm → Int) (y9 : Option V), σ' = [some (V.ref n), some (V.ref p), some (V.ref d), some (V.ref bd), y4, y5, some (V.ref Dl), some (V.ref op), some (V.ref r), y9] ∧ Same H H' ∧ (∀ a xs, H5 a = some (.tup xs) → H' a = some (.tup xs)) ∧ Dg H' d bd bl (nm as) ah (brT qs) ∧
            H' Dl = some (.lst (zs.map V.ref)) ∧ H' op = some (.lst (rf (o ++ [(r, x)]))) ∧ Xk.HpK (keyH H5) zs ∧ (∀ a ∈ zs, At K H5 (a, keyH H5 a)) ∧ (zs.map (keyH H5)).Nodup ∧ (∀ y ∈ nm as, y ∉ nm o ++ [x] → ah y = (cnt (prs qs) (nm o ++ [x]) y + ((nm (brT qs x)).drop j).count y : Nat)) ∧ ∀ y, y ∈ zs.map (keyH H5) ↔ y ∈ nm as ∧ y ∉ nm o ++ [x] ∧ ah y = 0) hb10
            ⟨rest, ah, _, rfl, s10, t10, d10, f10, o10, hhp, fun a ha => L.za a (hperm.mem_iff.mp (List.mem_cons_of_mem _ ha)), (List.nodup_cons.mp pnd).2, fun y hy hno => ?_, rmem⟩ (fun j σ' H' _ ⟨_, _, _, _, _, _, dg, _⟩ => Xk.sq_of (dg.dl x hxn)) ?_ ?_
          · have hno2 : y ∉ nm o := fun z => hno (List.mem_append_left _ z)
            rw [L.cn y hy hno2, ← cnt_pop hxo, arr_br]
            rfl
          · rintro j v σ' H11 hj ⟨zs, ah2, y9, rfl, s11, t11, d11, f11, o11, hp11, za11, znd11, cn11, zm11⟩
            obtain ⟨b, hb, rfl⟩ := rf_at hj
            have hbm := List.mem_of_getElem? hb
            obtain ⟨e, he, hbe⟩ := List.mem_map.mp (show b ∈ (qs.filter fun e => decide (e.2.1.2 = x)).map (·.2.2) from hbm)
            have heq := (List.mem_filter.mp he).1
            have hex : e.2.1.2 = x := of_decide_eq_true (List.mem_filter.mp he).2
            have hbat : At K H b := hbe ▸ (hqa e heq).b
            have hpm : (x, b.2) ∈ prs qs := by
              rw [← hex, ← hbe]
              exact List.mem_map_of_mem (f := fun e : Addr × (Addr × Nm) × (Addr × Nm) => (e.2.1.2, e.2.2.2)) heq
            obtain ⟨_, hbn, hbx⟩ := ok.pin _ hpm
            have hbn : b.2 ∈ nm as := hbn
            have hbx : x ≠ b.2 := hbx
            have hc1 : 0 < cnt (prs qs) (nm o) b.2 := List.countP_pos_iff.mpr ⟨(x, b.2), hpm, by simp [hxo]⟩
            have hbo : b.2 ∉ nm o := fun z => by
              have := L.oc _ z
              omega
            have hbo2 : b.2 ∉ nm o ++ [x] := fun z => (List.mem_append.mp z).elim hbo fun z => hbx (List.mem_singleton.mp z).symm
            have hdrop : (nm (brT qs x)).drop j = b.2 :: (nm (brT qs x)).drop (j + 1) := by
              have hlt : j < (nm (brT qs x)).length := by
                rw [List.length_map]
                exact Xk.at_lt hb
              rw [List.drop_eq_getElem_cons hlt]
              congr 1
              have h1 : (nm (brT qs x))[j]? = some b.2 := by rw [List.getElem?_map, hb]; rfl
              exact Option.some.inj ((List.getElem?_eq_getElem hlt).symm.trans h1)
            have hat5 : At K H5 b := s5 _ _ hbat
            have hkey := keyH_at hat5
            have hb11 := hbat.same s11
            have hnl : (nm as).length < 100000 := by rw [List.length_map]; omega
            have hah := cn11 b.2 hbn hbo2
            rw [hdrop, List.count_cons_self] at hah
            have hbz : b.2 ∉ zs.map (keyH H5) := fun z => by
              have := ((zm11 b.2).mp z).2.2
              omega
            have zlen : zs.length ≤ 20 := by
              have h1 := nodup_sub znd11 (fun y hy => ((zm11 y).mp hy).1)
              rw [List.length_map, List.length_map] at h1
              omega
            wtm_at "xs"
            unfold sDAug
            wtm_at "xs"
            refine ⟨d, _, rfl, dget d11.da hb11 hbn, ?_⟩
            wtm_at "xs"
            refine ⟨_, _, rfl, rfl, _, dput d11.da hb11 hbn hnl, ?_⟩
            have d12 := dg_put d11 (x := b.2) (v := ah2 b.2 - 1) hdb
            have s12 := Xk.same_mut (o := .dT (mk (nm as) fun y => if y = b.2 then V.int (ah2 b.2 - 1) else V.int (ah2 y))) s11 hfd
            have t12 : ∀ a xs, H5 a = some (.tup xs) → upd H11 d (.dT (mk (nm as) fun y => if y = b.2 then V.int (ah2 b.2 - 1) else V.int (ah2 y))) a = some (.tup xs) := fun a xs e => by rw [upd_ne (ne_of (t11 a xs e) d11.da (by simp))]; exact t11 a xs e
            have f12 : upd H11 d (.dT (mk (nm as) fun y => if y = b.2 then V.int (ah2 b.2 - 1) else V.int (ah2 y))) Dl = some (.lst (zs.map V.ref)) := by rw [upd_ne (ne_of f11 d11.da (by simp))]; exact f11
            have o12 : upd H11 d (.dT (mk (nm as) fun y => if y = b.2 then V.int (ah2 b.2 - 1) else V.int (ah2 y))) op = some (.lst (rf (o ++ [(r, x)]))) := by rw [upd_ne (ne_of o11 d11.da (by simp))]; exact o11
            generalize upd H11 d _ = H12 at *
            have hb12 := hbat.same s12
            have cn12 : ∀ y ∈ nm as, y ∉ nm o ++ [x] → (fun y => if y = b.2 then ah2 b.2 - 1 else ah2 y) y = (cnt (prs qs) (nm o ++ [x]) y + ((nm (brT qs x)).drop (j + 1)).count y : Nat) := fun y hy hno => by
              have h1 := cn11 y hy hno
              rw [hdrop] at h1
              by_cases hyb : y = b.2
              · subst hyb
                rw [List.count_cons_self] at h1
                show (if b.2 = b.2 then ah2 b.2 - 1 else ah2 b.2) = _
                rw [if_pos rfl]
                omega
              · rw [List.count_cons_of_ne (fun e => hyb e.symm)] at h1
                show (if y = b.2 then ah2 b.2 - 1 else ah2 y) = _
                rw [if_neg hyb]
                exact h1
            wtm_at "xs"
            refine ⟨d, _, rfl, dget d12.da hb12 hbn, ?_⟩
            wtm_at "xs"
            refine Xk.x_itd (fun h => ?_) (fun h => ?_)
            · have hz : ah2 b.2 - 1 = 0 := by
                have h : (if b.2 = b.2 then ah2 b.2 - 1 else ah2 b.2) = 0 := by injection h
                rw [if_pos rfl] at h
                exact h
              wtm_at "xs"
              refine ⟨Dl, b.1, zs, keyH H5, rfl, f12, fun a ha => ?_, by omega, hp11, fun zs2 hp2 hh2 => ?_⟩
              · rcases List.mem_append.mp ha with ha | ha
                · exact Xk.st_of (t12 _ _ (za11 a ha))
                · rw [List.mem_singleton.mp ha, hkey]
                  exact Xk.st_of hb12
              have hk2 : (zs2.map (keyH H5)).Perm (zs.map (keyH H5) ++ [b.2]) := by
                have := hp2.map (keyH H5)
                rw [List.map_append] at this
                rw [← hkey]
                exact this
              refine ⟨zs2, _, _, rfl, Xk.same_mut s12 hfr, fun a xs e => by rw [upd_ne (ne_of (t12 a xs e) f12 (by simp))]; exact t12 a xs e, ⟨by rw [upd_ne (ne_of d12.da f12 (by simp))]; exact d12.da, by rw [upd_ne (ne_of d12.db f12 (by simp))]; exact d12.db, fun y hy => by rw [upd_ne (nfl y hy)]; exact d12.dl y hy, d12.inj⟩, upd_same, by rw [upd_ne (Ne.symm nfo)]; exact o12, hh2, fun a ha => ?_, ?_, cn12, fun y => ?_⟩
              · rcases List.mem_append.mp (hp2.mem_iff.mp ha) with ha | ha
                · exact za11 a ha
                · rw [List.mem_singleton.mp ha, hkey]
                  exact hat5
              · refine hk2.nodup_iff.mpr (List.nodup_append.mpr ⟨znd11, by simp, fun a ha c hc e => hbz (by rw [List.mem_singleton.mp hc] at e; exact e ▸ ha)⟩)
              · rw [hk2.mem_iff, List.mem_append, List.mem_singleton, zm11 y]
                by_cases hyb : y = b.2
                · subst hyb
                  simp [hbn, hbo, hbx.symm, hz]
                · simp [hyb]
            · have hz : ¬ ah2 b.2 - 1 = 0 := fun z => h (by rw [if_pos rfl, z])
              refine ⟨zs, _, _, rfl, s12, t12, d12, f12, o12, hp11, za11, znd11, cn12, fun y => ?_⟩
              rw [zm11 y]
              by_cases hyb : y = b.2
              · subst hyb
                have hne : ¬ ah2 b.2 = 0 := by omega
                simp [hz, hne]
              · simp [hyb]
          · rintro σ' H11 ⟨zs, ah2, y9, rfl, s11, t11, d11, f11, o11, hp11, za11, znd11, cn11, zm11⟩
            refine ⟨as.length - (o ++ [(r, x)]).length, by rw [List.length_append]; simp; omega, zs, o ++ [(r, x)], ah2, _, _, rfl, ⟨s11, t11, d11, f11, o11, hp11, za11, fun b hb => ?_, ?_, fun y hy => ?_, fun y hy => ?_, fun y hy hno => ?_, znd11, fun y => ?_, ?_⟩, rfl⟩
            · rcases List.mem_append.mp hb with hb | hb
              · exact L.oa b hb
              · rw [List.mem_singleton.mp hb]
                exact hAr
            · rw [eo]
              exact List.nodup_append.mpr ⟨L.ond, by simp, fun a ha b hb e => hxo (by rw [List.mem_singleton.mp hb] at e; exact e ▸ ha)⟩
            · rw [eo] at hy
              rcases List.mem_append.mp hy with hy | hy
              · exact L.osub y hy
              · rw [List.mem_singleton.mp hy]
                exact hxn
            · rw [eo] at hy ⊢
              have hc := cnt_pop (ps := prs qs) (y := y) hxo
              rcases List.mem_append.mp hy with hy | hy
              · have := L.oc y hy
                omega
              · rw [List.mem_singleton.mp hy] at hc ⊢
                omega
            · rw [eo] at hno ⊢
              have := cn11 y hy hno
              rw [List.drop_of_length_le (by rw [List.length_map, List.length_map]; omega)] at this
              exact this
            · rw [eo, zm11 y]
              constructor
              · rintro ⟨a1, a2, a3⟩
                have := cn11 y a1 a2
                rw [List.drop_of_length_le (by rw [List.length_map, List.length_map]; omega), List.count_nil] at this
                exact ⟨a1, a2, by omega⟩
              · rintro ⟨a1, a2, a3⟩
                have := cn11 y a1 a2
                rw [List.drop_of_length_le (by rw [List.length_map, List.length_map]; omega), List.count_nil] at this
                exact ⟨a1, a2, by omega⟩
            · rw [eo]
              exact hdu
--CUT--
theorem leN_trans (a b c : Nm) : (!decide (b < a)) = true → (!decide (c < b)) = true → (!decide (c < a)) = true := by
  simp only [Bool.not_eq_true', decide_eq_false_iff_not]
  intro h1 h2
  rw [List.not_lt] at *
  exact List.le_trans h1 h2
theorem leN_total (a b : Nm) : ((!decide (b < a)) || (!decide (a < b))) = true := by
  by_cases h : b < a
  · have := List.lt_asymm h
    simp [this]
  · simp [h]
def lePair (a b : Addr × Nm) : Bool := !decide (b.2 < a.2)
theorem srt_eq {ns : List Nm} {ps : List Pr} {srt : List Nm} (h : Ok ns ps srt) {as : Rn} (ha : nm as = ns) : nm (as.mergeSort lePair) = srt := by
  have p1 : (nm (as.mergeSort lePair)).Perm ns := ha ▸ (List.mergeSort_perm as lePair).map _
  have s1 : (nm (as.mergeSort lePair)).Pairwise leN := by
    unfold nm
    rw [List.pairwise_map]
    refine (List.pairwise_mergeSort (le := lePair) (fun a b c => leN_trans a.2 b.2 c.2) (fun a b => leN_total a.2 b.2) as).imp fun {a b} hh => ?_
    exact of_decide_eq_false (by simpa [lePair] using hh)
  exact (p1.trans h.perm.symm).eq_of_pairwise (fun a b _ _ h1 h2 => le_eq h1 h2) s1 h.srt
def tg (b : Addr × Nm) : V × PyData := (V.ref b.1, .tuple (b.2.map .int))
theorem sort_tg (as : Rn) : ((as.map tg).mergeSort (PySem.W.dataLe false (·.2))).map (·.1) = rf (as.mergeSort lePair) := by
  rw [← List.map_mergeSort (r := lePair) (f := tg) fun a _ b _ => ?_, List.map_map]
  · rfl
  · show lePair a b = !PySem.W.dataLt (.tuple (b.2.map .int)) (.tuple (a.2.map .int))
    rw [Xk.tupLt]
    rfl
theorem free_len (n : Nat) : (n == 0) = decide ((n : Int) = 0) := by
  cases n with
  | zero => rfl
  | succ m =>
    have : ¬ ((m + 1 : Nat) : Int) = 0 := by omega
    rw [decide_eq_false this]
    rfl
theorem eq_at {H : Hp} {a b : Addr × Nm} {Q : VK} (h : At K H a) (h' : At K H b) (q : Q (.bl (decide (a.2 = b.2))) H) : rEqD K (.ref a.1) (.ref b.1) H Q := by
  refine ⟨_, _, (at_pk h).1, (at_pk h').1, Xk.shaped_of (at_pk h).lay (Nat.le_trans (at_pk h).2.2 (by decide)), Xk.shaped_of (at_pk h').lay (Nat.le_trans (at_pk h').2.2 (by decide)), ?_⟩
  rw [Xk.eqv_tup]
  exact q
theorem nee_at {H : Hp} {a b : Addr × Nm} {Q : VK} (h : At K H a) (h' : At K H b) (q : Q (.bl (decide (a.2 ≠ b.2))) H) : rNeD K (.ref a.1) (.ref b.1) H Q := by
  refine ⟨_, _, (at_pk h).1, (at_pk h').1, Xk.shaped_of (at_pk h).lay (Nat.le_trans (at_pk h).2.2 (by decide)), Xk.shaped_of (at_pk h').lay (Nat.le_trans (at_pk h').2.2 (by decide)), ?_⟩
  rw [Xk.eqv_tup, ← decide_not]
  exact q
theorem pk_at {H : Hp} : ∀ {rs : Rn}, (∀ b ∈ rs, At K H b) → Xk.PkAll K H 1 (rf rs) ((nm rs).map fun x => PyData.tuple (x.map .int))
  | [], _ => Xk.pk_nil
  | b :: r, h => Xk.pk_cons (at_pk (h b (List.mem_cons_self ..))) (pk_at fun c hc => h c (List.mem_cons_of_mem _ hc))
theorem in_eq (x : Nm) : ∀ ns : List Nm, Xk.inD (.tuple (x.map .int)) (ns.map fun x => PyData.tuple (x.map .int)) = decide (x ∈ ns)
  | [] => rfl
  | y :: r => by
    show (PyData.eqv (.tuple (y.map .int)) (.tuple (x.map .int)) || Xk.inD (.tuple (x.map .int)) (r.map fun x => PyData.tuple (x.map .int))) = _
    rw [in_eq x r, Xk.eqv_tup, ← Bool.decide_or]
    refine decide_eq_decide.mpr ?_
    rw [List.mem_cons]
    exact ⟨fun z => z.elim (fun e => .inl e.symm) .inr, fun z => z.elim (fun e => .inl e.symm) .inr⟩
theorem in_at {H : Hp} {a : Addr × Nm} {l : Addr} {rs : Rn} {Q : VK} (h : At K H a) (hl : H l = some (.lst (rf rs))) (hr : ∀ b ∈ rs, At K H b) (q : Q (.bl (decide (a.2 ∈ nm rs))) H) : rInD K (.ref a.1) (.ref l) H Q := by
  refine Xk.x_inPk (n := 1) (m := 1) (at_pk h) (Xk.sq_of hl) (pk_at hr) ?_
  rw [in_eq]
  exact q
def sp__law_due (K : PySem.W.Frag) : Sp := fun vs H Q _ => ∃ (n p : Addr) (as : Rn) (qs : List (Addr × (Addr × Nm) × (Addr × Nm))) (srt : List Nm), vs = [.ref n, .ref p] ∧ H n = some (.lst (rf as)) ∧ (∀ b ∈ as, At K H b) ∧ H p = some (.lst (qs.map fun e => V.ref e.1)) ∧ (∀ e ∈ qs, PrAt K H e) ∧
  (∀ b ∈ as, b.2 ≠ []) ∧ as.length ≤ 20 ∧ qs.length ≤ 50 ∧ Ok (nm as) (prs qs) srt ∧ ∀ H' v, Same H H' → optV K H' v (dueGo (prs qs) as.length srt) → Q v H'
theorem ok__law_due (T : Txt K mg) : FnOk P w K mg base CX0 1 T.f__law_due T.d__law_due ["names", "pairs"] (sp__law_due K) := by
  refine T.F__law_due.ok sc__law_due (fun vs H Q E h => ?_) (fun cdv A outer s H vs Q E hr h => ?_)
  · obtain ⟨n, p, as, qs, srt, rfl, _⟩ := h
    rfl
  obtain ⟨n, p, as, qs, srt, rfl, hn, hat, hp, hqa, hne, hal, hql, ok, k⟩ := h
  refine ⟨_, (pss_cons (ps_set (i := 2) sc__law_due.nd rfl (Or.inr rfl) (pe_callB (Xk.k_sortX (K := K) hr.units (by rfl)) (by rfl) T.m_sorted (by decide +kernel) (pa_cons (pv 0) pa_nil)))
      (pss_cons (ps_set (i := 3) sc__law_due.nd rfl (Or.inl rfl) (pe_lst pa_nil))
      (pss_cons (ps_for PassesOwn.never rfl (pi_range1 (by rfl) T.m_range (pa_cons (pe_callB (Xk.k_len (K := K) (by rfl)) (by rfl) T.m_len PySem.boot_len (pa_cons (pv 0) pa_nil)) pa_nil)) (pg_name (i := 4) sc__law_due.nd rfl (Or.inl rfl)) (pss_cons (ps_set (i := 5) sc__law_due.nd rfl (Or.inr rfl) (pe_lst pa_nil))
      (pss_cons (ps_for PassesOwn.never rfl (pi_list (pv 2)) (pg_name (i := 6) sc__law_due.nd rfl (Or.inr rfl)) (pss_one (ps_if (pt_cmpR op_eq (pe_callB (Xk.k_len (K := K) (by rfl)) (by rfl) T.m_len PySem.boot_len (pa_cons (pe_lc (own := [("pair", 7)]) (g := gName 7) rfl sc__law_due.nd  (pi_list (pv 1)) (blkOk_by (N := N__law_due) (sc := defScope s__law_due) (own := [("pair", 7)]) (by decide +kernel)) (fun _ _ _ _ _ => pg_name (i := 7) sc__law_due.nd rfl (Or.inl rfl)) (fun _ _ _ _ _ => pts_one (PW.pt (pw_and (pt_cmpR (Xk.k_eqD (K := K) hr.units (by rfl)) (pe_ix (Xk.k_ixT (K := K) (by rfl)) (pv 7) (pe_int) (fun _ _ => rfl)) (pv 6) (nomark _)) (pw_and1 (pt_cmpR (Xk.k_inD (K := K) (Xk.u65 hr) (by rfl)) (pe_ix (Xk.k_ixT (K := K) (by rfl)) (pv 7) (pe_int) (fun _ _ => rfl)) (pv 2) (by rfl)))))) (fun _ _ _ _ _ => (pv 7))) pa_nil)) (pe_int) (nomark _)) (pss_one (ps_expr (pe_bm PySem.F.plainAttrs_list PySem.F.slot_list_append PySem.F.type_list_append mt_append (pv 5) (pa_cons (pv 6) pa_nil)))) pss_nil)))
      (Evl.pss_cut (ps_if (pt_cmpR op_eq (pe_callB (Xk.k_len (K := K) (by rfl)) (by rfl) T.m_len PySem.boot_len (pa_cons (pv 5) pa_nil)) (pe_int) (nomark _)) (pss_one (ps_ret (pe_non))) pss_nil)
      (pss_cons (ps_expr (pe_bm PySem.F.plainAttrs_list PySem.F.slot_list_append PySem.F.type_list_append mt_append (pv 3) (pa_cons (pe_ix (Xk.k_ixL (K := K) (by rfl)) (pv 5) (pe_int) (fun _ _ => rfl)) pa_nil)))
      (pss_one (ps_set (i := 2) sc__law_due.nd rfl (Or.inr rfl) (pe_lc (own := [("name", 6)]) (g := gName 6) rfl sc__law_due.nd  (pi_list (pv 2)) (blkOk_by (N := N__law_due) (sc := defScope s__law_due) (own := [("name", 6)]) (by decide +kernel)) (fun _ _ _ _ _ => pg_name (i := 6) sc__law_due.nd rfl (Or.inl rfl)) (fun _ _ _ _ _ => pts_one (pt_cmpR (Xk.k_neD (K := K) hr.units (by rfl)) (pv 6) (pe_ix (Xk.k_ixL (K := K) (by rfl)) (pv 5) (pe_int) (fun _ _ => rfl)) (nomark _))) (fun _ _ _ _ _ => (pv 6))))))))))
      (pss_one (ps_ret (pv 3)))))), ?_⟩
  wtm_at "x0"
  have hn1 := Xk.sq_of (K := K) hn
  wtm_at "xs"
  refine ⟨n, as.map tg, rfl, by rw [List.map_map]; exact hn1, fun b hb => ?_, ?_, ?_, fun r hr2 => ?_⟩
  · obtain ⟨c, hc, rfl⟩ := List.mem_map.mp hb
    exact ⟨(at_pk (hat c hc)).1, Nat.le_trans (at_pk (hat c hc)).2.2 (by decide)⟩
  · rw [List.map_map]
    intro d1 hd1 d2 hd2
    obtain ⟨b1, _, rfl⟩ := List.mem_map.mp hd1
    obtain ⟨b2, _, rfl⟩ := List.mem_map.mp hd2
    show PySem.W.alike (.tuple (b1.2.map .int)) (.tuple (b2.2.map .int)) = true
    simp only [PySem.W.alike]
    exact Xk.ints_alike _ _
  · rw [List.map_map]
    refine .inl fun d1 hd1 => ?_
    obtain ⟨b1, hb1, rfl⟩ := List.mem_map.mp hd1
    have h1 := hne b1 hb1
    cases h2 : b1.2 with
    | nil => exact absurd h2 h1
    | cons x r => exact ⟨.int x, r.map .int, by show PyData.tuple (b1.2.map .int) = _; rw [h2]; rfl⟩
  rw [sort_tg]
  have hsrt := srt_eq ok (as := as) rfl
  generalize hrs0 : as.mergeSort lePair = rs0 at hsrt
  have hrp : rs0.Perm as := hrs0 ▸ List.mergeSort_perm as lePair
  have hfr : Xk.Fr r H := ⟨hr2⟩
  have s1 : Same H (upd H r (.lst (rf rs0))) := Xk.same_new hr2
  have h1 : upd H r (.lst (rf rs0)) r = some (.lst (rf rs0)) := upd_same
  generalize upd H r (.lst (rf rs0)) = H1 at *
  wtm_at "xs"
  intro fo H2 hfo s2 h2
  have h12 := s2 _ _ h1
  have s02 := s1.trans s2
  have hfo2 : Xk.Fr fo H := ⟨Same.free s1 hfo.1⟩
  wtm_at "xs"
  refine Xk.x_range (fun t σ' H' => ∃ (rst : Addr) (rs fs : Rn) (y4 y5 y6 y7 : Option V), σ' = [some (V.ref n), some (V.ref p), some (V.ref rst), some (V.ref fo), y4, y5, y6, y7] ∧ Same H H' ∧ H' rst = some (.lst (rf rs)) ∧ H' fo = some (.lst (rf fs)) ∧ rst ≠ fo ∧ (∀ b ∈ rs, At K H b) ∧ (∀ b ∈ fs, At K H b) ∧
      rs.length ≤ 20 ∧ fs.length = t ∧ (dueGo (prs qs) (as.length - t) (nm rs)).map (nm fs ++ ·) = dueGo (prs qs) as.length srt) ⟨by omega, by rw [List.length_map]; omega⟩
    ⟨r, rs0, [], _, _, _, _, rfl, s02, h12, h2, ne_of_none h1 hfo.1, fun b hb => hat b (hrp.mem_iff.mp hb), fun b hb => absurd hb (List.not_mem_nil), by rw [hrp.length_eq]; exact hal, rfl, ?_⟩ ?_ ?_
  · rw [hsrt]
    show (dueGo (prs qs) (as.length - 0) srt).map ([] ++ ·) = _
    rw [Nat.sub_zero]
    cases dueGo (prs qs) as.length srt <;> rfl
  · clear h12 h2 s02 hfo h1 s1 s2 hrs0 hrp hsrt
    rintro t σ' H3 ht ⟨rst, rs, fs, y4, y5, y6, y7, rfl, s3, h3, h3f, nrf, hrs, hfs, hrl, hfl, hdu⟩
    rw [List.length_map] at ht
    wtm_at "xs"
    intro fr H4 hfr4 s4 h4
    have s04 := s3.trans s4
    have h4r := s4 _ _ h3
    have h4f := s4 _ _ h3f
    have hr4 := Xk.sq_of (K := K) h4r
    have hfrH : Xk.Fr fr H := ⟨Same.free s3 hfr4.1⟩
    have nfr : fr ≠ rst := fun z => by
      have := hfr4.1
      rw [z, h3] at this
      cases this
    have nff : fr ≠ fo := fun z => by
      have := hfr4.1
      rw [z, h3f] at this
      cases this
    wtm_at "xs"
    refine Xk.x_forL (xs := rf rs) (fun i σ' H' => ∃ (ff : Rn) (y6 y7 : Option V), σ' = [some (V.ref n), some (V.ref p), some (V.ref rst), some (V.ref fo), some (V.int (t : Int)), some (V.ref fr), y6, y7] ∧ Same H3 H' ∧ H' fr = some (.lst (rf ff)) ∧ ff = (rs.take i).filter fun b => free1 (prs qs) (nm rs) b.2) hr4 ⟨[], _, _, rfl, s4, h4, rfl⟩ (fun i σ' H' _ ⟨_, _, _, _, s, _⟩ => Xk.sq_of (s _ _ h3)) ?_ ?_
    · rintro i v σ' H5 hi ⟨ff, y6, y7, rfl, s5, h5, hff⟩
      obtain ⟨b, hb, rfl⟩ := rf_at hi
      have hil := Xk.at_lt hb
      have hb5 := ((hrs b (List.mem_of_getElem? hb)).same s3).same s5
      have hp5 := Xk.sq_of (K := K) (s5 _ _ (s3 _ _ hp))
      have h5r := s5 _ _ h3
      have hffl : ff.length ≤ 20 := by
        rw [hff]
        refine Nat.le_trans (List.length_filter_le ..) ?_
        rw [List.length_take]
        omega
      have enx : (rs.take (i + 1)).filter (fun b => free1 (prs qs) (nm rs) b.2) = ff ++ if free1 (prs qs) (nm rs) b.2 = true then [b] else [] := by
        rw [List.take_add_one, hb, List.filter_append, ← hff]
        cases z : free1 (prs qs) (nm rs) b.2 <;> simp [z]
      wtm_at "xs"
      refine Xk.x_lcL (xs := qs.map fun e => V.ref e.1) (fun Dl j H' => Same H5 H' ∧ H' Dl = some (.lst (((qs.take j).filter fun e => decide (e.2.2.2 = b.2) && decide (e.2.1.2 ∈ nm rs)).map fun e => V.ref e.1))) hp5 (fun Dl hD => ⟨Xk.same_fr hD, upd_same⟩) (fun Dl j H' hD ⟨s, _⟩ => Xk.sq_same hp5 s) ?_ ?_
      · rintro Dl hD j v H6 hj ⟨s6, h6⟩
        obtain ⟨e, he, rfl⟩ := Xk.of_map_at hj
        have hq := hqa e (List.mem_of_getElem? he)
        have s06 := (s3.trans s5).trans s6
        have htp := Xk.st_of (K := K) (s06 _ _ hq.tp)
        have ha6 := hq.a.same s06
        have hb6 := hq.b.same s06
        have hbb6 := hb5.same s6
        have hr6 := s6 _ _ h5r
        have hrs6 : ∀ c ∈ rs, At K H6 c := fun c hc => (hrs c hc).same s06
        have lsz : ((qs.take j).filter fun e => decide (e.2.2.2 = b.2) && decide (e.2.1.2 ∈ nm rs)).length ≤ 50 := by
          refine Nat.le_trans (List.length_filter_le ..) ?_
          rw [List.length_take]
          omega
        have en : (qs.take (j + 1)).filter (fun e => decide (e.2.2.2 = b.2) && decide (e.2.1.2 ∈ nm rs)) = (qs.take j).filter (fun e => decide (e.2.2.2 = b.2) && decide (e.2.1.2 ∈ nm rs)) ++ if (decide (e.2.2.2 = b.2) && decide (e.2.1.2 ∈ nm rs)) = true then [e] else [] := by
          rw [List.take_add_one, he, List.filter_append]
          cases z : (decide (e.2.2.2 = b.2) && decide (e.2.1.2 ∈ nm rs)) <;> simp [z]
        wtm_at "xs"
        refine ⟨rfl, ?_⟩
        wtm_at "xs"
        refine eq_at hb6 hbb6 ⟨_, rfl, ?_⟩
        by_cases z1 : e.2.2.2 = b.2
        · rw [decide_eq_true z1]
          wtm_at "xs"
          refine in_at ha6 hr6 hrs6 ⟨_, rfl, ?_⟩
          by_cases z2 : e.2.1.2 ∈ nm rs
          · rw [decide_eq_true z2]
            wtm_at "xs"
            refine ⟨_, h6, Xk.size_lt (by rw [List.length_map]; omega), Xk.same_mut s6 hD, ?_⟩
            rw [upd_same, en, if_pos (by simp [z1, z2])]
            simp
          · rw [decide_eq_false z2]
            wtm_at "xs"
            refine ⟨s6, ?_⟩
            rw [h6, en, if_neg (by simp [z2]), List.append_nil]
        · rw [decide_eq_false z1]
          wtm_at "xs"
          refine ⟨s6, ?_⟩
          rw [h6, en, if_neg (by simp [z1]), List.append_nil]
      · rintro Dl H6 hD ⟨s6, h6⟩
        rw [List.length_map, List.take_length] at h6
        have hcount : free1 (prs qs) (nm rs) b.2 = decide ((((qs.filter fun e => decide (e.2.2.2 = b.2) && decide (e.2.1.2 ∈ nm rs)).map fun e => V.ref e.1).length : Int) = 0) := by
          unfold free1 prs
          rw [List.filter_map, List.length_map, List.length_map]
          exact free_len _
        have h5f := s6 _ _ h5
        wtm_at "xs"
        refine Xk.x_itd (fun h => ?_) (fun h => ?_)
        · have hz : free1 (prs qs) (nm rs) b.2 = true := by
            rw [hcount]
            exact decide_eq_true (by injection h)
          have hffl2 : ff.length < 100000 := by omega
          wtm_at "xs"
          refine ⟨ff ++ [b], _, _, rfl, Xk.same_mut (s5.trans s6) hfr4, by rw [upd_same]; simp [rf], ?_⟩
          rw [enx, if_pos hz]
        · have hz : free1 (prs qs) (nm rs) b.2 = false := by
            rw [hcount]
            exact decide_eq_false fun z => h (by rw [z])
          refine ⟨ff, _, _, rfl, s5.trans s6, h5f, ?_⟩
          rw [enx, hz]
          simp
    rintro σ' H5 ⟨ff, y6, y7, rfl, s5, h5, hff⟩
    rw [List.length_map, List.take_length] at hff
    have s05 := s3.trans s5
    have h5r := s5 _ _ h3
    have h5f := s5 _ _ h3f
    have hnf : (nm rs).filter (free1 (prs qs) (nm rs)) = nm ff := by
      unfold nm
      rw [hff, List.filter_map]
      rfl
    obtain ⟨m, hm⟩ : ∃ m, as.length - t = m + 1 := ⟨as.length - t - 1, by omega⟩
    have hm2 : as.length - (t + 1) = m := by omega
    rw [hm] at hdu
    have hdu2 : Option.map (nm fs ++ ·) (match (nm rs).filter (free1 (prs qs) (nm rs)) with | [] => none | x :: _ => (dueGo (prs qs) m ((nm rs).filter fun y => decide (y ≠ x))).map (x :: ·)) = dueGo (prs qs) as.length srt := hdu
    rw [hnf] at hdu2
    wtm_at "xs"
    refine Xk.x_cut (fun σ' H' => H' = H5 ∧ ff ≠ [] ∧ σ' = [some (V.ref n), some (V.ref p), some (V.ref rst), some (V.ref fo), some (V.int (t : Int)), some (V.ref fr), y6, y7]) ?_ ?_
    · wtm_at "xs"
      refine Xk.x_itd (fun h => ?_) (fun h => ?_)
      · have e : ff = [] := by
          injection h with h
          rw [List.length_map] at h
          exact List.length_eq_zero_iff.mp (by omega)
        rw [e] at hdu2
        wtm_at "xs"
        refine k H5 _ s05 ?_
        rw [← hdu2]
        rfl
      · wtm_at "xs"
        exact ⟨rfl, fun e => h (by rw [e]; rfl), rfl⟩
    rintro σ' H' ⟨rfl, hffn, rfl⟩
    obtain ⟨b0, fr0, rfl⟩ : ∃ b0 fr0, ff = b0 :: fr0 := by
      match ff, hffn with
      | b0 :: fr0, _ => exact ⟨b0, fr0, rfl⟩
    have hb0 : b0 ∈ rs := (List.mem_filter.mp (hff ▸ List.mem_cons_self ..)).1
    have hix : atI (rf (b0 :: fr0)) 0 = some (.ref b0.1) := atI_nat (j := 0) (show (rf (b0 :: fr0))[0]? = some (.ref b0.1) from rfl)
    have hfsl : fs.length < 100000 := by omega
    wtm_at "xs"
    have s6 : Same H (upd H' fo (.lst (rf fs ++ [.ref b0.1]))) := Xk.same_mut s05 hfo2
    have h6r : upd H' fo (.lst (rf fs ++ [.ref b0.1])) rst = some (.lst (rf rs)) := by rw [upd_ne nrf]; exact h5r
    have h6 : upd H' fo (.lst (rf fs ++ [.ref b0.1])) fr = some (.lst (rf (b0 :: fr0))) := by rw [upd_ne nff]; exact h5
    have h6f : upd H' fo (.lst (rf fs ++ [.ref b0.1])) fo = some (.lst (rf (fs ++ [b0]))) := by rw [upd_same]; simp [rf]
    generalize upd H' fo (.lst (rf fs ++ [.ref b0.1])) = H6 at *
    have hr6 := Xk.sq_of (K := K) h6r
    wtm_at "xs"
    refine Xk.x_lcL (xs := rf rs) (fun Dl j H' => Same H6 H' ∧ H' Dl = some (.lst (rf ((rs.take j).filter fun b => decide (b.2 ≠ b0.2))))) hr6 (fun Dl hD => ⟨Xk.same_fr hD, upd_same⟩) (fun Dl j H' hD ⟨s, _⟩ => Xk.sq_same hr6 s) ?_ ?_
    · rintro Dl hD j v H7 hj ⟨s7, h7⟩
      obtain ⟨b, hb, rfl⟩ := rf_at hj
      have hb7 := ((hrs b (List.mem_of_getElem? hb)).same s6).same s7
      have hb07 := ((hrs b0 hb0).same s6).same s7
      have h7f := s7 _ _ h6
      have lsz : ((rs.take j).filter fun b => decide (b.2 ≠ b0.2)).length ≤ 20 := by
        refine Nat.le_trans (List.length_filter_le ..) ?_
        rw [List.length_take]
        omega
      have en : (rs.take (j + 1)).filter (fun b => decide (b.2 ≠ b0.2)) = (rs.take j).filter (fun b => decide (b.2 ≠ b0.2)) ++ if b.2 ≠ b0.2 then [b] else [] := by
        rw [List.take_add_one, hb, List.filter_append]
        by_cases z : b.2 = b0.2 <;> simp [z]
      wtm_at "xs"
      refine ⟨rfl, ?_⟩
      wtm_at "xs"
      refine nee_at hb7 hb07 ⟨_, rfl, ?_⟩
      by_cases z : b.2 = b0.2
      · rw [decide_eq_false (fun w => w z)]
        wtm_at "xs"
        refine ⟨s7, ?_⟩
        rw [h7, en, if_neg (fun w => w z), List.append_nil]
      · rw [decide_eq_true z]
        wtm_at "xs"
        refine ⟨_, h7, Xk.size_lt (by rw [List.length_map]; omega), Xk.same_mut s7 hD, ?_⟩
        rw [upd_same, en, if_pos z]
        simp [rf]
    · rintro Dl H7 hD ⟨s7, h7⟩
      rw [List.length_map, List.take_length] at h7
      have h7f := s7 _ _ h6f
      wtm_at "xs"
      refine ⟨Dl, rs.filter fun b => decide (b.2 ≠ b0.2), fs ++ [b0], _, _, _, _, rfl, s6.trans s7, h7, h7f, fun z => ?_, fun b hb => hrs b (List.mem_filter.mp hb).1, fun b hb => ?_, Nat.le_trans (List.length_filter_le ..) hrl, by rw [List.length_append, hfl]; rfl, ?_⟩
      · have := hD.1
        rw [z, h6f] at this
        cases this
      · rcases List.mem_append.mp hb with hb | hb
        · exact hfs b hb
        · rw [List.mem_singleton.mp hb]
          exact hrs b0 hb0
      · rw [hm2, ← hdu2]
        have e1 : nm (rs.filter fun b => decide (b.2 ≠ b0.2)) = (nm rs).filter fun y => decide (y ≠ b0.2) := by
          unfold nm
          rw [List.filter_map]
          rfl
        rw [e1]
        show _ = Option.map (nm fs ++ ·) ((dueGo (prs qs) m ((nm rs).filter fun y => decide (y ≠ b0.2))).map (b0.2 :: ·))
        cases dueGo (prs qs) m ((nm rs).filter fun y => decide (y ≠ b0.2)) with
        | none => rfl
        | some l => simp [nm]
  · rintro σ' H3 ⟨rst, rs, fs, y4, y5, y6, y7, rfl, s3, h3, h3f, nrf, hrs, hfs, hrl, hfl, hdu⟩
    rw [show ((rf as).length : Int).toNat = as.length by rw [List.length_map]; rfl] at hfl hdu
    wtm_at "xs"
    refine k H3 _ s3 ?_
    rw [← hdu, Nat.sub_self]
    exact ⟨fo, fs, rfl, h3f, fun b hb => (hfs b hb).same s3, (List.append_nil _).symm⟩
--CUT--
theorem at_mut {H : Hp} {b : Addr × Nm} {l : Addr} {xs : List V} {o : HO} (h : At K H b) (e : H l = some (.lst xs)) : At K (upd H l o) b := by
  unfold At
  rw [upd_ne (ne_of h e (by simp))]
  exact h
theorem nin_at {H : Hp} {a : Addr × Nm} {l : Addr} {rs : Rn} {Q : VK} (h : At K H a) (hl : H l = some (.lst (rf rs))) (hr : ∀ b ∈ rs, At K H b) (q : Q (.bl (!decide (a.2 ∈ nm rs))) H) : rNotInD K (.ref a.1) (.ref l) H Q := by
  refine Xk.x_ninPk (n := 1) (m := 1) (at_pk h) (Xk.sq_of hl) (pk_at hr) ?_
  rw [in_eq]
  exact q
/-- the law's box and its names -/
structure Sn (K : PySem.W.Frag) (H0 H : Hp) (bx nl : Addr) (as : Rn) : Prop where
  same : Same H0 H
  box : ∃ m : Int, H bx = some (.lst [.int m])
  nl : H nl = some (.lst (rf as))
  at_ : ∀ b ∈ as, At K H b ∧ b.2 ≠ []
theorem sn_same {H0 H H' : Hp} {bx nl : Addr} {as : Rn} (h : Sn K H0 H bx nl as) (s : Same H H') : Sn K H0 H' bx nl as :=
  ⟨h.same.trans s, h.box.elim fun m e => ⟨m, s _ _ e⟩, s _ _ h.nl, fun b hb => ⟨(h.at_ b hb).1.same s, (h.at_ b hb).2⟩⟩
theorem sn_take {H0 H : Hp} {bx nl : Addr} {as : Rn} {m : Int} (h : Sn K H0 H bx nl as) (f : Xk.Fr bx H0) (hne : bx ≠ nl) : Sn K H0 (upd H bx (.lst [.int m])) bx nl as := by
  obtain ⟨k, e⟩ := h.box
  exact ⟨Xk.same_mut h.same f, ⟨m, upd_same⟩, by rw [upd_ne (Ne.symm hne)]; exact h.nl, fun b hb => ⟨at_mut (h.at_ b hb).1 e, (h.at_ b hb).2⟩⟩
theorem opt_same {H H' : Hp} {v : V} {o : Option (List Nm)} (h : optV K H v o) (s : Same H H') : optV K H' v o := by
  cases o with
  | none => exact h
  | some o =>
    obtain ⟨p, as, e1, e2, e3, e4⟩ := h
    exact ⟨p, as, e1, s _ _ e2, fun b hb => (e3 b hb).same s, e4⟩
theorem ne_opt {H : Hp} {v w : V} {o : Option (List Nm)} {Q : VK} (h : optV K H v o) (h' : optV K H w o) (q : Q (.bl false) H) : rNeD K v w H Q := by
  cases o with
  | none =>
    have h : v = .non := h
    have h' : w = .non := h'
    subst h
    subst h'
    exact Xk.x_nePk (n := 0) (m := 0) Xk.pk_non Xk.pk_non q
  | some o =>
    obtain ⟨p, as, rfl, e2, e3, e4⟩ := h
    obtain ⟨p', as', rfl, e2', e3', e4'⟩ := h'
    have k1 := pk_at e3
    have k2 := pk_at e3'
    rw [e4] at k1
    rw [e4'] at k2
    exact Xk.x_nePkL (n := 1) (m := 1) (Xk.sq_of e2) (Xk.sq_of e2') k1 k2 q
theorem eq_opt {H : Hp} {v w : V} {o : Option (List Nm)} {Q : VK} (h : optV K H v o) (h' : optV K H w o) (q : Q (.bl true) H) : rEqD K v w H Q := by
  cases o with
  | none =>
    have h : v = .non := h
    have h' : w = .non := h'
    subst h
    subst h'
    exact Xk.x_eqPk (n := 0) (m := 0) Xk.pk_non Xk.pk_non q
  | some o =>
    obtain ⟨p, as, rfl, e2, e3, e4⟩ := h
    obtain ⟨p', as', rfl, e2', e3', e4'⟩ := h'
    have k1 := pk_at e3
    have k2 := pk_at e3'
    rw [e4] at k1
    rw [e4'] at k2
    exact Xk.x_eqPkL (n := 1) (m := 1) (Xk.sq_of e2) (Xk.sq_of e2') k1 k2 q
theorem pk_prs {H : Hp} : ∀ {qs : List (Addr × (Addr × Nm) × (Addr × Nm))}, (∀ e ∈ qs, PrAt K H e) → Xk.PkAll K H 2 (qs.map fun e => V.ref e.1) (qs.map fun e => PyData.tuple [.tuple (e.2.1.2.map .int), .tuple (e.2.2.2.map .int)])
  | [], _ => Xk.pk_nil
  | e :: r, h => Xk.pk_cons (Xk.pk_tup2 (Xk.st_of (h e (List.mem_cons_self ..)).tp) (at_pk (h e (List.mem_cons_self ..)).a) (at_pk (h e (List.mem_cons_self ..)).b)) (pk_prs fun c hc => h c (List.mem_cons_of_mem _ hc))
theorem eq_given {H : Hp} {gl hl g1 g2 nl pl : Addr} {as : Rn} {qs : List (Addr × (Addr × Nm) × (Addr × Nm))} {Q : VK} (e1 : H gl = some (.lst [.ref g1, .ref g2])) (e2 : H hl = some (.lst [.ref nl, .ref pl])) (h1 : H g1 = some (.lst (rf as))) (h2 : H g2 = some (.lst (qs.map fun e => V.ref e.1)))
    (h3 : H nl = some (.lst (rf as))) (h4 : H pl = some (.lst (qs.map fun e => V.ref e.1))) (ha : ∀ b ∈ as, At K H b) (hq : ∀ e ∈ qs, PrAt K H e) (q : Q (.bl true) H) : rEqD K (.ref gl) (.ref hl) H Q := by
  have kA := pk_at ha
  have kB := pk_prs hq
  refine Xk.x_eqSame (Dp.lst (Xk.sq_of e1) (.cons (Dp.lst (Xk.sq_of h1) kA.1) (.cons (Dp.lst (Xk.sq_of h2) kB.1) .nil))) (Dp.lst (Xk.sq_of e2) (.cons (Dp.lst (Xk.sq_of h3) kA.1) (.cons (Dp.lst (Xk.sq_of h4) kB.1) .nil))) ?_ ?_ q
  · show (PyData.canLayAll0 _ && (PyData.canLayAll0 _ && true)) = true
    rw [kA.lay, kB.lay]
    rfl
  · have d1 := kA.2.2
    have d2 := kB.2.2
    show max (PyData.depthAll _ + 1) (max (PyData.depthAll _ + 1) 0) + 1 ≤ 64
    omega
theorem roll_ne {L m n : Int} (h1 : 0 ≤ m % L) (h2 : m % L < L) (h3 : 0 ≤ n % (L - 1)) (h4 : n % (L - 1) < L - 1) : (m % L + 1 + n % (L - 1)) % L ≠ m % L := by
  generalize m % L = u at *
  generalize n % (L - 1) = v at *
  rcases Int.lt_or_le (u + 1 + v) L with h | h
  · rw [Int.emod_eq_of_lt (by omega) h]
    omega
  · have e : (u + 1 + v) % L = u + 1 + v - L := by
      rw [← Int.emod_eq_of_lt (a := u + 1 + v - L) (b := L) (by omega) (by omega)]
      exact (Int.sub_emod_right ..).symm
    rw [e]
    omega
def sp_law (K : PySem.W.Frag) : Sp := fun vs H Q _ => ∃ (a : Addr) (ns : List Int), vs = [.ref a] ∧ SqL K H a (ns.map V.int) ∧ ns.length ≤ 63 ∧ ∀ H', Q (.bl true) H'
theorem ok_law (T : Txt K mg) : FnOk P w K mg base CX0 2 T.f_law T.d_law ["script"] (sp_law K) := by
  refine T.F_law.ok sc_law (fun vs H Q E h => ?_) (fun cdv A outer s H vs Q E hr h => ?_)
  · obtain ⟨a, ns, rfl, _⟩ := h
    rfl
  obtain ⟨a, ns, rfl, hS, hl, q⟩ := h
  refine ⟨_, (pss_cons (ps_set (i := 1) sc_law.nd rfl (Or.inl rfl) (pe_lst (pa_cons (pe_call (ok__law_number T) (hr.mono (by decide)) (by rfl) T.g__law_number T.F__law_number.kp T.b__law_number .nil pass0 (pa_cons (pv 0) (pa_cons (pe_int) pa_nil))) pa_nil)))
      (pss_cons (ps_set (i := 2) sc_law.nd rfl (Or.inl rfl) (pe_lst pa_nil))
      (pss_cons (ps_for PassesOwn.never rfl (pi_range1 (by rfl) T.m_range (pa_cons (pe_call (ok__law_take T) (hr.mono (by decide)) (by rfl) T.g__law_take T.F__law_take.kp T.b__law_take .nil pass0 (pa_cons (pv 1) (pa_cons (pe_int) pa_nil))) pa_nil)) (pg_name (i := 3) sc_law.nd rfl (Or.inl rfl)) (pss_cons (ps_set (i := 4) sc_law.nd rfl (Or.inl rfl) (pe_ix (Xk.k_ixL (K := K) (by rfl)) (pe_lst (pa_cons (pe_tup (pa_cons (pe_call (ok__law_take T) (hr.mono (by decide)) (by rfl) T.g__law_take T.F__law_take.kp T.b__law_take .nil pass0 (pa_cons (pv 1) (pa_cons (pe_int) pa_nil))) (pa_cons (pe_op op_add (pe_int) (pe_call (ok__law_take T) (hr.mono (by decide)) (by rfl) T.g__law_take T.F__law_take.kp T.b__law_take .nil pass0 (pa_cons (pv 1) (pa_cons (pe_int) pa_nil)))) pa_nil))) (pa_cons (pe_tup (pa_cons (pe_call (ok__law_take T) (hr.mono (by decide)) (by rfl) T.g__law_take T.F__law_take.kp T.b__law_take .nil pass0 (pa_cons (pv 1) (pa_cons (pe_int) pa_nil))) pa_nil)) (pa_cons (pe_tup (pa_cons (pe_int) (pa_cons (pe_int) (pa_cons (pe_call (ok__law_take T) (hr.mono (by decide)) (by rfl) T.g__law_take T.F__law_take.kp T.b__law_take .nil pass0 (pa_cons (pv 1) (pa_cons (pe_int) pa_nil))) pa_nil)))) pa_nil)))) (pe_call (ok__law_take T) (hr.mono (by decide)) (by rfl) T.g__law_take T.F__law_take.kp T.b__law_take .nil pass0 (pa_cons (pv 1) (pa_cons (pe_int) pa_nil))) (fun _ _ => rfl)))
      (pss_one (ps_if (pt_cmpR (Xk.k_ninD (K := K) (Xk.u65 hr) (by rfl)) (pv 4) (pv 2) (by rfl)) (pss_one (ps_expr (pe_bm PySem.F.plainAttrs_list PySem.F.slot_list_insert PySem.F.type_list_insert mt_insert (pv 2) (pa_cons (pe_call (ok__law_take T) (hr.mono (by decide)) (by rfl) T.g__law_take T.F__law_take.kp T.b__law_take .nil pass0 (pa_cons (pv 1) (pa_cons (pe_op op_add (pe_callB (Xk.k_len (K := K) (by rfl)) (by rfl) T.m_len PySem.boot_len (pa_cons (pv 2) pa_nil)) (pe_int)) pa_nil))) (pa_cons (pv 4) pa_nil))))) pss_nil))))
      (pss_cons (ps_set (i := 5) sc_law.nd rfl (Or.inl rfl) (pe_cmpR op_eq (pe_call (ok__law_take T) (hr.mono (by decide)) (by rfl) T.g__law_take T.F__law_take.kp T.b__law_take .nil pass0 (pa_cons (pv 1) (pa_cons (pe_int) pa_nil))) (pe_int) (nomark _)))
      (pss_cons (ps_set (i := 6) sc_law.nd rfl (Or.inl rfl) (pe_lst pa_nil))
      (pss_cons (ps_set (i := 1) sc_law.nd rfl (Or.inl rfl) (pe_lst (pa_cons (pe_call (ok__law_number T) (hr.mono (by decide)) (by rfl) T.g__law_number T.F__law_number.kp T.b__law_number .nil pass0 (pa_cons (pv 0) (pa_cons (pe_int) pa_nil))) pa_nil)))
      (pss_cons (ps_for PassesOwn.never rfl (pi_range1 (by rfl) T.m_range (pa_cons (pe_call (ok__law_take T) (hr.mono (by decide)) (by rfl) T.g__law_take T.F__law_take.kp T.b__law_take .nil pass0 (pa_cons (pv 1) (pa_cons (pe_int) pa_nil))) pa_nil)) (pg_name (i := 3) sc_law.nd rfl (Or.inl rfl)) (pss_one (ps_if (pt_cmpR op_gt (pe_callB (Xk.k_len (K := K) (by rfl)) (by rfl) T.m_len PySem.boot_len (pa_cons (pv 2) pa_nil)) (pe_int) (nomark _)) (pss_cons (ps_set (i := 7) sc_law.nd rfl (Or.inl rfl) (pe_call (ok__law_take T) (hr.mono (by decide)) (by rfl) T.g__law_take T.F__law_take.kp T.b__law_take .nil pass0 (pa_cons (pv 1) (pa_cons (pe_callB (Xk.k_len (K := K) (by rfl)) (by rfl) T.m_len PySem.boot_len (pa_cons (pv 2) pa_nil)) pa_nil))))
      (pss_cons (ps_set (i := 8) sc_law.nd rfl (Or.inl rfl) (pe_op op_mod (pe_callTy Xk.call_nInt (by rfl) T.m_int (by decide +kernel) (pa_cons (pe_op op_add (pe_op op_add (pv 7) (pe_int)) (pe_call (ok__law_take T) (hr.mono (by decide)) (by rfl) T.g__law_take T.F__law_take.kp T.b__law_take .nil pass0 (pa_cons (pv 1) (pa_cons (pe_op op_sub (pe_callB (Xk.k_len (K := K) (by rfl)) (by rfl) T.m_len PySem.boot_len (pa_cons (pv 2) pa_nil)) (pe_int)) pa_nil)))) pa_nil)) (pe_callB (Xk.k_len (K := K) (by rfl)) (by rfl) T.m_len PySem.boot_len (pa_cons (pv 2) pa_nil))))
      (Evl.pss_cut (ps_if (PW.pt (pw_and (pt_not (pt_val (pv 5))) (pw_and1 (pt_cmpR op_gt (pv 7) (pv 8) (nomark _))))) (pss_one (ps_par (i := 7) (j := 8) (by rfl) sc_law.nd rfl rfl (by decide) rfl rfl (pa_cons (pv 8) (pa_cons (pv 7) pa_nil)) (by rfl))) pss_nil)
      (pss_one (ps_expr (pe_bm PySem.F.plainAttrs_list PySem.F.slot_list_append PySem.F.type_list_append mt_append (pv 6) (pa_cons (pe_tup (pa_cons (pe_ix (Xk.k_ixL (K := K) (by rfl)) (pv 2) (pv 7) (fun _ _ => rfl)) (pa_cons (pe_ix (Xk.k_ixL (K := K) (by rfl)) (pv 2) (pv 8) (fun _ _ => rfl)) pa_nil))) pa_nil))))))) pss_nil)))
      (pss_cons (ps_set (i := 9) sc_law.nd rfl (Or.inl rfl) (pe_dnewT))
      (pss_cons (ps_for PassesOwn.never rfl (pi_list (pv 2)) (pg_name (i := 4) sc_law.nd rfl (Or.inl rfl)) (pss_one (ps_dput (hu_of hr) (pv 9) (pv 4) (pe_int) rfl)))
      (Evl.pss_cut (ps_if (pt_cmpR (Xk.k_neD (K := K) hr.units (by rfl)) (pe_call (ok_sorted_names T) (hr.mono (by decide)) (by rfl) T.g_sorted_names T.F_sorted_names.kp T.b_sorted_names .nil pass0 (pa_cons (pv 9) (pa_cons (pv 6) pa_nil))) (pe_call (ok__law_due T) (hr.mono (by decide)) (by rfl) T.g__law_due T.F__law_due.kp T.b__law_due .nil pass0 (pa_cons (pv 2) (pa_cons (pv 6) pa_nil))) (nomark _)) (pss_one (ps_ret (pe_bl))) pss_nil)
      (pss_cons (ps_set (i := 10) sc_law.nd rfl (Or.inl rfl) (pe_lst (pa_cons (pe_callTy (Xk.k_list (K := K) (by rfl)) (by rfl) T.m_list (by decide +kernel) (pa_cons (pv 2) pa_nil)) (pa_cons (pe_callTy (Xk.k_list (K := K) (by rfl)) (by rfl) T.m_list (by decide +kernel) (pa_cons (pv 6) pa_nil)) pa_nil))))
      (pss_cons (ps_set (i := 11) sc_law.nd rfl (Or.inl rfl) (pe_call (ok_sorted_names T) (hr.mono (by decide)) (by rfl) T.g_sorted_names T.F_sorted_names.kp T.b_sorted_names .nil pass0 (pa_cons (pe_ix (Xk.k_ixL (K := K) (by rfl)) (pv 10) (pe_int) (fun _ _ => rfl)) (pa_cons (pe_ix (Xk.k_ixL (K := K) (by rfl)) (pv 10) (pe_int) (fun _ _ => rfl)) pa_nil))))
      (pss_one (ps_ret ((pe_and (pe_cmpR (Xk.k_eqD (K := K) hr.units (by rfl)) (pv 10) (pe_lst (pa_cons (pv 2) (pa_cons (pv 6) pa_nil))) (nomark _)) (pe_and (pe_cmpR (Xk.k_eqD (K := K) hr.units (by rfl)) (pv 11) (pe_call (ok__law_due T) (hr.mono (by decide)) (by rfl) T.g__law_due T.F__law_due.kp T.b__law_due .nil pass0 (pa_cons (pv 2) (pa_cons (pv 6) pa_nil))) (nomark _)) (pe_one ((pe_or (pe_cmpR Xk.op_nIsN (pv 11) (pe_non) (nomark _)) (pe_one (pe_callB (Xk.k_isi (K := K) (by rfl)) (by rfl) T.m_isinstance (by decide +kernel) (pa_cons (pv 11) (pa_cons (pe_bltn (v := .ty "list") (u := .type "list") (by rfl) T.m_list (by decide +kernel) Xk.rel_ty) pa_nil)))))))))))))))))))))))), ?_⟩
  wtm_at "x0"
  wtm_at "xs"
  refine ⟨a, 0, ns, rfl, hS, hl, by decide, by decide, fun n1 hn1 => ?_⟩
  wtm_at "xs"
  intro bx H1 hbx s1 h1
  wtm_at "xs"
  intro nl H2 hnl s2 h2
  have h12 := s2 _ _ h1
  have s02 := s1.trans s2
  have hnlH : Xk.Fr nl H := ⟨Same.free s1 hnl.1⟩
  have nbl : bx ≠ nl := ne_of_none h1 hnl.1
  wtm_at "xs"
  refine ⟨bx, 10, n1, rfl, h12, by decide, by decide, fun g1 g2 => ?_⟩
  have s03 : Same H (upd H2 bx (.lst [.int (n1 / 10)])) := Xk.same_mut s02 hbx
  have h3 : upd H2 bx (.lst [.int (n1 / 10)]) bx = some (.lst [.int (n1 / 10)]) := upd_same
  have h3n : upd H2 bx (.lst [.int (n1 / 10)]) nl = some (.lst []) := by rw [upd_ne (Ne.symm nbl)]; exact h2
  generalize upd H2 bx (.lst [.int (n1 / 10)]) = H3 at *
  clear h12 s02 h1 h2 s1 s2 hnl
  wtm_at "xs"
  refine Xk.x_range (fun i σ' H' => ∃ (m : Int) (as : Rn) (y3 y4 : Option V), σ' = [some (V.ref a), some (V.ref bx), some (V.ref nl), y3, y4, none, none, none, none, none, none, none] ∧ Same H H' ∧ H' bx = some (.lst [.int m]) ∧ H' nl = some (.lst (rf as)) ∧ (∀ b ∈ as, At K H' b ∧ b.2 ≠ []) ∧ (nm as).Nodup ∧ as.length ≤ i) ⟨by omega, by omega⟩
    ⟨_, [], _, _, rfl, s03, h3, h3n, fun b hb => absurd hb (List.not_mem_nil), .nil, Nat.le_refl _⟩ ?_ ?_
  · clear h3 h3n s03
    rintro i σ' H4 hi ⟨m, as, y3, y4, rfl, s4, h4, h4n, hat, hnd, hal⟩
    have hn4 := Xk.sq_of (K := K) h4n
    wtm_at "xs"
    have N4 : Sn K H H4 bx nl as := ⟨s4, ⟨m, h4⟩, h4n, hat⟩
    refine ⟨bx, 4, m, rfl, h4, by decide, by decide, fun g1 g2 => ?_⟩
    have N5 := sn_take (m := m / 4) N4 hbx nbl
    generalize upd H4 bx (.lst [.int (m / 4)]) = H5 at *
    obtain ⟨m5, h5⟩ := N5.box
    wtm_at "xs"
    refine ⟨bx, 5, m5, rfl, h5, by decide, by decide, fun g3 g4 => ?_⟩
    have N6 := sn_take (m := m5 / 5) N5 hbx nbl
    generalize upd H5 bx (.lst [.int (m5 / 5)]) = H6 at *
    wtm_at "xs"
    intro t1 H7 ht1 s7 e7
    have N7 := sn_same N6 s7
    obtain ⟨m7, h7⟩ := N7.box
    wtm_at "xs"
    refine ⟨bx, 9, m7, rfl, h7, by decide, by decide, fun g5 g6 => ?_⟩
    have N8 := sn_take (m := m7 / 9) N7 hbx nbl
    have e8 : upd H7 bx (.lst [.int (m7 / 9)]) t1 = some (.tup [.int (m % 4), .int (1 + m5 % 5)]) := by rw [upd_ne (ne_of e7 h7 (by simp))]; exact e7
    generalize upd H7 bx (.lst [.int (m7 / 9)]) = H8 at *
    wtm_at "xs"
    intro t2 H9 ht2 s9 e9
    have N9 := sn_same N8 s9
    have e8b := s9 _ _ e8
    obtain ⟨m9, h9⟩ := N9.box
    wtm_at "xs"
    refine ⟨bx, 9, m9, rfl, h9, by decide, by decide, fun g7 g8 => ?_⟩
    have N10 := sn_take (m := m9 / 9) N9 hbx nbl
    have e10 : upd H9 bx (.lst [.int (m9 / 9)]) t1 = some (.tup [.int (m % 4), .int (1 + m5 % 5)]) := by rw [upd_ne (ne_of e8b h9 (by simp))]; exact e8b
    have e10b : upd H9 bx (.lst [.int (m9 / 9)]) t2 = some (.tup [.int (m7 % 9)]) := by rw [upd_ne (ne_of e9 h9 (by simp))]; exact e9
    generalize upd H9 bx (.lst [.int (m9 / 9)]) = H10 at *
    wtm_at "xs"
    intro t3 H11 ht3 s11 e11
    have N11 := sn_same N10 s11
    have e12 := s11 _ _ e10
    have e12b := s11 _ _ e10b
    wtm_at "xs"
    intro ll H12 hll s12 h12
    have N12 := sn_same N11 s12
    obtain ⟨m12, h12b⟩ := N12.box
    wtm_at "xs"
    refine ⟨bx, 3, m12, rfl, h12b, by decide, by decide, fun g9 g10 => ?_⟩
    have N13 := sn_take (m := m12 / 3) N12 hbx nbl
    have f1 : At K (upd H12 bx (.lst [.int (m12 / 3)])) (t1, [m % 4, 1 + m5 % 5]) := at_mut (b := (t1, [m % 4, 1 + m5 % 5])) (s12 _ _ e12) h12b
    have f2 : At K (upd H12 bx (.lst [.int (m12 / 3)])) (t2, [m7 % 9]) := at_mut (b := (t2, [m7 % 9])) (s12 _ _ e12b) h12b
    have f3 : At K (upd H12 bx (.lst [.int (m12 / 3)])) (t3, [1, 2, m9 % 9]) := at_mut (b := (t3, [1, 2, m9 % 9])) (s12 _ _ e11) h12b
    have nlb : ll ≠ bx := fun z => by
      have := hll.1
      obtain ⟨m11, h11⟩ := N11.box
      rw [z, h11] at this
      cases this
    have h13 : upd H12 bx (.lst [.int (m12 / 3)]) ll = some (.lst [.ref t1, .ref t2, .ref t3]) := by rw [upd_ne nlb]; exact h12
    generalize upd H12 bx (.lst [.int (m12 / 3)]) = H13 at *
    obtain ⟨b, hix, hb, hbn⟩ : ∃ b : Addr × Nm, atI [V.ref t1, V.ref t2, V.ref t3] (m12 % 3) = some (.ref b.1) ∧ At K H13 b ∧ b.2 ≠ [] := by
      have : m12 % 3 = 0 ∨ m12 % 3 = 1 ∨ m12 % 3 = 2 := by omega
      rcases this with e | e | e <;> rw [e]
      · exact ⟨_, rfl, f1, by simp⟩
      · exact ⟨_, rfl, f2, by simp⟩
      · exact ⟨_, rfl, f3, by simp⟩
    have h13n := N13.nl
    wtm_at "xs"
    refine nin_at hb h13n (fun c hc => (N13.at_ c hc).1) ⟨_, rfl, ?_⟩
    by_cases hin : b.2 ∈ nm as
    · rw [decide_eq_true hin]
      wtm_at "xs"
      obtain ⟨mz, hmz⟩ := N13.box
      exact ⟨mz, as, _, _, rfl, N13.same, hmz, h13n, N13.at_, hnd, by omega⟩
    · rw [decide_eq_false hin]
      obtain ⟨mz, hmz⟩ := N13.box
      have hsq13 := Xk.sq_of (K := K) h13n
      wtm_at "xs"
      refine ⟨bx, _, mz, rfl, hmz, by omega, by rw [List.length_map]; omega, fun g11 g12 => ?_⟩
      have N14 := sn_take (m := mz / ((rf as).length + 1)) N13 hbx nbl
      have hb14 := at_mut (o := .lst [.int (mz / ((rf as).length + 1))]) hb hmz
      generalize upd H13 bx (.lst [.int (mz / ((rf as).length + 1))]) = H14 at *
      have h14n := N14.nl
      obtain ⟨mb, hmb⟩ := N14.box
      wtm_at "xs"
      obtain ⟨k, hk⟩ := Int.eq_ofNat_of_zero_le g11
      have hperm : (as.take k ++ [b] ++ as.drop k).Perm (b :: as) := by
        rw [List.append_assoc]
        show (as.take k ++ b :: as.drop k).Perm (b :: as)
        refine List.perm_middle.trans ?_
        rw [List.take_append_drop]
      refine ⟨nl, rf as, _, _, rfl, rfl, h14n, Xk.size_lt (by rw [List.length_map]; omega), g11, by have h1 : ((rf as).length : Int) ≤ 20 := (by rw [List.length_map]; omega); omega, mb, as.take k ++ [b] ++ as.drop k, _, _, rfl, Xk.same_mut N14.same hnlH, by rw [upd_ne nbl]; exact hmb, ?_, fun c hc => ?_, ?_, ?_⟩
      · rw [upd_same, hk]
        simp [rf]
      · rcases List.mem_cons.mp (hperm.mem_iff.mp hc) with hc | hc
        · rw [hc]
          exact ⟨at_mut hb14 h14n, hbn⟩
        · exact ⟨at_mut (N14.at_ c hc).1 h14n, (N14.at_ c hc).2⟩
      · refine ((hperm.map (·.2)).nodup_iff).mpr ?_
        exact List.nodup_cons.mpr ⟨hin, hnd⟩
      · rw [hperm.length_eq]
        exact Nat.succ_le_succ hal
  rintro σ' H4 ⟨m, as, y3, y4, rfl, s4, h4, h4n, hat, hnd, hal⟩
  have hal2 : as.length ≤ 9 := by
    have : n1 % 10 < 10 := g2
    omega
  wtm_at "xs"
  refine ⟨bx, 3, m, rfl, h4, by decide, by decide, fun g3 g4 => ?_⟩
  have N5 := sn_take (m := m / 3) ⟨s4, ⟨m, h4⟩, h4n, hat⟩ hbx nbl
  generalize upd H4 bx (.lst [.int (m / 3)]) = H5 at *
  clear h4 h4n s4 hat
  wtm_at "xs"
  intro pl H6 hpl s6 h6
  have N6 := sn_same N5 s6
  have hplH : Xk.Fr pl H := ⟨Same.free N5.same hpl.1⟩
  have hS6 := Xk.sq_same hS N6.same
  wtm_at "xs"
  refine ⟨a, 1, ns, rfl, hS6, hl, by decide, by decide, fun n2 hn2 => ?_⟩
  wtm_at "xs"
  intro b2 H7 hb2 s7 h7
  have N7 := sn_same N6 s7
  have h7p := s7 _ _ h6
  have npb : b2 ≠ pl := fun z => by
    have := hb2.1
    rw [z, h6] at this
    cases this
  have nnb : b2 ≠ nl := fun z => by
    have := hb2.1
    rw [z, N6.nl] at this
    cases this
  have npn : pl ≠ nl := fun z => by
    have := hpl.1
    rw [z, N5.nl] at this
    cases this
  have hb2H : Xk.Fr b2 H := ⟨Same.free N6.same hb2.1⟩
  wtm_at "xs"
  refine ⟨b2, 15, n2, rfl, h7, by decide, by decide, fun g5 g6 => ?_⟩
  have N8 : Sn K H (upd H7 b2 (.lst [.int (n2 / 15)])) b2 nl as := ⟨Xk.same_mut N7.same hb2H, ⟨_, upd_same⟩, by rw [upd_ne (Ne.symm nnb)]; exact N7.nl, fun b hb => ⟨at_mut (N7.at_ b hb).1 h7, (N7.at_ b hb).2⟩⟩
  have h8p : upd H7 b2 (.lst [.int (n2 / 15)]) pl = some (.lst []) := by rw [upd_ne (Ne.symm npb)]; exact h7p
  generalize upd H7 b2 (.lst [.int (n2 / 15)]) = H8 at *
  clear h7 h7p N7 s7 h6 N6 s6 N5 hb2 hpl hS6
  wtm_at "xs"
  refine Xk.x_range (fun i σ' H' => ∃ (qs : List (Addr × (Addr × Nm) × (Addr × Nm))) (y3 y7 y8 : Option V), σ' = [some (V.ref a), some (V.ref b2), some (V.ref nl), y3, y4, some (V.bl (decide (V.int (m % 3) = V.int 0))), some (V.ref pl), y7, y8, none, none, none] ∧ Sn K H H' b2 nl as ∧ H' pl = some (.lst (qs.map fun e => V.ref e.1)) ∧ (∀ e ∈ qs, PrAt K H' e ∧ e.2.1 ∈ as ∧ e.2.2 ∈ as ∧ e.2.1.2 ≠ e.2.2.2) ∧ qs.length ≤ i) ⟨by omega, by omega⟩
    ⟨[], _, _, _, rfl, N8, h8p, fun e he => absurd he (List.not_mem_nil), Nat.le_refl _⟩ ?_ ?_
  · clear h8p N8
    rintro i σ' H9 hi ⟨qs, y3, y7, y8, rfl, N9, h9p, hqs, hql⟩
    have hsq9 := Xk.sq_of (K := K) N9.nl
    obtain ⟨m9, h9⟩ := N9.box
    wtm_at "xs"
    refine Xk.x_itd (fun h => ?_) (fun h => ?_)
    · rw [List.length_map] at h
      wtm_at "xs"
      refine ⟨b2, _, m9, rfl, h9, by rw [List.length_map]; omega, by rw [List.length_map]; omega, fun g7 g8 => ?_⟩
      have hrl : ((rf as).length : Int) = as.length := by rw [List.length_map]
      have N10 := sn_take (m := m9 / (rf as).length) N9 hb2H nnb
      have h10p : upd H9 b2 (.lst [.int (m9 / (rf as).length)]) pl = some (.lst (qs.map fun e => V.ref e.1)) := by rw [upd_ne (Ne.symm npb)]; exact h9p
      have hq10 : ∀ e ∈ qs, PrAt K (upd H9 b2 (.lst [.int (m9 / (rf as).length)])) e := fun e he => ⟨by rw [upd_ne (ne_of (hqs e he).1.tp h9 (by simp))]; exact (hqs e he).1.tp, at_mut (hqs e he).1.a h9, at_mut (hqs e he).1.b h9⟩
      generalize upd H9 b2 (.lst [.int (m9 / (rf as).length)]) = H10 at *
      obtain ⟨m10, h10⟩ := N10.box
      have hsq10 := Xk.sq_of (K := K) N10.nl
      wtm_at "xs"
      refine ⟨b2, _, m10, rfl, h10, by omega, by omega, fun g9 g10 => ?_⟩
      have N11 := sn_take (m := m10 / ((rf as).length - 1)) N10 hb2H nnb
      have h11p : upd H10 b2 (.lst [.int (m10 / ((rf as).length - 1))]) pl = some (.lst (qs.map fun e => V.ref e.1)) := by rw [upd_ne (Ne.symm npb)]; exact h10p
      have hq11 : ∀ e ∈ qs, PrAt K (upd H10 b2 (.lst [.int (m10 / ((rf as).length - 1))])) e := fun e he => ⟨by rw [upd_ne (ne_of (hq10 e he).tp h10 (by simp))]; exact (hq10 e he).tp, at_mut (hq10 e he).a h10, at_mut (hq10 e he).b h10⟩
      generalize upd H10 b2 (.lst [.int (m10 / ((rf as).length - 1))]) = H11 at *
      have hsq11 := Xk.sq_of (K := K) N11.nl
      wtm_at "xs"
      have hL : (0 : Int) < (rf as).length := by omega
      have w0 := Int.emod_nonneg (m9 % (rf as).length + 1 + m10 % ((rf as).length - 1)) (by omega : ((rf as).length : Int) ≠ 0)
      have w1 := Int.emod_lt_of_pos (m9 % (rf as).length + 1 + m10 % ((rf as).length - 1)) hL
      have wne : (m9 % (rf as).length + 1 + m10 % ((rf as).length - 1)) % (rf as).length ≠ m9 % (rf as).length := roll_ne g7 g8 g9 g10
      refine Xk.x_cut (fun σ' H' => H' = H11 ∧ ∃ x z : Nat, x < as.length ∧ z < as.length ∧ x ≠ z ∧ σ' = [some (V.ref a), some (V.ref b2), some (V.ref nl), some (V.int (i : Int)), y4, some (V.bl (decide (V.int (m % 3) = V.int 0))), some (V.ref pl), some (V.int (x : Int)), some (V.int (z : Int)), none, none, none]) ?_ ?_
      · generalize (m9 % (rf as).length + 1 + m10 % ((rf as).length - 1)) % (rf as).length = w at *
        generalize m9 % (rf as).length = u at *
        obtain ⟨x0, rfl⟩ := Int.eq_ofNat_of_zero_le g7
        obtain ⟨z0, rfl⟩ := Int.eq_ofNat_of_zero_le w0
        have stay : ∃ x z : Nat, x < as.length ∧ z < as.length ∧ x ≠ z ∧ [some (V.ref a), some (V.ref b2), some (V.ref nl), some (V.int (i : Int)), y4, some (V.bl (decide (V.int (m % 3) = V.int 0))), some (V.ref pl), some (V.int (x0 : Int)), some (V.int (z0 : Int)), none, none, none] = [some (V.ref a), some (V.ref b2), some (V.ref nl), some (V.int (i : Int)), y4, some (V.bl (decide (V.int (m % 3) = V.int 0))), some (V.ref pl), some (V.int (x : Int)), some (V.int (z : Int)), none, none, none] := ⟨x0, z0, by omega, by omega, fun e => wne (by rw [e]), rfl⟩
        wtm_at "xs"
        generalize decide (V.int (m % 3) = V.int 0) = bent at *
        cases bent with
        | true =>
          wtm_at "xs"
          exact ⟨rfl, stay⟩
        | false =>
          wtm_at "xs"
          refine Xk.x_itd (fun h => ?_) (fun h => ?_)
          · wtm_at "xs"
            exact ⟨rfl, z0, x0, by omega, by omega, fun e => wne (by rw [e]), rfl⟩
          · wtm_at "xs"
            exact ⟨rfl, stay⟩
      rintro σ' H' ⟨rfl, x, z, hx, hz, hxz, rfl⟩
      obtain ⟨bx1, hbx1⟩ := Xk.lt_at hx
      obtain ⟨bz1, hbz1⟩ := Xk.lt_at hz
      have ix : atI (rf as) (x : Int) = some (.ref bx1.1) := atI_nat (j := x) (by rw [List.getElem?_map, hbx1]; rfl)
      have iz : atI (rf as) (z : Int) = some (.ref bz1.1) := atI_nat (j := z) (by rw [List.getElem?_map, hbz1]; rfl)
      have hql2 : qs.length < 100000 := by omega
      wtm_at "xs"
      intro tp G htp sG eG
      have NG := sn_same N11 sG
      have hG := sG _ _ h11p
      wtm_at "xs"
      have hxm := List.mem_of_getElem? hbx1
      have hzm := List.mem_of_getElem? hbz1
      refine ⟨qs ++ [(tp, bx1, bz1)], _, _, _, rfl, ⟨Xk.same_mut NG.same hplH, NG.box.elim fun k e => ⟨k, by rw [upd_ne npb]; exact e⟩, by rw [upd_ne (Ne.symm npn)]; exact NG.nl, fun b hb => ⟨at_mut (NG.at_ b hb).1 hG, (NG.at_ b hb).2⟩⟩, by rw [upd_same]; simp, fun e he => ?_, by rw [List.length_append]; exact Nat.succ_le_succ hql⟩
      rcases List.mem_append.mp he with he | he
      · have hq := hq11 e he
        exact ⟨⟨by rw [upd_ne (ne_of (sG _ _ hq.tp) hG (by simp))]; exact sG _ _ hq.tp, at_mut (hq.a.same sG) hG, at_mut (hq.b.same sG) hG⟩, (hqs e he).2⟩
      · rw [List.mem_singleton.mp he]
        refine ⟨⟨by rw [upd_ne (ne_of eG hG (by simp))]; exact eG, at_mut (NG.at_ _ hxm).1 hG, at_mut (NG.at_ _ hzm).1 hG⟩, hxm, hzm, fun e => hxz ?_⟩
        have e1 : (nm as)[x]? = some bx1.2 := by rw [List.getElem?_map, hbx1]; rfl
        have e2 : (nm as)[z]? = some bz1.2 := by rw [List.getElem?_map, hbz1]; rfl
        have e : bx1.2 = bz1.2 := e
        rw [← e] at e2
        exact (List.getElem?_inj (by rw [List.length_map]; exact hx) hnd).mp (e1.trans e2.symm)
    · wtm_at "xs"
      exact ⟨qs, _, _, _, rfl, N9, h9p, hqs, by omega⟩
  rintro σ' H9 ⟨qs, y3, y7, y8, rfl, N9, h9p, hqs, hql⟩
  have hok : Ok (nm as) (prs qs) (nm (as.mergeSort lePair)) := by
    refine ⟨hnd, fun p hp => ?_, (List.mergeSort_perm as lePair).map _, ?_⟩
    · obtain ⟨e, he, rfl⟩ := List.mem_map.mp hp
      have h1 := (hqs e he).2
      exact ⟨List.mem_map_of_mem h1.1, List.mem_map_of_mem h1.2.1, h1.2.2⟩
    · unfold nm
      rw [List.pairwise_map]
      refine (List.pairwise_mergeSort (le := lePair) (fun a b c => leN_trans a.2 b.2 c.2) (fun a b => leN_total a.2 b.2) as).imp fun {a b} hh => ?_
      exact of_decide_eq_false (by simpa [lePair] using hh)
  have hql3 : qs.length ≤ 50 := by omega
  wtm_at "xs"
  intro kd H10 hkd s10 h10
  have N10 := sn_same N9 s10
  have hkdH : Xk.Fr kd H := ⟨Same.free N9.same hkd.1⟩
  have hn10 := Xk.sq_of (K := K) N10.nl
  have h10p := s10 _ _ h9p
  have hq10 : ∀ e ∈ qs, PrAt K H10 e := fun e he => ⟨s10 _ _ (hqs e he).1.tp, (hqs e he).1.a.same s10, (hqs e he).1.b.same s10⟩
  wtm_at "xs"
  refine Xk.x_forL (xs := rf as) (fun i σ' H' => ∃ (y4 : Option V), σ' = [some (V.ref a), some (V.ref b2), some (V.ref nl), y3, y4, some (V.bl (decide (V.int (m % 3) = V.int 0))), some (V.ref pl), y7, y8, some (V.ref kd), none, none] ∧ Same H9 H' ∧ H' kd = some (.dT (mk ((nm as).take i) fun _ => V.int 1))) hn10 ⟨_, rfl, s10, h10⟩ (fun i σ' H' _ ⟨_, _, s, _⟩ => Xk.sq_of (s _ _ N9.nl)) ?_ ?_
  · rintro i v σ' H11 hi ⟨y4, rfl, s11, h11⟩
    obtain ⟨b, hb, rfl⟩ := rf_at hi
    have hb11 := (N9.at_ b (List.mem_of_getElem? hb)).1.same s11
    have hx : (nm as)[i]? = some b.2 := by rw [List.getElem?_map, hb]; rfl
    have et : (nm as).take (i + 1) = (nm as).take i ++ [b.2] := by
      rw [List.take_add_one, hx]
      rfl
    have hno := take_no2 hnd hx
    wtm_at "xs"
    refine ⟨kd, _, rfl, DPut.t (k := kk b.2) h11 (by rw [kk_V]; exact hb11) (Xk.size_lt (mk_len (by rw [List.length_take, List.length_map]; omega))), ?_⟩
    refine ⟨_, rfl, Xk.same_mut s11 hkd, ?_⟩
    rw [upd_same, et, mk_new hno rfl]
  rintro σ' H11 ⟨y4, rfl, s11, h11⟩
  rw [List.length_map, ← List.length_map (f := (·.2)) (as := as), List.take_length] at h11
  have N11 := sn_same N9 s11
  have h11p := s11 _ _ h9p
  have hq11 : ∀ e ∈ qs, PrAt K H11 e := fun e he => ⟨s11 _ _ (hqs e he).1.tp, (hqs e he).1.a.same s11, (hqs e he).1.b.same s11⟩
  wtm_at "xs"
  refine Xk.x_cut (fun σ' H' => Same H11 H' ∧ σ' = [some (V.ref a), some (V.ref b2), some (V.ref nl), y3, y4, some (V.bl (decide (V.int (m % 3) = V.int 0))), some (V.ref pl), y7, y8, some (V.ref kd), none, none]) ?_ ?_
  · wtm_at "xs"
    refine ⟨kd, pl, as, qs, _, rfl, .inr h11, h11p, hq11, by omega, hql3, hok, fun H12 v s12 ov => ?_⟩
    wtm_at "xs"
    refine ⟨nl, pl, as, qs, _, rfl, s12 _ _ N11.nl, fun b hb => (N11.at_ b hb).1.same s12, s12 _ _ h11p, fun e he => ⟨s12 _ _ (hq11 e he).tp, (hq11 e he).a.same s12, (hq11 e he).b.same s12⟩, fun b hb => (N11.at_ b hb).2, by omega, hql3, hok, fun H13 v2 s13 ow => ?_⟩
    refine ne_opt (opt_same ov s13) ow ⟨_, rfl, ?_⟩
    wtm_at "xs"
    exact ⟨s12.trans s13, rfl⟩
  rintro σ' H12 ⟨s12, rfl⟩
  have n12 := s12 _ _ N11.nl
  have p12 := s12 _ _ h11p
  have hn12 := Xk.sq_of (K := K) n12
  have hp12 := Xk.sq_of (K := K) p12
  wtm_at "xs"
  intro g1a H13 hg1 s13 e13
  have hp13 := Xk.sq_of (K := K) (s13 _ _ p12)
  wtm_at "xs"
  intro g2a H14 hg2 s14 e14
  wtm_at "xs"
  intro gl H15 hgl s15 e15
  have s1215 := (s13.trans s14).trans s15
  have e13' := s15 _ _ (s14 _ _ e13)
  have e14' := s15 _ _ e14
  have at15 : ∀ b ∈ as, At K H15 b := fun b hb => (N11.at_ b hb).1.same (s12.trans s1215)
  have q15 : ∀ e ∈ qs, PrAt K H15 e := fun e he => ⟨s1215 _ _ (s12 _ _ (hq11 e he).tp), (hq11 e he).a.same (s12.trans s1215), (hq11 e he).b.same (s12.trans s1215)⟩
  have ig0 : atI [V.ref g1a, V.ref g2a] 0 = some (.ref g1a) := rfl
  have ig1 : atI [V.ref g1a, V.ref g2a] 1 = some (.ref g2a) := rfl
  wtm_at "xs"
  refine ⟨g1a, g2a, as, qs, _, rfl, .inl ⟨e13', at15⟩, e14', q15, by omega, hql3, hok, fun H16 v s16 ov => ?_⟩
  have n16 := s16 _ _ (s1215 _ _ n12)
  have p16 := s16 _ _ (s1215 _ _ p12)
  have s15b := s16 _ _ e15
  wtm_at "xs"
  intro hl2 H17 hhl s17 e17
  have at17 : ∀ b ∈ as, At K H17 b := fun b hb => (at15 b hb).same (s16.trans s17)
  have q17 : ∀ e ∈ qs, PrAt K H17 e := fun e he => ⟨(s16.trans s17) _ _ (q15 e he).tp, (q15 e he).a.same (s16.trans s17), (q15 e he).b.same (s16.trans s17)⟩
  have n17 := s17 _ _ n16
  have p17 := s17 _ _ p16
  refine eq_given (s17 _ _ s15b) e17 (s17 _ _ (s16 _ _ e13')) (s17 _ _ (s16 _ _ e14')) n17 p17 at17 q17 ⟨_, rfl, ?_⟩
  rw [if_pos rfl]
  wtm_at "xs"
  refine ⟨nl, pl, as, qs, _, rfl, n17, at17, p17, q17, fun b hb => (N11.at_ b hb).2, by omega, hql3, hok, fun H18 v2 s18 ow => ?_⟩
  have ov2 := opt_same ov (s17.trans s18)
  refine eq_opt ov2 ow ⟨_, rfl, ?_⟩
  rw [if_pos rfl]
  clear ov
  cases ho : dueGo (prs qs) as.length (nm (as.mergeSort lePair)) with
  | none =>
    rw [ho] at ov2
    have ov2 : v = .non := ov2
    subst ov2
    wtm_at "xs"
    exact q _
  | some o =>
    rw [ho] at ov2
    obtain ⟨pt, at2, rfl, ept, _, _⟩ := ov2
    have hpt := Xk.sq_of (K := K) ept
    wtm_at "xs"
    exact q _
end
theorem all_mk {l : PySem.W.OpenLaw} {w : World} {K : PySem.W.Frag} {h : Heap} {mg : Str → Option Value} {fa f_sorted_names f__law_number f__law_take f__law_due f_law : Addr} (X : K.In h) (G : h.Ns mainGlobals mg) (hfa : mg "law" = some (.ref fa))
    {od_sorted_names an_sorted_names od__law_number an__law_number od__law_take an__law_take od__law_due an__law_due od_law an_law : Option Addr} {sl_sorted_names sl__law_number sl__law_take sl__law_due sl_law : Array (Option Value)} {oc_sorted_names kV_sorted_names dc_sorted_names pm_sorted_names cd_sorted_names ct_sorted_names oc__law_number kV__law_number dc__law_number pm__law_number cd__law_number ct__law_number oc__law_take kV__law_take dc__law_take pm__law_take cd__law_take ct__law_take oc__law_due kV__law_due dc__law_due pm__law_due cd__law_due ct__law_due oc_law kV_law dc_law pm_law cd_law ct_law : Value}
    (a_sorted_names : PySem.W.nsIn K mainGlobals "sorted_names" = some (some (.ref f_sorted_names)))
    (l_sorted_names : K.lookup f_sorted_names = some ⟨oc_sorted_names, od_sorted_names, .func (PySem.W.fnOf "sorted_names" "sorted_names" (defArgs s_sorted_names) (defBody s_sorted_names) (defScope s_sorted_names) .none kV_sorted_names dc_sorted_names pm_sorted_names an_sorted_names cd_sorted_names ct_sorted_names), sl_sorted_names⟩)
    (c_sorted_names : PySem.W.codeIn K cd_sorted_names "sorted_names" = true)
    (k_sorted_names : PySem.W.keepIn K (.ref f_sorted_names) = true)
    (a__law_number : PySem.W.nsIn K mainGlobals "_law_number" = some (some (.ref f__law_number)))
    (l__law_number : K.lookup f__law_number = some ⟨oc__law_number, od__law_number, .func (PySem.W.fnOf "_law_number" "_law_number" (defArgs s__law_number) (defBody s__law_number) (defScope s__law_number) .none kV__law_number dc__law_number pm__law_number an__law_number cd__law_number ct__law_number), sl__law_number⟩)
    (c__law_number : PySem.W.codeIn K cd__law_number "_law_number" = true)
    (k__law_number : PySem.W.keepIn K (.ref f__law_number) = true)
    (a__law_take : PySem.W.nsIn K mainGlobals "_law_take" = some (some (.ref f__law_take)))
    (l__law_take : K.lookup f__law_take = some ⟨oc__law_take, od__law_take, .func (PySem.W.fnOf "_law_take" "_law_take" (defArgs s__law_take) (defBody s__law_take) (defScope s__law_take) .none kV__law_take dc__law_take pm__law_take an__law_take cd__law_take ct__law_take), sl__law_take⟩)
    (c__law_take : PySem.W.codeIn K cd__law_take "_law_take" = true)
    (k__law_take : PySem.W.keepIn K (.ref f__law_take) = true)
    (a__law_due : PySem.W.nsIn K mainGlobals "_law_due" = some (some (.ref f__law_due)))
    (l__law_due : K.lookup f__law_due = some ⟨oc__law_due, od__law_due, .func (PySem.W.fnOf "_law_due" "_law_due" (defArgs s__law_due) (defBody s__law_due) (defScope s__law_due) .none kV__law_due dc__law_due pm__law_due an__law_due cd__law_due ct__law_due), sl__law_due⟩)
    (c__law_due : PySem.W.codeIn K cd__law_due "_law_due" = true)
    (k__law_due : PySem.W.keepIn K (.ref f__law_due) = true)
    (a_law : PySem.W.nsIn K mainGlobals "law" = some (some (.ref f_law)))
    (l_law : K.lookup f_law = some ⟨oc_law, od_law, .func (PySem.W.fnOf "law" "law" (defArgs s_law) (defBody s_law) (defScope s_law) .none kV_law dc_law pm_law an_law cd_law ct_law), sl_law⟩)
    (c_law : PySem.W.codeIn K cd_law "law" = true)
    (k_law : PySem.W.keepIn K (.ref f_law) = true)
    (z_int : PySem.W.nsIn K mainGlobals "int" = some none)
    (z_isinstance : PySem.W.nsIn K mainGlobals "isinstance" = some none)
    (z_len : PySem.W.nsIn K mainGlobals "len" = some none)
    (z_list : PySem.W.nsIn K mainGlobals "list" = some none)
    (z_range : PySem.W.nsIn K mainGlobals "range" = some none)
    (z_sorted : PySem.W.nsIn K mainGlobals "sorted" = some none)
    (zi_heapify : PySem.W.nsIn K mainGlobals "heapify" = some (some (.builtin "_heapq.heapify")))
    (zi_heappop : PySem.W.nsIn K mainGlobals "heappop" = some (some (.builtin "_heapq.heappop")))
    (zi_heappush : PySem.W.nsIn K mainGlobals "heappush" = some (some (.builtin "_heapq.heappush")))
    : ∃ fd : FuncData, (∀ (s : Shared) (v : Value), BindsTo s fd ⟨[v], []⟩ [("script", v)]) ∧ ∀ base : Heap, K.In base → base.Ns mainGlobals mg → FnOk l.prog w K mg base CX0 2 fa fd ["script"] (sp_law K) := by
  have e := hfa.symm.trans (PySem.W.mg_of X G a_law)
  cases e
  have F_sorted_names := fun_mk (st := s_sorted_names) l_sorted_names c_sorted_names k_sorted_names
  have b_sorted_names := F_sorted_names.binds (ps := ["names", "pairs"]) fun _ _ _ _ _ _ us hl => match us, hl with | [_, _], _ => rfl
  have F__law_number := fun_mk (st := s__law_number) l__law_number c__law_number k__law_number
  have b__law_number := F__law_number.binds (ps := ["script", "k"]) fun _ _ _ _ _ _ us hl => match us, hl with | [_, _], _ => rfl
  have F__law_take := fun_mk (st := s__law_take) l__law_take c__law_take k__law_take
  have b__law_take := F__law_take.binds (ps := ["box", "size"]) fun _ _ _ _ _ _ us hl => match us, hl with | [_, _], _ => rfl
  have F__law_due := fun_mk (st := s__law_due) l__law_due c__law_due k__law_due
  have b__law_due := F__law_due.binds (ps := ["names", "pairs"]) fun _ _ _ _ _ _ us hl => match us, hl with | [_, _], _ => rfl
  have F_law := fun_mk (st := s_law) l_law c_law k_law
  have b_law := F_law.binds (ps := ["script"]) fun _ _ _ _ _ _ us hl => match us, hl with | [_], _ => rfl
  let T : Txt K mg := ⟨f_sorted_names, _, F_sorted_names, b_sorted_names, PySem.W.mg_of X G a_sorted_names, f__law_number, _, F__law_number, b__law_number, PySem.W.mg_of X G a__law_number, f__law_take, _, F__law_take, b__law_take, PySem.W.mg_of X G a__law_take, f__law_due, _, F__law_due, b__law_due, PySem.W.mg_of X G a__law_due, fa, _, F_law, b_law, PySem.W.mg_of X G a_law, PySem.W.mg_none_of X G z_int, PySem.W.mg_none_of X G z_isinstance, PySem.W.mg_none_of X G z_len, PySem.W.mg_none_of X G z_list, PySem.W.mg_none_of X G z_range, PySem.W.mg_none_of X G z_sorted, PySem.W.mg_of X G zi_heapify, PySem.W.mg_of X G zi_heappop, PySem.W.mg_of X G zi_heappush⟩
  exact ⟨PySem.W.fnOf "law" "law" (defArgs s_law) (defBody s_law) (defScope s_law) .none kV_law dc_law pm_law an_law cd_law ct_law, fun s v => .of_eq rfl, fun base _ _ => ok_law T⟩
end K84
open PySem PySem.W PyProof.Rows
set_option maxRecDepth 100000 in
set_option maxHeartbeats 0 in
theorem PySem.Challenge.cw_crosskeep_k84_names_are_sorted_holds : PySem.Challenge.rw_crosskeep_k84_names_are_sorted.Holds := by
  w_on; o_law; k_head; (case hw => w_witness2)
  k_fill
  refine L2.walk_of (l := PySem.Challenge.rw_crosskeep_k84_names_are_sorted) (n := 63) (k := 2) (x := "script") (CX := fun _ => L2.CX0) (sp := fun w => K84.sp_law _) rfl (by decide) rfl ⟨rfl, by decide, by decide⟩ (fun w h Y => PySem.W.kIn_of Y) ?F (fun _ _ a ns hl _ hS => ⟨a, ns, rfl, hS, hl, fun _ => rfl⟩) (fun _ _ _ _ _ h => h)
  case F =>
    intro w mg fa h KX G hmg
    refine' K84.all_mk KX G hmg ?a_sorted_names ?l_sorted_names ?c_sorted_names ?k_sorted_names ?a__law_number ?l__law_number ?c__law_number ?k__law_number ?a__law_take ?l__law_take ?c__law_take ?k__law_take ?a__law_due ?l__law_due ?c__law_due ?k__law_due ?a_law ?l_law ?c_law ?k_law ?z_int ?z_isinstance ?z_len ?z_list ?z_range ?z_sorted ?zi_heapify ?zi_heappop ?zi_heappush
    (case a_sorted_names => k_is)
    (case l_sorted_names => k_is)
    (case c_sorted_names => k_is)
    (case k_sorted_names => k_is)
    (case a__law_number => k_is)
    (case l__law_number => k_is)
    (case c__law_number => k_is)
    (case k__law_number => k_is)
    (case a__law_take => k_is)
    (case l__law_take => k_is)
    (case c__law_take => k_is)
    (case k__law_take => k_is)
    (case a__law_due => k_is)
    (case l__law_due => k_is)
    (case c__law_due => k_is)
    (case k__law_due => k_is)
    (case a_law => k_is)
    (case l_law => k_is)
    (case c_law => k_is)
    (case k_law => k_is)
    (case z_int => k_is)
    (case z_isinstance => k_is)
    (case z_len => k_is)
    (case z_list => k_is)
    (case z_range => k_is)
    (case z_sorted => k_is)
    (case zi_heapify => k_is)
    (case zi_heappop => k_is)
    (case zi_heappush => k_is)
#print axioms PySem.Challenge.cw_crosskeep_k84_names_are_sorted_holds

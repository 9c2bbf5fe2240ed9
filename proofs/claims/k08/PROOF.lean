import PyProof.Rows.All
import Wide.All
import OpenK.AllK
import Wide.FinOn
import HandS.ForMost
import HandS.TryOnly
import HandS.IsInst
import HandS.Evl
import HandS.Wide
import HandS.TupAny
import HandS.SortInts
import HandS.Style
import HandS.Strs
import HandS.SetFor
import HandS.Conv
import HandS.More
import HandS.Walk
import HandS.WideBits
import HandS.Property
import HandS.TupLe
import HandS.Defaults
import HandS.Deep
import HandS.RevRange
import PyProof.StrOps2
import HandS.TupMul
import HandS.DictComp
import KE.GoesMore
import KE.SortKeyHeap
import KE.DataCmp
import HandS.SetKeys
import PyProof.DictMoreH
import KE.DataMinMax
import HandS.TupLen
import HandS.HotCalls
import HandS.ExcIs
import HandS.WordsExc
import KE.KExcLine
import KE.KExcIs
import HandS.ExcField
import PyProof.LongRange
import PySem.Challenge.RW_crosskeep_k08_malformed_octets
set_option Elab.async false
set_option linter.all false
set_option maxRecDepth 100000
set_option maxHeartbeats 4000000

/-! ## readings, one step at a time (a layer of our own over the hand layer) -/
namespace Xk
open PySem PySem.Spec PyProof.Rows L2

section
variable {K : PySem.W.Frag} {σ : L2.St} {H H0 H1 H2 : Hp} {Q : VK} {ta tb tc te : TE} {t u : TT} {D : Ends} {tz tu tw : TS} {g : TG} {x y z v : V} {i j : Int} {b : Bool}

/-! ### values -/
theorem rel_ref {a : Addr} : RelV (.ref a) (.ref a) := rfl
theorem rel_ty {T : String} : RelV (.ty T) (.type T) := rfl
theorem rel_int {tk : Tok} : RelV (.int i) (.int i tk) := ⟨tk, rfl⟩
theorem rel_str {s : Str} {tk : Tok} : RelV (.str s) (.str s tk) := ⟨tk, rfl⟩

/-! ### heaps -/
/-- nothing stands at p -/
structure Fr (p : Addr) (H : Hp) : Prop where
  is : H p = none
theorem same_fr {p : Addr} {o : HO} (h : Fr p H) : Same H (upd H p o) := fun c x e => by
  rw [upd_ne (ne_of_none e h.is)]
  exact e
theorem same_new {p : Addr} {o : HO} (h : H p = none) : Same H (upd H p o) := fun c x e => by
  rw [upd_ne (ne_of_none e h)]
  exact e
theorem same_mut {p : Addr} {o : HO} (e : Same H H1) (h : Fr p H) : Same H (upd H1 p o) := fun c x ha => by
  rw [upd_ne (ne_of_none ha h.is)]
  exact e c x ha
theorem same_at {a : Addr} {o : HO} (e : Same H H1) (h : H a = some o) : H1 a = some o := e a o h
theorem free_back {p : Addr} (h : Fr p H1) (e : Same H H1) : Fr p H := ⟨Same.free e h.is⟩
theorem ne_new {a p : Addr} {o : HO} (h' : Fr p H) (h : H a = some o) : a ≠ p := ne_of_none h h'.is
theorem sq_of {a : Addr} {xs : List V} (h : H a = some (.lst xs)) : SqL K H a xs := Or.inl (Or.inl h)
theorem st_of {a : Addr} {xs : List V} (h : H a = some (.tup xs)) : SqT K H a xs := Or.inl (Or.inl h)
theorem sq_same {a : Addr} {xs : List V} (h : SqL K H a xs) (e : Same H H1) : SqL K H1 a xs := e.seq h
theorem st_same {a : Addr} {xs : List V} (h : SqT K H a xs) (e : Same H H1) : SqT K H1 a xs := by
  rcases h with (h | ⟨o, h⟩) | h
  · exact .inl (.inl (e _ _ h))
  · exact .inl (.inr ⟨o, e _ _ h⟩)
  · exact .inr h
theorem size_ok {n : Nat} (h : n ≤ 100000) : n ≤ sizeLine := Nat.le_trans h (by decide)
theorem size_lt {n : Nat} (h : n < 100000) : n < sizeLine := Nat.lt_of_lt_of_le h (by decide)

/-- all that was tracked but at p is as it was -/
def But (p : Addr) (H H' : Hp) : Prop := ∀ b o, b ≠ p → H b = some o → H' b = some o
theorem But.refl (p : Addr) (H : Hp) : But p H H := fun _ _ _ h => h
theorem but_same {p : Addr} (e : Same H H1) : But p H H1 := fun b o _ h => e b o h
theorem but_trans {p : Addr} (e : But p H H1) (e' : But p H1 H2) : But p H H2 := fun b o n h => e' b o n (e b o n h)
theorem but_mut {p : Addr} {o : HO} (e : But p H H1) : But p H (upd H1 p o) := fun b u n h => by
  rw [upd_ne n]
  exact e b u n h
theorem but_new {p q : Addr} {o : HO} (e : But p H H1) (h : Fr q H) : But p H (upd H1 q o) := fun b u n g => by
  rw [upd_ne (ne_of_none g h.is)]
  exact e b u n g
theorem but_at {p a : Addr} {o : HO} (e : But p H H1) (n : a ≠ p) (h : H a = some o) : H1 a = some o := e a o n h
theorem none_but {p a : Addr} {o u : HO} (h : H p = some o) (e : But p H H1) (h1 : H1 p = some u) (ha : Fr a H1) : Fr a H := by
  refine ⟨?_⟩
  cases q : H a with
  | none => rfl
  | some v =>
    by_cases n : a = p
    · subst n
      rw [ha.is] at h1
      cases h1
    · have := e a v n q
      rw [ha.is] at this
      cases this
theorem fr_upd {p q : Addr} {o : HO} (h : Fr p (upd H q o)) : Fr p H := by
  refine ⟨?_⟩
  have h1 := h.is
  unfold upd at h1
  split at h1
  · cases h1
  · exact h1
theorem same_but {p : Addr} (e : But p H H1) (h : Fr p H0) (e0 : Same H0 H) : Same H0 H1 := fun b o g => e b o (ne_of_none g h.is) (e0 b o g)

/-! ### expressions -/
theorem x_var {n : Nat} (h : σ[n]? = some (some v)) (q : Q v H) : tVar n σ H Q := ⟨v, h, q⟩
theorem x_c (q : Q v H) : tC v σ H Q := q
theorem x_op {r : R2} (q : ta σ H fun x H1 => tb σ H1 fun y H2 => r x y H2 Q) : tOp r ta tb σ H Q := q
theorem x_un {r : V → Hp → VK → Prop} (q : ta σ H fun x H1 => r x H1 Q) : tUn r ta σ H Q := q
theorem x_I0 {f : Int → Int → V} (q : Q (f i j) H) : rI0 f (.int i) (.int j) H Q := ⟨i, j, rfl, rfl, q⟩
theorem x_I {C : Int → Int → Prop} {f : Int → Int → V} (hc : C i j) (q : Q (f i j) H) : rI C f (.int i) (.int j) H Q := ⟨i, j, rfl, rfl, hc, q⟩
theorem x_U {f : Int → V} (q : Q (f i) H) : rU f (.int i) H Q := ⟨i, rfl, q⟩
theorem x_eq (h : scal x y = true) (q : Q (.bl (decide (x = y))) H) : rEq x y H Q := ⟨h, q⟩
theorem x_ne (h : scal x y = true) (q : Q (.bl (!decide (x = y))) H) : rNe x y H Q := ⟨h, q⟩
theorem x_ixL {p : Addr} {xs : List V} (h : SqL K H p xs) (ha : atI xs i = some v) (q : Q v H) : rIxL K (.ref p) (.int i) H Q := ⟨p, xs, i, v, rfl, rfl, h, ha, q⟩
theorem x_ixT {p : Addr} {xs : List V} (h : SqT K H p xs) (ha : atI xs i = some v) (q : Q v H) : rIxT K (.ref p) (.int i) H Q := ⟨p, xs, i, v, rfl, rfl, h, ha, q⟩
theorem x_ixS {w : Str} {c : Nat} (h : w.length ≤ 100000) (ha : atI w.cps.toList i = some c) (q : Q (.str ⟨#[c]⟩) H) : rIxS (.str w) (.int i) H Q := ⟨w, i, c, rfl, rfl, size_ok h, ha, q⟩
theorem x_nil {R : List V → Hp → Prop} (q : R [] H) : tNil σ H R := q
theorem x_cons {tr : TA} {R : List V → Hp → Prop} (q : ta σ H fun x H1 => tr σ H1 fun xs H2 => R (x :: xs) H2) : tCons ta tr σ H R := q
def New (Q : VK) (o : HO) (n : Nat) (H : Hp) : Prop := n ≤ sizeLine ∧ ∀ p, H p = none → Q (.ref p) (upd H p o)
theorem x_lst {tr : TA} (q : tr σ H fun xs H1 => New Q (.lst xs) xs.length H1) : tLst tr σ H Q := q
theorem x_tup {tr : TA} (q : tr σ H fun xs H1 => New Q (.tup xs) xs.length H1) : tTup tr σ H Q := q
/-- what is new is told by what it holds; the heap gets a name -/
theorem x_new {n : Nat} {o : HO} (hl : n ≤ 100000) (k : ∀ p H2, Fr p H → Same H H2 → H2 p = some o → Q (.ref p) H2) : New Q o n H :=
  ⟨size_ok hl, fun p hp => k p _ ⟨hp⟩ (same_new hp) upd_same⟩
theorem x_new1 {o : HO} (k : ∀ p H2, Fr p H → Same H H2 → H2 p = some o → Q (.ref p) H2) : ∀ p, H p = none → Q (.ref p) (upd H p o) :=
  fun p hp => k p _ ⟨hp⟩ (same_new hp) upd_same
theorem x_cb {r : List V → Hp → VK → Prop} {tr : TA} (q : tr σ H fun vs H1 => r vs H1 Q) : tCB r tr σ H Q := q
theorem x_call {sp : Sp} {dvs : List V} {E : XK} {tr : TA} (q : tr σ H fun vs H1 => sp (vs ++ dvs) H1 Q E) : tCall sp dvs E tr σ H Q := q
theorem x_sl {r : V → Option Int → Option Int → Hp → VK → Prop} {tl th : TO} (q : te σ H fun x H1 => tl σ H1 fun l H2 => th σ H2 fun u H3 => r x l u H3 Q) : tSl r te tl th σ H Q := q
theorem x_nopart {R : Option Int → Hp → Prop} (q : R none H) : tNoPart σ H R := q
theorem x_part {R : Option Int → Hp → Prop} (q : te σ H fun x H1 => ∃ i, x = .int i ∧ R (some i) H1) : tPart te σ H R := q
theorem x_if (q : t σ H fun c H1 => if c = true then ta σ H1 Q else tb σ H1 Q) : tIf t ta tb σ H Q := q
theorem x_andV (q : ta σ H fun x H1 => ∃ c, x = .bl c ∧ if c = true then tb σ H1 Q else Q (.bl false) H1) : tAndV ta tb σ H Q := q
theorem x_orV (q : ta σ H fun x H1 => ∃ c, x = .bl c ∧ if c = true then Q (.bl true) H1 else tb σ H1 Q) : tOrV ta tb σ H Q := q
theorem x_notV (q : ta σ H fun x H1 => ∃ c, x = .bl c ∧ Q (.bl (!c)) H1) : tNotV ta σ H Q := q
theorem x_bl {R : Bool → Prop} (q : R b) : ∃ c, V.bl b = .bl c ∧ R c := ⟨b, rfl, q⟩
theorem x_isI {R : Int → Prop} (q : R i) : ∃ c, V.int i = .int c ∧ R c := ⟨i, rfl, q⟩

/-! ### built-ins by names -/
def nInt : List V → Hp → VK → Prop := fun xs H Q => (∃ i, xs = [.int i] ∧ Q (.int i) H) ∨ ∃ k, xs = [.bl k] ∧ Q (.int (if k then 1 else 0)) H
theorem call_nInt {X : Cx} : CallR X (.type "int") nInt := call_int1
theorem x_nInt (q : Q (.int i) H) : nInt [.int i] H Q := .inl ⟨i, rfl, q⟩
theorem x_nIntB (q : Q (.int (if b then 1 else 0)) H) : nInt [.bl b] H Q := .inr ⟨b, rfl, q⟩
def nLen (K : PySem.W.Frag) : List V → Hp → VK → Prop := fun xs H Q => ∃ p ys, xs = [.ref p] ∧ (SqL K H p ys ∨ SqT K H p ys) ∧ Q (.int ys.length) H
theorem call_nLen {X : Cx} : CallR X (.builtin "len") (nLen X.K) := call_len_seq
theorem x_lenL {p : Addr} {ys : List V} (h : SqL K H p ys) (q : Q (.int ys.length) H) : nLen K [.ref p] H Q := ⟨p, ys, rfl, .inl h, q⟩
theorem x_lenT {p : Addr} {ys : List V} (h : SqT K H p ys) (q : Q (.int ys.length) H) : nLen K [.ref p] H Q := ⟨p, ys, rfl, .inr h, q⟩
def nListOf (K : PySem.W.Frag) : List V → Hp → VK → Prop := fun xs H Q => ∃ p ys, xs = [.ref p] ∧ (SqL K H p ys ∨ SqT K H p ys) ∧ ∀ l, H l = none → Q (.ref l) (upd H l (.lst ys))
theorem call_nListOf {X : Cx} : CallR X (.type "list") (nListOf X.K) := call_list_of
theorem x_listL {p : Addr} {ys : List V} (h : SqL K H p ys) (k : ∀ l H2, Fr l H → Same H H2 → H2 l = some (.lst ys) → Q (.ref l) H2) : nListOf K [.ref p] H Q := ⟨p, ys, rfl, .inl h, x_new1 k⟩
theorem x_listT {p : Addr} {ys : List V} (h : SqT K H p ys) (k : ∀ l H2, Fr l H → Same H H2 → H2 l = some (.lst ys) → Q (.ref l) H2) : nListOf K [.ref p] H Q := ⟨p, ys, rfl, .inr h, x_new1 k⟩
def nTupleOf (K : PySem.W.Frag) : List V → Hp → VK → Prop := fun xs H Q => ∃ p ys, xs = [.ref p] ∧ ((SqL K H p ys ∧ ∀ l, H l = none → Q (.ref l) (upd H l (.tup ys))) ∨ (SqT K H p ys ∧ Q (.ref p) H))
theorem call_nTupleOf {X : Cx} : CallR X (.type "tuple") (nTupleOf X.K) := call_tuple_of
theorem x_tupleL {p : Addr} {ys : List V} (h : SqL K H p ys) (k : ∀ l H2, Fr l H → Same H H2 → H2 l = some (.tup ys) → Q (.ref l) H2) : nTupleOf K [.ref p] H Q := ⟨p, ys, rfl, .inl ⟨h, x_new1 k⟩⟩
theorem x_tupleT {p : Addr} {ys : List V} (h : SqT K H p ys) (q : Q (.ref p) H) : nTupleOf K [.ref p] H Q := ⟨p, ys, rfl, .inr ⟨h, q⟩⟩
theorem kit_T {a c : String} (h : kitB a c = some true) : kitB a c = some true := h
theorem kit_F {a c : String} (h : kitB a c = some false) : kitB a c = some false := h
theorem x_isi {c : String} {tt : String} {k : Bool} (ty : TyX K H x (.type tt)) (e : kitB tt c = some k) (q : Q (.bl k) H) : rIsi K [x, .ty c] H Q := ⟨x, .ty c, .type tt, .type c, k, rfl, .ty _, ty, kit_ty e, q⟩
theorem x_isiInt {c : String} {k : Bool} (e : kitB "int" c = some k) (q : Q (.bl k) H) : rIsi K [.int i, .ty c] H Q := x_isi (.base (.int i)) e q
theorem x_isiBl {c : String} {k b : Bool} (e : kitB "bool" c = some k) (q : Q (.bl k) H) : rIsi K [.bl b, .ty c] H Q := x_isi (.base (.bl b)) e q
theorem x_isiStr {c : String} {k : Bool} {s : Str} (e : kitB "str" c = some k) (q : Q (.bl k) H) : rIsi K [.str s, .ty c] H Q := x_isi (.base (.str s)) e q
theorem x_isiNon {c : String} {k : Bool} (e : kitB "NoneType" c = some k) (q : Q (.bl k) H) : rIsi K [.non, .ty c] H Q := x_isi (.base .non) e q
theorem x_isiLst {c : String} {k : Bool} {a : Addr} {xs : List V} (h : H a = some (.lst xs)) (e : kitB "list" c = some k) (q : Q (.bl k) H) : rIsi K [.ref a, .ty c] H Q := x_isi (.base (.lst h)) e q
theorem x_isiTup {c : String} {k : Bool} {a : Addr} {xs : List V} (h : H a = some (.tup xs)) (e : kitB "tuple" c = some k) (q : Q (.bl k) H) : rIsi K [.ref a, .ty c] H Q := x_isi (.base (.tup h)) e q

def nSorted (K : PySem.W.Frag) : List V → Hp → VK → Prop := fun vs H Q => ∃ (a : Addr) (ns : List Int), vs = [V.ref a] ∧ SqL K H a (ns.map V.int) ∧ ns.length < 64 ∧
  ∀ (ns' : List Int) (p : Addr), ns'.Perm ns → ns'.Pairwise (· ≤ ·) → H p = none → Q (.ref p) (upd H p (.lst (ns'.map V.int)))
theorem x_sorted {a : Addr} {ns : List Int} (h : SqL K H a (ns.map V.int)) (hl : ns.length < 64) (k : ∀ p H2 (ns' : List Int), ns'.Perm ns → ns'.Pairwise (· ≤ ·) → Fr p H → Same H H2 → H2 p = some (.lst (ns'.map V.int)) → Q (.ref p) H2) : rSorted K [.ref a] H Q :=
  ⟨a, ns, rfl, h, hl, fun ns' p h1 h2 h3 => k p _ ns' h1 h2 ⟨h3⟩ (same_new h3) upd_same⟩
/-- set(t), t a tuple of ints -/
def rSetOfI (K : PySem.W.Frag) (w : World) : List V → Hp → VK → Prop := fun vs H Q => ∃ (p : Addr) (ns : List Int), vs = [V.ref p] ∧ SqT K H p (ns.map V.int) ∧ ns.length ≤ 1000 ∧ ∀ a n, H a = none → n ≤ ns.length → Q (.ref a) (upd H a (SetO w a (fun j => decide (j ∈ ns)) n))
theorem cr_setOfI {X : Cx} (hc : X.calm = true) : CallR X (.type "set") (rSetOfI X.K X.w) := by
  intro pins s σ H xs us Q I r h
  obtain ⟨p0, ns, rfl, hq, hl, q⟩ := h
  cases r with
  | cons r rr =>
    cases rr
    cases r
    obtain ⟨its, rv, pt, hz⟩ := I.tuple hq
    have hi : IntsAre its.toArray.toList ns := ints_of_vals rv
    have hd := I.ok.hd hc
    refine call_set_tupI ns hd (show s.heap.IsTuple p0 its.toArray from pt) hi (by unfold scanBound; omega) fun h' tk c R1 hcn k => ?_
    exact ⟨.ref _, upd H s.heap.objs.size (SetO X.w s.heap.objs.size (fun j => decide (j ∈ ns)) c), I.laid (t' := tk) k (Nat.le_refl _) (setO_new R1), rfl, q _ _ (I.hok.fresh (Nat.le_refl _)) hcn⟩
theorem x_setOfI {w : World} {p : Addr} {ns : List Int} (h : SqT K H p (ns.map V.int)) (hl : ns.length ≤ 1000) (k : ∀ a H2 n, Fr a H → Same H H2 → H2 a = some (SetO w a (fun j => decide (j ∈ ns)) n) → n ≤ ns.length → Q (.ref a) H2) : rSetOfI K w [.ref p] H Q :=
  ⟨p, ns, rfl, h, hl, fun a n h1 h2 => k a _ n ⟨h1⟩ (same_new h1) upd_same h2⟩
theorem x_sortedSet {w : World} {a : Addr} {S : Int → Bool} {n : Nat} (h : H a = some (SetO w a S n)) (hl : n < 64) (k : ∀ p H2 (ns : List Int), ns.Pairwise (· < ·) → (∀ k : Int, k ∈ ns ↔ S k = true) → ns.length = n → Fr p H → Same H H2 → H2 p = some (.lst (ns.map V.int)) → Q (.ref p) H2) : rSortedSet w [.ref a] H Q :=
  ⟨a, S, n, rfl, h, hl, fun ns p h1 h2 h3 h4 => k p _ ns h1 h2 h3 ⟨h4⟩ (same_new h4) upd_same⟩
theorem x_all {a : Addr} {bs : List Bool} (h : SqL K H a (bs.map V.bl)) (q : Q (.bl (bs.all id)) H) : rAll K [.ref a] H Q := ⟨a, bs, rfl, h, q⟩
theorem x_any {a : Addr} {bs : List Bool} (h : SqL K H a (bs.map V.bl)) (q : Q (.bl (bs.any id)) H) : rAny K [.ref a] H Q := ⟨a, bs, rfl, h, q⟩
theorem x_sum {a : Addr} {ns : List Int} (h : SqL K H a (ns.map V.int)) (q : Q (.int ns.sum) H) : rSum K [.ref a] H Q := ⟨a, ns, rfl, h, q⟩
theorem x_inL {p : Addr} {xs : List V} (h : SqL K H p xs) (hx : flatV x = true) (ha : xs.all flatV = true) (q : Q (.bl (inV x xs)) H) : rIn K false x (.ref p) H Q := ⟨p, xs, rfl, .inl h, hx, ha, q⟩
theorem x_inT {p : Addr} {xs : List V} (h : SqT K H p xs) (hx : flatV x = true) (ha : xs.all flatV = true) (q : Q (.bl (inV x xs)) H) : rIn K false x (.ref p) H Q := ⟨p, xs, rfl, .inr h, hx, ha, q⟩
theorem x_niL {p : Addr} {xs : List V} (h : SqL K H p xs) (hx : flatV x = true) (ha : xs.all flatV = true) (q : Q (.bl (!inV x xs)) H) : rIn K true x (.ref p) H Q := ⟨p, xs, rfl, .inl h, hx, ha, q⟩
theorem x_niT {p : Addr} {xs : List V} (h : SqT K H p xs) (hx : flatV x = true) (ha : xs.all flatV = true) (q : Q (.bl (!inV x xs)) H) : rIn K true x (.ref p) H Q := ⟨p, xs, rfl, .inr h, hx, ha, q⟩
theorem flat_ints : ∀ ns : List Int, (ns.map V.int).all flatV = true
  | [] => rfl
  | n :: r => by
    rw [List.map_cons, List.all_cons, flat_ints r]
    rfl
theorem in_ints (i : Int) : ∀ ns : List Int, inV (.int i) (ns.map V.int) = decide (i ∈ ns)
  | [] => by simp [inV]
  | n :: r => by
    have h := in_ints i r
    unfold inV at h ⊢
    rw [List.map_cons, List.any_cons, h]
    by_cases e : n = i
    · subst e
      simp [eqV]
    · have e' : ¬ i = n := fun z => e z.symm
      simp [eqV, e, e']

def nIsN : R2 := fun x y H Q => y = .non ∧ Q (.bl (decide (x = .non))) H
def nNotN : R2 := fun x y H Q => y = .non ∧ Q (.bl (!decide (x = .non))) H
theorem op_nIsN {X : Cx} : OpR X (compareOp .Is) nIsN := op_isN
theorem op_nNotN {X : Cx} : OpR X (compareOp .IsNot) nNotN := op_notN
theorem x_nIsN (q : Q (.bl (decide (x = .non))) H) : nIsN x .non H Q := ⟨rfl, q⟩
theorem x_nNotN (q : Q (.bl (!decide (x = .non))) H) : nNotN x .non H Q := ⟨rfl, q⟩
def nAndM : R2 := fun x y H Q => ∃ (i : Int) (k : Nat), x = .int i ∧ y = .int (2 ^ k - 1) ∧ Q (.int (i % 2 ^ k)) H
theorem op_nAndM {X : Cx} : OpR X (binaryOp .BitAnd) nAndM := op_andM
theorem x_and255 (q : Q (.int (i % 256)) H) : nAndM (.int i) (.int 255) H Q := ⟨i, 8, rfl, rfl, q⟩

/-! ### the same rules, K told: within a comprehension's block too -/
section
variable {X : Cx} {w : World}
theorem k_in (e : X.K = K) : OpR X (compareOp .In) (rIn K false) := e ▸ op_in_seq
theorem k_enum {e : Expr} {ta : TA} {p pos tpos : Pos} {elts : List Expr} {kk : Nat} (hk : X.K = K) (hg : Gl X "enumerate") (hm : X.mg "enumerate" = none) (ha : PA X [e] ta) (hs : starEach [e] X.env = [(false, eval e X.env)] := by rfl) :
    PI X (.Tuple elts kk tpos) (.Call (.Name "enumerate" p) [e] [] pos) (iEnum K ta) := hk ▸ pi_enum hg hm ha hs
theorem k_gtup {es : List Expr} {k : Nat} {pos : Pos} {gs : TGs} {n : Nat} (hk : X.K = K) (hc : X.calm = true) (h : PGs X es gs)
    (hn : (assignEach es X.env).length = n := by rfl) (hst : (assignEach es X.env).findIdx? (·.1) = none := by rfl) : PG X (.Tuple es k pos) (gTup K n gs) := hk ▸ pg_tup hc h hn hst
theorem k_nin (e : X.K = K) : OpR X (compareOp .NotIn) (rIn K true) := e ▸ op_notIn_seq
theorem k_ixL (e : X.K = K) : IxR X (rIxL K) := e ▸ ix_list
theorem k_ixT (e : X.K = K) : IxR X (rIxT K) := e ▸ ix_tup
theorem k_slL (e : X.K = K) : SlR X (rSlL K) := e ▸ sl_list
theorem k_len (e : X.K = K) : CallR X (.builtin "len") (nLen K) := e ▸ call_nLen
theorem k_list (e : X.K = K) : CallR X (.type "list") (nListOf K) := e ▸ call_nListOf
theorem k_tuple (e : X.K = K) : CallR X (.type "tuple") (nTupleOf K) := e ▸ call_nTupleOf
theorem k_isi (e : X.K = K) : CallR X (.builtin "isinstance") (rIsi K) := e ▸ call_isi
theorem k_all (hc : X.calm = true) (e : X.K = K) : CallR X (.builtin "all") (rAll K) := e ▸ cr_all hc
theorem k_any (hc : X.calm = true) (e : X.K = K) : CallR X (.builtin "any") (rAny K) := e ▸ cr_any hc
theorem k_sum (hc : X.calm = true) (e : X.K = K) : CallR X (.builtin "sum") (rSum K) := e ▸ cr_sum hc
theorem k_sorted (e : X.K = K) : CallR X (.builtin "sorted") (rSorted K) := e ▸ cr_sorted
theorem k_sortedS (e : X.K = K) : CallR X (.builtin "sorted") (rSortedS K) := e ▸ cr_sortedS
theorem k_sortedSet (hc : X.calm = true) (e : X.w = w) : CallR X (.builtin "sorted") (rSortedSet w) := e ▸ cr_sortedSet hc
theorem k_setOfI (hc : X.calm = true) (e : X.K = K) (e' : X.w = w) : CallR X (.type "set") (rSetOfI K w) := e ▸ e' ▸ cr_setOfI hc
theorem k_eqD (hu : X.A.units + 64 < cLine) (e : X.K = K) : OpR X (compareOp .Eq) (rEqD K) := e ▸ op_eqD hu
theorem k_neD (hu : X.A.units + 64 < cLine) (e : X.K = K) : OpR X (compareOp .NotEq) (rNeD K) := e ▸ op_neD hu
end

/-! ### tests -/
theorem x_test {R : Bool → Hp → Prop} (q : te σ H fun x H1 => ∃ k, x = .bl k ∧ R k H1) : tTest te σ H R := q
theorem x_B {R : Bool → Hp → Prop} (q : te σ H fun x H1 => ∃ k, x = .bl k ∧ R k H1) : tB te σ H R := q
theorem x_and {R : Bool → Hp → Prop} (q : t σ H fun c H1 => if c = true then u σ H1 R else R false H1) : tAnd t u σ H R := q
theorem x_or {R : Bool → Hp → Prop} (q : t σ H fun c H1 => if c = true then R true H1 else u σ H1 R) : tOr t u σ H R := q
theorem x_not {R : Bool → Hp → Prop} (q : t σ H fun c H1 => R (!c) H1) : tNot t σ H R := q
theorem x_yes {R : Bool → Hp → Prop} (q : R true H) : tYes σ H R := q
theorem x_chain {r r' : R2} (q : ta σ H fun x H1 => tb σ H1 fun y H2 => r x y H2 fun z H3 => ∃ k, z = .bl k ∧ (if k = true then tc σ H3 fun w' H4 => r' y w' H4 Q else Q (.bl false) H3)) : tChain r r' ta tb tc σ H Q := q
theorem x_itd {p A B : Prop} [Decidable p] (h1 : p → A) (h2 : ¬p → B) : if decide p = true then A else B := by
  by_cases h : p
  · rw [if_pos (decide_eq_true h)]
    exact h1 h
  · rw [if_neg (by rw [decide_eq_false h]; decide)]
    exact h2 h
theorem x_itn {p A B : Prop} [Decidable p] (h1 : ¬p → A) (h2 : p → B) : if (!decide p) = true then A else B := by
  by_cases h : p
  · rw [decide_eq_true h, if_neg (by decide)]
    exact h2 h
  · rw [decide_eq_false h, if_pos (by decide)]
    exact h1 h
theorem x_itb {A B : Prop} (h1 : b = true → A) (h2 : b = false → B) : if b = true then A else B := by
  cases b with
  | true => rw [if_pos rfl]; exact h1 rfl
  | false => rw [if_neg (by decide)]; exact h2 rfl
theorem x_itnb {A B : Prop} (h1 : b = false → A) (h2 : b = true → B) : if (!b) = true then A else B := by
  cases b with
  | true => exact h2 rfl
  | false => exact h1 rfl

theorem x_nT {A B : Prop} (h : B) : if (!true) = true then A else B := h
theorem x_nF {A B : Prop} (h : A) : if (!false) = true then A else B := h
theorem x_dY {p A B : Prop} [Decidable p] (hp : p) (h : A) : if decide p = true then A else B := x_itd (fun _ => h) fun z => absurd hp z
theorem x_dN {p A B : Prop} [Decidable p] (hp : ¬p) (h : B) : if decide p = true then A else B := x_itd (fun z => absurd z hp) fun _ => h
theorem x_ndY {p A B : Prop} [Decidable p] (hp : p) (h : B) : if (!decide p) = true then A else B := x_itn (fun z => absurd hp z) fun _ => h
theorem x_ndN {p A B : Prop} [Decidable p] (hp : ¬p) (h : A) : if (!decide p) = true then A else B := x_itn (fun _ => h) fun z => absurd z hp

/-! ### statements -/
theorem x_seq (q : tu { D with nx := tz D } σ H) : tSeq tu tz D σ H := q
theorem x_sasg {n : Nat} (q : te σ H fun v H1 => tz D (σ.set n (some v)) H1) : tSeq (tAsg te (gName n)) tz D σ H := q
theorem x_asg {n : Nat} (q : te σ H fun v H1 => D.nx (σ.set n (some v)) H1) : tAsg te (gName n) D σ H := q
theorem x_sasgG (q : te σ H fun v H1 => g v σ H1 (tz D)) : tSeq (tAsg te g) tz D σ H := q
theorem x_asgG (q : te σ H fun v H1 => g v σ H1 D.nx) : tAsg te g D σ H := q
theorem x_ret (q : te σ H D.rt) : tRet te D σ H := q
theorem x_retN (q : D.rt .non H) : tRetN D σ H := q
theorem x_next (q : D.nx σ H) : tNext D σ H := q
theorem x_brk (q : D.bk σ H) : tBreak D σ H := q
theorem x_ct (q : D.ct σ H) : tCont D σ H := q
theorem x_sif (q : t σ H fun b H1 => if b = true then tu { D with nx := tz D } σ H1 else tw { D with nx := tz D } σ H1) : tSeq (tIfS t tu tw) tz D σ H := q
theorem x_ifS (q : t σ H fun b H1 => if b = true then tu D σ H1 else tw D σ H1) : tIfS t tu tw D σ H := q
theorem x_sdrop (q : te σ H fun _ H1 => tz D σ H1) : tSeq (tDrop te) tz D σ H := q
theorem x_drop (q : te σ H fun _ H1 => D.nx σ H1) : tDrop te D σ H := q
theorem x_saug {n : Nat} {ti : TIp} (h : σ[n]? = some (some x)) (q : te σ H fun y H1 => ti x y H1 fun z H2 => tz D (σ.set n (some z)) H2) : tSeq (tAug n te ti) tz D σ H := ⟨x, h, q⟩
theorem x_aug {n : Nat} {ti : TIp} (h : σ[n]? = some (some x)) (q : te σ H fun y H1 => ti x y H1 fun z H2 => D.nx (σ.set n (some z)) H2) : tAug n te ti D σ H := ⟨x, h, q⟩
theorem x_ipI {f : Int → Int → Int} (q : Q (.int (f i j)) H) : ipI f (.int i) (.int j) H Q := ⟨i, j, rfl, rfl, q⟩
/-- an if, then the rest: what follows is shown once -/
theorem x_cut (M : L2.St → Hp → Prop) (h : tu { D with nx := M } σ H) (k : ∀ σ' H', M σ' H' → tz D σ' H') : Evl.tCut tu tz D σ H := ⟨M, h, k⟩
theorem x_nocut (h : tu { D with nx := tz D } σ H) : Evl.tCut tu tz D σ H := ⟨_, h, fun _ _ q => q⟩

theorem x_nocutW (h : tSeq (tWhile t tu) tz D σ H) : Evl.tCut (tWhile t tu) tz D σ H := ⟨_, h, fun _ _ q => q⟩

/-! ### targets -/
theorem x_gName {n : Nat} {R : L2.St → Hp → Prop} (q : R (σ.set n (some v)) H) : gName n v σ H R := q
theorem x_gTup {n : Nat} {gs : TGs} {R : L2.St → Hp → Prop} {a : Addr} {xs : List V} (h : SqT K H a xs) (hn : xs.length = n) (q : gs xs σ H R) : gTup K n gs (.ref a) σ H R := ⟨a, xs, rfl, h, hn, q⟩
theorem x_gLst {n : Nat} {gs : TGs} {R : L2.St → Hp → Prop} {a : Addr} {xs : List V} (h : SqL K H a xs) (hn : xs.length = n) (q : gs xs σ H R) : gLst K n gs (.ref a) σ H R := ⟨a, xs, rfl, h, hn, q⟩
theorem x_gCons {gs : TGs} {R : L2.St → Hp → Prop} {vs : List V} (q : g v σ H fun σ' H' => gs vs σ' H' R) : gCons g gs (v :: vs) σ H R := ⟨v, vs, rfl, q⟩
theorem x_gNil {R : L2.St → Hp → Prop} (q : R σ H) : gNil [] σ H R := ⟨rfl, q⟩
theorem x_gSub {to ti : TE} {ts : TSet} {R : L2.St → Hp → Prop} (q : to σ H fun o H1 => ti σ H1 fun i H2 => ts o i v H2 fun H3 => R σ H3) : gSub to ti ts v σ H R := q
theorem ixN_nat {n j : Nat} (hj : j < n) : ixN n (j : Int) = some j := by
  unfold ixN
  rw [if_pos (by omega), if_pos (by omega)]
  simp
theorem ixN_of {n j : Nat} {k : Int} (e : k = (j : Int)) (hj : j < n) : ixN n k = some j := by
  rw [e]
  exact ixN_nat hj
theorem at_nat {α : Type} {xs : List α} {k : Int} {j : Nat} {v : α} (e : k = (j : Int)) (h : xs[j]? = some v) : atI xs k = some v := by
  rw [e]
  exact atI_nat h
theorem at_neg {α : Type} {xs : List α} {k : Int} {j : Nat} {v : α} (hk : k < 0) (e : k + (xs.length : Int) = (j : Int)) (h : xs[j]? = some v) : atI xs k = some v := by
  unfold atI ixN
  rw [if_neg (by omega), if_pos (by omega)]
  have e2 : (k + (xs.length : Int)).toNat = j := by omega
  rw [e2]
  exact h
theorem x_setL {p : Addr} {xs : List V} {k : Int} {j : Nat} {R : Hp → Prop} (h : H p = some (.lst xs)) (hj : ixN xs.length k = some j) (q : R (upd H p (.lst (xs.set j v)))) : rSetL (.ref p) (.int k) v H R := ⟨p, xs, k, j, rfl, rfl, h, hj, q⟩
/-- xs.append(e) -/
theorem x_bm {T : String} {r : V → List V → Hp → VK → Prop} {tr : TA} (q : te σ H fun x H1 => tyV K T x H1 ∧ tr σ H1 fun xs H2 => r x xs H2 Q) : tBM K T r te tr σ H Q := q
theorem x_bm0 {T : String} {r : V → List V → Hp → VK → Prop} (q : te σ H fun x H1 => tyV K T x H1 ∧ r x [] H1 Q) : tBM0 K T r te σ H Q := q
theorem x_tyL {a : Addr} {xs : List V} {P : Prop} (h : SqL K H a xs) (q : P) : tyV K "list" (.ref a) H ∧ P := ⟨.inl ⟨rfl, xs, h⟩, q⟩
theorem x_app {l : Addr} {xs : List V} (h : H l = some (.lst xs)) (hz : xs.length < 100000) (q : Q .non (upd H l (.lst (xs ++ [v])))) : rAppend (.ref l) [v] H Q := ⟨l, xs, v, rfl, rfl, h, size_lt hz, q⟩
theorem x_cat {a c : Addr} {xs ys : List V} (h : H a = some (.lst xs)) (h' : H c = some (.lst ys)) (hz : xs.length + ys.length ≤ 100000) (k : ∀ p H2, Fr p H → Same H H2 → H2 p = some (.lst (xs ++ ys)) → Q (.ref p) H2) : rCat (.ref a) (.ref c) H Q :=
  ⟨a, c, xs, ys, rfl, rfl, h, h', size_ok hz, x_new1 k⟩
theorem x_slL {a : Addr} {xs : List V} {lo hi : Option Int} (h : SqL K H a xs) (k : ∀ p H2, Fr p H → Same H H2 → H2 p = some (.lst (cutV xs lo hi)) → Q (.ref p) H2) : rSlL K (.ref a) lo hi H Q := ⟨a, xs, rfl, h, x_new1 k⟩

/-! ### loops -/
theorem x_forR {n : Nat} (q : te σ H fun x H1 => ∃ m : Int, x = .int m ∧ 0 ≤ m ∧ m ≤ 100000 ∧ ∃ Pv : Nat → L2.St → Hp → Prop, Pv 0 σ H1 ∧
      (∀ (i : Nat) σ' H', (i : Int) < m → Pv i σ' H' → tu { D with nx := Pv (i + 1), ct := Pv (i + 1), bk := D.nx } (σ'.set n (some (.int (i : Int)))) H') ∧ (∀ σ' H', Pv m.toNat σ' H' → D.nx σ' H'))
    (mono : ∀ Q Q' : VK, (∀ v H1, Q v H1 → Q' v H1) → te σ H Q → te σ H Q') : tFor (iRng1 (tCons te tNil)) (gName n) tu D σ H := by
  refine mono _ _ (fun v H1 h => ?_) q
  obtain ⟨m, rfl, h0, h1, Pv, p0, ps, pd⟩ := h
  refine ⟨m, rfl, by omega, by omega, for_range (lo := 0) (n := m.toNat) Pv p0 (fun i σ' H' hi p => ?_) pd⟩
  have e0 : (0 : Int) + (i : Int) = (i : Int) := Int.zero_add _
  show tu { D with nx := Pv (i + 1), ct := Pv (i + 1), bk := D.nx } (σ'.set n (some (.int ((0 : Int) + (i : Int))))) H'
  rw [e0]
  exact ps i σ' H' (by omega) p
def RRange (n : Nat) (m : Int) (tu : TS) (D : Ends) (σ : L2.St) (H : Hp) : Prop := ∃ Pv : Nat → L2.St → Hp → Prop, Pv 0 σ H ∧
      (∀ (i : Nat) σ' H', (i : Int) < m → Pv i σ' H' → tu { D with nx := Pv (i + 1), ct := Pv (i + 1), bk := D.nx } (σ'.set n (some (.int (i : Int)))) H') ∧ (∀ σ' H', Pv m.toNat σ' H' → D.nx σ' H')
def rRange (n : Nat) (tu : TS) (D : Ends) (σ : L2.St) : List V → Hp → Prop := fun vs H => ∃ j : Int, vs = [.int j] ∧ -(2 ^ 62) ≤ j ∧ j < 2 ^ 62 ∧ ∃ W : Nat → Nat → L2.St → Hp → Prop, (∃ m, W 0 m σ H) ∧ ∀ i m σ H, W i m σ H →
  ((Itr 0 j.toNat).stop i H ∧ D.nx σ H) ∨ ((Itr 0 j.toNat).go i H ∧ ∃ N : L2.St → Hp → Prop, (∀ σ' H', N σ' H' → ∃ m', m' < m ∧ W (i + 1) m' σ' H') ∧ ∀ x H', (Itr 0 j.toNat).yld i H x H' → gName n x σ H' fun σ2 H2 => tu { D with nx := N, ct := N, bk := D.nx } σ2 H2)
theorem x_forR1 {n : Nat} {tr : TA} (q : tr σ H (rRange n tu D σ)) : tFor (iRng1 tr) (gName n) tu D σ H := q
theorem x_range {n : Nat} {m : Int} (Pv : Nat → L2.St → Hp → Prop) (hm : 0 ≤ m ∧ m ≤ 100000) (p0 : Pv 0 σ H)
    (ps : ∀ (i : Nat) σ' H', (i : Int) < m → Pv i σ' H' → tu { D with nx := Pv (i + 1), ct := Pv (i + 1), bk := D.nx } (σ'.set n (some (.int (i : Int)))) H') (pd : ∀ σ' H', Pv m.toNat σ' H' → D.nx σ' H') : rRange n tu D σ [.int m] H := by
  refine ⟨m, rfl, by omega, by omega, for_range (lo := 0) (n := m.toNat) Pv p0 (fun i σ' H' hi p => ?_) pd⟩
  have e0 : (0 : Int) + (i : Int) = (i : Int) := Int.zero_add _
  show tu { D with nx := Pv (i + 1), ct := Pv (i + 1), bk := D.nx } (σ'.set n (some (.int ((0 : Int) + (i : Int))))) H'
  rw [e0]
  exact ps i σ' H' (by omega) p
def rForL (K : PySem.W.Frag) (g : TG) (tu : TS) (D : Ends) (σ : L2.St) : VK := fun x H => ∃ a, x = .ref a ∧ (∃ xs, SqL K H a xs) ∧ ∃ W : Nat → Nat → L2.St → Hp → Prop, (∃ m, W 0 m σ H) ∧ ∀ i m σ H, W i m σ H →
  ((Itl K a).stop i H ∧ D.nx σ H) ∨ ((Itl K a).go i H ∧ ∃ N : L2.St → Hp → Prop, (∀ σ' H', N σ' H' → ∃ m', m' < m ∧ W (i + 1) m' σ' H') ∧ ∀ x H', (Itl K a).yld i H x H' → g x σ H' fun σ2 H2 => tu { D with nx := N, ct := N, bk := D.nx } σ2 H2)
theorem x_forL1 (q : te σ H (rForL K g tu D σ)) : tFor (iList K te) g tu D σ H := q
theorem x_forL {a : Addr} {xs : List V} (Pv : Nat → L2.St → Hp → Prop) (hx : SqL K H a xs) (p0 : Pv 0 σ H) (hl : ∀ i σ' H', i ≤ xs.length → Pv i σ' H' → SqL K H' a xs)
    (ps : ∀ i x σ' H', xs[i]? = some x → Pv i σ' H' → g x σ' H' fun σ2 H2 => tu { D with nx := Pv (i + 1), ct := Pv (i + 1), bk := D.nx } σ2 H2) (pd : ∀ σ' H', Pv xs.length σ' H' → D.nx σ' H') : rForL K g tu D σ (.ref a) H :=
  ⟨a, rfl, ⟨xs, hx⟩, for_list Pv p0 hl ps pd⟩
def rForT (K : PySem.W.Frag) (g : TG) (tu : TS) (D : Ends) (σ : L2.St) : VK := fun x H => ∃ a, x = .ref a ∧ (∃ xs, SqT K H a xs) ∧ ∃ W : Nat → Nat → L2.St → Hp → Prop, (∃ m, W 0 m σ H) ∧ ∀ i m σ H, W i m σ H →
  ((Itt K a).stop i H ∧ D.nx σ H) ∨ ((Itt K a).go i H ∧ ∃ N : L2.St → Hp → Prop, (∀ σ' H', N σ' H' → ∃ m', m' < m ∧ W (i + 1) m' σ' H') ∧ ∀ x H', (Itt K a).yld i H x H' → g x σ H' fun σ2 H2 => tu { D with nx := N, ct := N, bk := D.nx } σ2 H2)
theorem x_forT1 (q : te σ H (rForT K g tu D σ)) : tFor (iTup K te) g tu D σ H := q
theorem x_forT {a : Addr} {xs : List V} (Pv : Nat → L2.St → Hp → Prop) (hx : SqT K H a xs) (p0 : Pv 0 σ H) (hl : ∀ i σ' H', i ≤ xs.length → Pv i σ' H' → SqT K H' a xs)
    (ps : ∀ i x σ' H', xs[i]? = some x → Pv i σ' H' → g x σ' H' fun σ2 H2 => tu { D with nx := Pv (i + 1), ct := Pv (i + 1), bk := D.nx } σ2 H2) (pd : ∀ σ' H', Pv xs.length σ' H' → D.nx σ' H') : rForT K g tu D σ (.ref a) H :=
  ⟨a, rfl, ⟨xs, hx⟩, for_tup Pv p0 hl ps pd⟩
/-- while: W by a number that falls -/
def Falls (W : Nat → L2.St → Hp → Prop) (m : Nat) : L2.St → Hp → Prop := fun σ' H' => ∃ m', m' < m ∧ W m' σ' H'
theorem x_while (W : Nat → L2.St → Hp → Prop) (m0 : Nat) (h0 : W m0 σ H) (hs : ∀ m σ' H', W m σ' H' → t σ' H' fun b H1 => if b = true then tu { D with nx := Falls W m, ct := Falls W m, bk := D.nx } σ' H1 else D.nx σ' H1)
    (mono : ∀ (σ' : L2.St) (H' : Hp) (R R' : Bool → Hp → Prop), (∀ y H4, R y H4 → R' y H4) → t σ' H' R → t σ' H' R') : tWhile t tu D σ H :=
  ⟨W, ⟨m0, h0⟩, fun m σ' H' hw => mono _ _ _ _ (fun b H1 q => by
    cases b with
    | true =>
      rw [if_pos rfl] at q ⊢
      exact ⟨Falls W m, fun _ _ h => h, q⟩
    | false =>
      rw [if_neg (by decide)] at q ⊢
      exact q) (hs m σ' H' hw)⟩
def WTurn (W : Nat → L2.St → Hp → Prop) (m : Nat) (tu : TS) (D : Ends) (σ : L2.St) : Bool → Hp → Prop := fun b H1 => if b = true then ∃ N : L2.St → Hp → Prop, (∀ σ' H', N σ' H' → ∃ m', m' < m ∧ W m' σ' H') ∧ tu { D with nx := N, ct := N, bk := D.nx } σ H1 else D.nx σ H1
theorem x_while1 (W : Nat → L2.St → Hp → Prop) (m0 : Nat) (h0 : W m0 σ H) (hs : ∀ m σ' H', W m σ' H' → t σ' H' (WTurn W m tu D σ')) : tWhile t tu D σ H := ⟨W, ⟨m0, h0⟩, hs⟩
theorem x_wT {W : Nat → L2.St → Hp → Prop} {m : Nat} (q : tu { D with nx := Falls W m, ct := Falls W m, bk := D.nx } σ H) : WTurn W m tu D σ true H := by
  unfold WTurn
  rw [if_pos rfl]
  exact ⟨Falls W m, fun _ _ h => h, q⟩
theorem x_wF {W : Nat → L2.St → Hp → Prop} {m : Nat} (q : D.nx σ H) : WTurn W m tu D σ false H := by
  unfold WTurn
  rw [if_neg (by decide)]
  exact q
theorem x_wd {W : Nat → L2.St → Hp → Prop} {m : Nat} {p : Prop} [Decidable p] (h1 : p → WTurn W m tu D σ true H) (h2 : ¬p → WTurn W m tu D σ false H) : WTurn W m tu D σ (decide p) H := by
  by_cases h : p
  · rw [decide_eq_true h]
    exact h1 h
  · rw [decide_eq_false h]
    exact h2 h
theorem x_wn {W : Nat → L2.St → Hp → Prop} {m : Nat} {p : Prop} [Decidable p] (h1 : ¬p → WTurn W m tu D σ true H) (h2 : p → WTurn W m tu D σ false H) : WTurn W m tu D σ (!decide p) H := by
  by_cases h : p
  · rw [decide_eq_true h]
    exact h2 h
  · rw [decide_eq_false h]
    exact h1 h

/-! ### comprehensions -/
def RLc (J : It) (g : TG) (tt : TT) (te : TE) (vs : List Nat) (σ : L2.St) (Q : VK) : Hp → Prop := fun H1 => ∀ D, H1 D = none → ∃ W : Nat → Nat → Hp → Prop, (∃ m, W 0 m (upd H1 D (.lst []))) ∧ ∀ i m H, W i m H →
  (J.stop i H ∧ Q (.ref D) H) ∨ (J.go i H ∧ ∃ Nx : Hp → Prop, (∀ H', Nx H' → ∃ m', m' < m ∧ W (i + 1) m' H') ∧ ∀ x H', J.yld i H x H' → g x (wipe σ vs) H' fun σ2 H2 => wipe σ2 vs = wipe σ vs ∧ tt σ2 H2 fun b H3 =>
    if b = true then te σ2 H3 fun y H4 => ∃ acc, H4 D = some (.lst acc) ∧ acc.length < sizeLine ∧ Nx (upd H4 D (.lst (acc ++ [y]))) else Nx H3)
def rLcL (K : PySem.W.Frag) (g : TG) (tt : TT) (te : TE) (vs : List Nat) (σ : L2.St) (Q : VK) : VK := fun x H1 => ∃ a, x = .ref a ∧ (∃ xs, SqL K H1 a xs) ∧ RLc (Itl K a) g tt te vs σ Q H1
def rLcT (K : PySem.W.Frag) (g : TG) (tt : TT) (te : TE) (vs : List Nat) (σ : L2.St) (Q : VK) : VK := fun x H1 => ∃ a, x = .ref a ∧ (∃ xs, SqT K H1 a xs) ∧ RLc (Itt K a) g tt te vs σ Q H1
def rLcR (g : TG) (tt : TT) (te : TE) (vs : List Nat) (σ : L2.St) (Q : VK) : List V → Hp → Prop := fun xs H1 => ∃ j : Int, xs = [.int j] ∧ -(2 ^ 62) ≤ j ∧ j < 2 ^ 62 ∧ RLc (Itr 0 j.toNat) g tt te vs σ Q H1
theorem x_lcL1 {tx : TE} {vs : List Nat} (q : tx σ H (rLcL K g t te vs σ Q)) : tLc (iList K tx) g t te vs σ H Q := q
theorem x_lcT1 {tx : TE} {vs : List Nat} (q : tx σ H (rLcT K g t te vs σ Q)) : tLc (iTup K tx) g t te vs σ H Q := q
theorem x_lcR1 {tr : TA} {vs : List Nat} (q : tr σ H (rLcR g t te vs σ Q)) : tLc (iRng1 tr) g t te vs σ H Q := q
/-- a list comprehension: Pv of the new list's place, the turn and the heap -/
theorem x_lcL {a : Addr} {xs : List V} {vs : List Nat} (Pv : Addr → Nat → Hp → Prop) (hx : SqL K H a xs) (h0 : ∀ Dl, Fr Dl H → Pv Dl 0 (upd H Dl (.lst []))) (hl : ∀ Dl i H', Fr Dl H → Pv Dl i H' → SqL K H' a xs)
    (hs : ∀ Dl, Fr Dl H → ∀ i x H', xs[i]? = some x → Pv Dl i H' → g x (wipe σ vs) H' fun σ2 H2 => wipe σ2 vs = wipe σ vs ∧ t σ2 H2 fun b H3 =>
      if b = true then te σ2 H3 fun y H4 => ∃ acc, H4 Dl = some (.lst acc) ∧ acc.length < sizeLine ∧ Pv Dl (i + 1) (upd H4 Dl (.lst (acc ++ [y]))) else Pv Dl (i + 1) H3)
    (hd : ∀ Dl H', Fr Dl H → Pv Dl xs.length H' → Q (.ref Dl) H') : rLcL K g t te vs σ Q (.ref a) H := ⟨a, rfl, ⟨xs, hx⟩, fun Dl hD =>
  lc_list (xs := xs) (Pv Dl) (h0 Dl ⟨hD⟩) (fun i H' _ p => hl Dl i H' ⟨hD⟩ p) (fun i x H' hi p => hs Dl ⟨hD⟩ i x H' hi p) (fun H' p => hd Dl H' ⟨hD⟩ p)⟩
theorem x_lcT {a : Addr} {xs : List V} {vs : List Nat} (Pv : Addr → Nat → Hp → Prop) (hx : SqT K H a xs) (h0 : ∀ Dl, Fr Dl H → Pv Dl 0 (upd H Dl (.lst []))) (hl : ∀ Dl i H', Fr Dl H → Pv Dl i H' → SqT K H' a xs)
    (hs : ∀ Dl, Fr Dl H → ∀ i x H', xs[i]? = some x → Pv Dl i H' → g x (wipe σ vs) H' fun σ2 H2 => wipe σ2 vs = wipe σ vs ∧ t σ2 H2 fun b H3 =>
      if b = true then te σ2 H3 fun y H4 => ∃ acc, H4 Dl = some (.lst acc) ∧ acc.length < sizeLine ∧ Pv Dl (i + 1) (upd H4 Dl (.lst (acc ++ [y]))) else Pv Dl (i + 1) H3)
    (hd : ∀ Dl H', Fr Dl H → Pv Dl xs.length H' → Q (.ref Dl) H') : rLcT K g t te vs σ Q (.ref a) H := ⟨a, rfl, ⟨xs, hx⟩, fun Dl hD =>
  lc_tup (xs := xs) (Pv Dl) (h0 Dl ⟨hD⟩) (fun i H' _ p => hl Dl i H' ⟨hD⟩ p) (fun i x H' hi p => hs Dl ⟨hD⟩ i x H' hi p) (fun H' p => hd Dl H' ⟨hD⟩ p)⟩
theorem x_lcR {m : Int} {vs : List Nat} (Pv : Addr → Nat → Hp → Prop) (hm : 0 ≤ m ∧ m ≤ 100000) (h0 : ∀ Dl, Fr Dl H → Pv Dl 0 (upd H Dl (.lst [])))
    (hs : ∀ Dl, Fr Dl H → ∀ (i : Nat) H', (i : Int) < m → Pv Dl i H' → g (.int (i : Int)) (wipe σ vs) H' fun σ2 H2 => wipe σ2 vs = wipe σ vs ∧ t σ2 H2 fun b H3 =>
      if b = true then te σ2 H3 fun y H4 => ∃ acc, H4 Dl = some (.lst acc) ∧ acc.length < sizeLine ∧ Pv Dl (i + 1) (upd H4 Dl (.lst (acc ++ [y]))) else Pv Dl (i + 1) H3)
    (hd : ∀ Dl H', Fr Dl H → Pv Dl m.toNat H' → Q (.ref Dl) H') : rLcR g t te vs σ Q [.int m] H := ⟨m, rfl, by omega, by omega, fun Dl hD =>
  lc_range (lo := 0) (n := m.toNat) (Pv Dl) (h0 Dl ⟨hD⟩) (fun i H' hi p => by
    have e0 : (0 : Int) + (i : Int) = (i : Int) := Int.zero_add _
    rw [e0]
    exact hs Dl ⟨hD⟩ i H' (by omega) p) (fun H' p => hd Dl H' ⟨hD⟩ p)⟩
def rLcE (K : PySem.W.Frag) (g : TG) (tt : TT) (te : TE) (vs : List Nat) (σ : L2.St) (Q : VK) : List V → Hp → Prop := fun vs' H1 => ∃ a xs, vs' = [.ref a] ∧ SqL K H1 a xs ∧ RLc (Ite K a) g tt te vs σ Q H1
theorem x_lcE1 {tr : TA} {vs : List Nat} (q : tr σ H (rLcE K g t te vs σ Q)) : tLc (iEnum K tr) g t te vs σ H Q := q
theorem x_lcE {a : Addr} {xs : List V} {vs : List Nat} (Pv : Addr → Nat → Hp → Prop) (hx : SqL K H a xs) (h0 : ∀ Dl, Fr Dl H → Pv Dl 0 (upd H Dl (.lst []))) (hl : ∀ Dl i H', Fr Dl H → Pv Dl i H' → SqL K H' a xs)
    (hs : ∀ Dl, Fr Dl H → ∀ i x H1 T H', xs[i]? = some x → Pv Dl i H1 → Fr T H1 → Same H1 H' → H' T = some (.tup [.int (i : Nat), x]) → g (.ref T) (wipe σ vs) H' fun σ2 H2 => wipe σ2 vs = wipe σ vs ∧ t σ2 H2 fun b H3 =>
      if b = true then te σ2 H3 fun y H4 => ∃ acc, H4 Dl = some (.lst acc) ∧ acc.length < sizeLine ∧ Pv Dl (i + 1) (upd H4 Dl (.lst (acc ++ [y]))) else Pv Dl (i + 1) H3)
    (hd : ∀ Dl H', Fr Dl H → Pv Dl xs.length H' → Q (.ref Dl) H') : rLcE K g t te vs σ Q [.ref a] H := ⟨a, xs, rfl, hx, fun Dl hD =>
  lc_it walk_enum (Pv Dl) (h0 Dl ⟨hD⟩) (fun i H' _ p => hl Dl i H' ⟨hD⟩ p) (fun i x H1 H' hi p y => by
    obtain ⟨T, u, v, rfl, hT, rfl, e1, e2⟩ := y
    cases Option.some.inj e1
    exact hs Dl ⟨hD⟩ i v H1 T _ e2 p ⟨hT⟩ (same_new hT) upd_same) (fun H' p => hd Dl H' ⟨hD⟩ p)⟩
/-- the end of a turn: what is kept goes into the list -/
def Keep (Dl : Addr) (N : Hp → Prop) : VK := fun y H => ∃ acc, H Dl = some (.lst acc) ∧ acc.length < sizeLine ∧ N (upd H Dl (.lst (acc ++ [y])))
theorem x_keep {Dl : Addr} {N : Hp → Prop} {acc : List V} (h : H Dl = some (.lst acc)) (hz : acc.length < 100000) (q : N (upd H Dl (.lst (acc ++ [y])))) : ∃ acc, H Dl = some (.lst acc) ∧ acc.length < sizeLine ∧ N (upd H Dl (.lst (acc ++ [y]))) := ⟨acc, h, size_lt hz, q⟩
theorem x_wiped {A : Prop} {a b : L2.St} (h : a = b) (q : A) : a = b ∧ A := ⟨h, q⟩
end

/-! ### lists -/
theorem map_at {α β : Type} {f : α → β} {xs : List α} {j : Nat} {x : α} (h : xs[j]? = some x) : (xs.map f)[j]? = some (f x) := by
  rw [List.getElem?_map, h]
  rfl
theorem of_map_at {α β : Type} {f : α → β} {xs : List α} {j : Nat} {y : β} (h : (xs.map f)[j]? = some y) : ∃ x, xs[j]? = some x ∧ y = f x := by
  rw [List.getElem?_map] at h
  obtain ⟨x, hx, rfl⟩ := Option.map_eq_some_iff.mp h
  exact ⟨x, hx, rfl⟩
theorem at_lt {α : Type} {xs : List α} {j : Nat} {x : α} (h : xs[j]? = some x) : j < xs.length := (List.getElem?_eq_some_iff.mp h).1
theorem lt_at {α : Type} {xs : List α} {j : Nat} (h : j < xs.length) : ∃ x, xs[j]? = some x := ⟨xs[j], List.getElem?_eq_getElem h⟩
theorem drop_at {α : Type} {xs : List α} {j : Nat} {x : α} (h : xs[j]? = some x) : xs.drop j = x :: xs.drop (j + 1) := by
  obtain ⟨h1, h2⟩ := List.getElem?_eq_some_iff.mp h
  rw [List.drop_eq_getElem_cons h1, h2]
theorem snoc_map {α β : Type} {f : α → β} {xs : List α} {x : α} : xs.map f ++ [f x] = (xs ++ [x]).map f := by
  rw [List.map_append]
  rfl
theorem mem_snoc {α : Type} {P : α → Prop} {xs : List α} {x : α} (h : ∀ y ∈ xs, P y) (hx : P x) : ∀ y ∈ xs ++ [x], P y := fun y hy => by
  rcases List.mem_append.mp hy with hy | hy
  · exact h y hy
  · rw [List.mem_singleton.mp hy]
    exact hx

def upto (a b : Int) : List Int := (List.range (b - a).toNat).map fun i => a + (i : Nat)
theorem rgV_ints (a b : Int) : rgV a b = (upto a b).map V.int := by
  unfold rgV upto
  rw [List.map_map]
  rfl
theorem upto_len (a b : Int) : (upto a b).length = (b - a).toNat := by
  unfold upto
  rw [List.length_map, List.length_range]
def nRg (Q : VK) : Int → Int → Hp → Prop := fun a b H1 => RgOk a b ∧ ∀ q, H1 q = none → Q (.ref q) (upd H1 q (.lst (rgV a b)))
theorem x_lstRg {σ : L2.St} {H : Hp} {Q : VK} {te : L2.St → Hp → (Int → Int → Hp → Prop) → Prop} (q : te σ H (nRg Q)) : tLstRg te σ H Q := q
theorem x_rg1 {σ : L2.St} {H : Hp} {ta : TE} {R : Int → Int → Hp → Prop} (q : ta σ H fun x H1 => ∃ n, x = .int n ∧ R 0 n H1) : tRg1 ta σ H R := q
theorem x_nRg {H : Hp} {Q : VK} {a b : Int} (h : 0 ≤ a ∧ a ≤ 100000 ∧ 0 ≤ b ∧ b ≤ 100000) (k : ∀ p H2, Fr p H → Same H H2 → H2 p = some (.lst ((upto a b).map V.int)) → Q (.ref p) H2) : nRg Q a b H :=
  ⟨RgOk.of_le (by omega) (by omega) (by omega) (by omega), fun p hp => k p _ ⟨hp⟩ (same_new hp) (by rw [upd_same, rgV_ints])⟩
theorem upto_at {a b : Int} {j : Nat} (h : (j : Int) < b - a) : (upto a b)[j]? = some (a + j) := by
  unfold upto
  rw [List.getElem?_map, List.getElem?_range (by omega)]
  rfl

/-! ### lists of lists of ints -/
/-- at a stands a list of lists of ints: L their places and what they hold -/
def LL (H : Hp) (a : Addr) (L : List (Addr × List Int)) : Prop := H a = some (.lst (L.map fun e => V.ref e.1)) ∧ ∀ e ∈ L, H e.1 = some (.lst (e.2.map V.int))
theorem ll_same {H H' : Hp} {a : Addr} {L : List (Addr × List Int)} (e : Same H H') (h : LL H a L) : LL H' a L := ⟨e _ _ h.1, fun p hp => e _ _ (h.2 p hp)⟩
theorem ll_nil {H : Hp} {a : Addr} (h : H a = some (.lst [])) : LL H a [] := ⟨h, fun _ z => absurd z List.not_mem_nil⟩
theorem ll_snoc {H H' : Hp} {a p : Addr} {ns : List Int} {L : List (Addr × List Int)} (h : LL H a L) (h1 : H' a = some (.lst ((L.map fun e => V.ref e.1) ++ [V.ref p]))) (h2 : H' p = some (.lst (ns.map V.int))) (k : ∀ e ∈ L, H' e.1 = H e.1) : LL H' a (L ++ [(p, ns)]) := by
  refine ⟨?_, fun e he => ?_⟩
  · rw [h1, List.map_append]
    rfl
  · rcases List.mem_append.mp he with he | he
    · rw [k e he]
      exact h.2 e he
    · rw [List.mem_singleton.mp he]
      exact h2

/-! ### data -/
def dInts (ns : List Int) : List PyData := ns.map PyData.int
theorem dp_ints {K : PySem.W.Frag} {H : Hp} : ∀ ns : List Int, DpAll K H (ns.map V.int) (dInts ns)
  | [] => .nil
  | n :: r => .cons (.int n) (dp_ints r)
theorem canLay_ints : ∀ ns : List Int, PyData.canLayAll0 (dInts ns) = true
  | [] => by simp [dInts, PyData.canLayAll0]
  | n :: r => by
    have h := canLay_ints r
    unfold dInts at h ⊢
    rw [List.map_cons]
    simp only [PyData.canLayAll0, PyData.canLay0, h, Bool.and_self]
theorem eqv_ints : ∀ ns ms : List Int, PyData.eqvAll (dInts ns) (dInts ms) = decide (ns = ms)
  | [], [] => by simp [dInts, PyData.eqvAll]
  | [], m :: r => by simp [dInts, PyData.eqvAll]
  | n :: r, [] => by simp [dInts, PyData.eqvAll]
  | n :: r, m :: q => by
    have h := eqv_ints r q
    unfold dInts at h ⊢
    rw [List.map_cons, List.map_cons, PyData.eqvAll, h, PyData.eqv]
    by_cases h1 : n = m <;> by_cases h2 : r = q <;> simp [h1, h2]
theorem canLayAll_map {α : Type} {f : α → PyData} : ∀ (xs : List α), (∀ x ∈ xs, (f x).canLay0 = true) → PyData.canLayAll0 (xs.map f) = true
  | [], _ => by simp [PyData.canLayAll0]
  | x :: r, h => by
    have h1 := h x List.mem_cons_self
    have h2 := canLayAll_map r fun y hy => h y (List.mem_cons_of_mem _ hy)
    rw [List.map_cons]
    simp only [PyData.canLayAll0, h1, h2, Bool.and_self]
theorem depthAll_map {α : Type} {f : α → PyData} {n : Nat} : ∀ (xs : List α), (∀ x ∈ xs, (f x).depth ≤ n) → PyData.depthAll (xs.map f) ≤ n
  | [], _ => by simp [PyData.depthAll]
  | x :: r, h => by
    have h1 := h x List.mem_cons_self
    have h2 := depthAll_map r fun y hy => h y (List.mem_cons_of_mem _ hy)
    rw [List.map_cons, PyData.depthAll]
    omega
theorem depth_ints : ∀ ns : List Int, PyData.depthAll (dInts ns) = 0
  | [] => by simp [dInts, PyData.depthAll]
  | n :: r => by
    have h := depth_ints r
    unfold dInts at h ⊢
    rw [List.map_cons, PyData.depthAll, h, PyData.depth]
    rfl
theorem shaped_lints (ns : List Int) : SeqAt.shaped (.list (dInts ns)) = true := by
  unfold SeqAt.shaped
  rw [PyData.canLay0, canLay_ints, PyData.depth, depth_ints]
  rfl
theorem shaped_tints (ns : List Int) : SeqAt.shaped (.tuple (dInts ns)) = true := by
  unfold SeqAt.shaped
  rw [PyData.canLay0, canLay_ints, PyData.depth, depth_ints]
  rfl
theorem eqv_lints (ns ms : List Int) : PyData.eqv (.list (dInts ns)) (.list (dInts ms)) = decide (ns = ms) := by
  rw [PyData.eqv]
  exact eqv_ints ns ms
theorem eqv_tints (ns ms : List Int) : PyData.eqv (.tuple (dInts ns)) (.tuple (dInts ms)) = decide (ns = ms) := by
  rw [PyData.eqv]
  exact eqv_ints ns ms
theorem shaped_of {d : PyData} (h1 : d.canLay0 = true) (h2 : d.depth ≤ 64) : SeqAt.shaped d = true := by
  unfold SeqAt.shaped
  rw [h1, decide_eq_true h2]
  rfl
theorem canLay_lints (ns : List Int) : PyData.canLay0 (.list (dInts ns)) = true := by
  rw [PyData.canLay0, canLay_ints]
theorem depth_lints (ns : List Int) : PyData.depth (.list (dInts ns)) = 1 := by
  rw [PyData.depth, depth_ints]
/-- lists of lists of ints as data -/
def dLists (ps : List (List Int)) : List PyData := ps.map fun p => .list (dInts p)
theorem canLay_lists (ps : List (List Int)) : PyData.canLayAll0 (dLists ps) = true := canLayAll_map ps fun p _ => canLay_lints p
theorem depth_lists (ps : List (List Int)) : PyData.depthAll (dLists ps) ≤ 1 := depthAll_map ps fun p _ => Nat.le_of_eq (depth_lints p)
theorem dp_list {K : PySem.W.Frag} {H : Hp} : ∀ (L : List (Addr × List Int)), (∀ e ∈ L, H e.1 = some (.lst (e.2.map V.int))) → DpAll K H (L.map fun e => V.ref e.1) (dLists (L.map (·.2)))
  | [], _ => .nil
  | e :: r, h => .cons (.lst (sq_of (h e List.mem_cons_self)) (dp_ints _)) (dp_list r fun x hx => h x (List.mem_cons_of_mem _ hx))
theorem dp_LL {K : PySem.W.Frag} {H : Hp} {a : Addr} {L : List (Addr × List Int)} (h : LL H a L) : Dp K H (.ref a) (.list (dLists (L.map (·.2)))) := .lst (sq_of h.1) (dp_list L h.2)
mutual
theorem dp_same {K : PySem.W.Frag} {H H' : Hp} (e : Same H H') : ∀ (d : PyData) (v : V), Dp K H v d → Dp K H' v d
  | .none, _, h => by cases h; exact .non
  | .bool b, _, h => by cases h; exact .bl b
  | .int i, _, h => by cases h; exact .int i
  | .str x, _, h => by cases h; exact .str x
  | .list ds, _, h => by
    cases h with
    | lst hs ha => exact .lst (sq_same hs e) (dpAll_same e ds _ ha)
  | .tuple ds, _, h => by
    cases h with
    | tup hs ha => exact .tup (st_same hs e) (dpAll_same e ds _ ha)
  | .dict _, _, h => by cases h
theorem dpAll_same {K : PySem.W.Frag} {H H' : Hp} (e : Same H H') : ∀ (ds : List PyData) (vs : List V), DpAll K H vs ds → DpAll K H' vs ds
  | [], _, h => by cases h; exact .nil
  | d :: ds, _, h => by
    cases h with
    | cons h1 h2 => exact .cons (dp_same e d _ h1) (dpAll_same e ds _ h2)
end
/-- equal data -/
theorem x_neSame {K : PySem.W.Frag} {H : Hp} {Q : VK} {x y : V} {d : PyData} (h : Dp K H x d) (h' : Dp K H y d) (c : d.canLay0 = true) (n : d.depth ≤ 64) (q : Q (.bl false) H) : rNeD K x y H Q :=
  ⟨d, d, h, h', shaped_of c n, shaped_of c n, by rw [SeqAt.eqv_refl d c]; exact q⟩
theorem x_eqSame {K : PySem.W.Frag} {H : Hp} {Q : VK} {x y : V} {d : PyData} (h : Dp K H x d) (h' : Dp K H y d) (c : d.canLay0 = true) (n : d.depth ≤ 64) (q : Q (.bl true) H) : rEqD K x y H Q :=
  ⟨d, d, h, h', shaped_of c n, shaped_of c n, by rw [SeqAt.eqv_refl d c]; exact q⟩
section
variable {K : PySem.W.Frag} {H : Hp} {Q : VK} {a c : Addr} {ns ms : List Int}
theorem x_neInts (h : SqL K H a (ns.map V.int)) (h' : SqL K H c (ms.map V.int)) (q : Q (.bl (!decide (ns = ms))) H) : rNeD K (.ref a) (.ref c) H Q :=
  ⟨.list (dInts ns), .list (dInts ms), .lst h (dp_ints ns), .lst h' (dp_ints ms), shaped_lints ns, shaped_lints ms, by rw [eqv_lints]; exact q⟩
theorem x_eqInts (h : SqL K H a (ns.map V.int)) (h' : SqL K H c (ms.map V.int)) (q : Q (.bl (decide (ns = ms))) H) : rEqD K (.ref a) (.ref c) H Q :=
  ⟨.list (dInts ns), .list (dInts ms), .lst h (dp_ints ns), .lst h' (dp_ints ms), shaped_lints ns, shaped_lints ms, by rw [eqv_lints]; exact q⟩
theorem x_neTInts (h : SqT K H a (ns.map V.int)) (h' : SqT K H c (ms.map V.int)) (q : Q (.bl (!decide (ns = ms))) H) : rNeD K (.ref a) (.ref c) H Q :=
  ⟨.tuple (dInts ns), .tuple (dInts ms), .tup h (dp_ints ns), .tup h' (dp_ints ms), shaped_tints ns, shaped_tints ms, by rw [eqv_tints]; exact q⟩
theorem x_eqTInts (h : SqT K H a (ns.map V.int)) (h' : SqT K H c (ms.map V.int)) (q : Q (.bl (decide (ns = ms))) H) : rEqD K (.ref a) (.ref c) H Q :=
  ⟨.tuple (dInts ns), .tuple (dInts ms), .tup h (dp_ints ns), .tup h' (dp_ints ms), shaped_tints ns, shaped_tints ms, by rw [eqv_tints]; exact q⟩
end
end Xk
/-! ## slices stored and deleted, properties, own objects -/
namespace Xk
open PySem PySem.Spec PyProof.Rows L2
section
variable {X : Cx} {o : Expr} {lo hi : Option Expr} {to : TE} {tl th : TO} {pos p2 tpos : Pos}
/-- o[lo:hi] = another list -/
def gSubSl (to : TE) (tl th : TO) : TG := fun v σ H R => to σ H fun x H1 => tl σ H1 fun l H2 => th σ H2 fun u H3 => ∃ (a b : Addr) (xs ys : List V) (i j : Int), x = .ref a ∧ v = .ref b ∧ l = some i ∧ u = some j ∧
  H3 a = some (.lst xs) ∧ H3 b = some (.lst ys) ∧ a ≠ b ∧ 0 ≤ i ∧ i ≤ j ∧ j ≤ xs.length ∧ xs.length + ys.length ≤ sizeLine ∧ R σ (upd H3 a (.lst (xs.take i.toNat ++ ys ++ xs.drop j.toNat)))
theorem pg_subSl (ho : PE X o to) (hl : PO X lo tl) (hu : PO X hi th)
    (ha : ∀ v, assign (.Subscript o (.Slice lo hi none p2) pos) X.env v = (do
      let ov ← holding [v] (eval o X.env)
      let iv ← holding [v, ov] (eval (.Slice lo hi none p2) X.env)
      standAt pos
      holding [v, ov, iv] (setItem ov iv v)
      release [iv, v, ov] []) := by intro _; rfl) : PG X (.Subscript o (.Slice lo hi none p2) pos) (gSubSl to tl th) := by
  refine ⟨fun pins s σ H v u Q I r h => ?_⟩
  rw [ha]
  refine wpAny_bind (wpAny_holding (thn (ho.run pins s σ H _ I h) fun ov s1 ⟨x, H1, I1, r1, q1⟩ => ?_))
  refine wpAny_bind (wpAny_holding ?_)
  refine wpAny_Slice (thn (hl.run pins s1 σ H1 _ I1 q1) fun vl s2 ⟨l, H2, I2, pl, q2⟩ => thn (hu.run pins s2 σ H2 _ I2 q2) fun vu s3 ⟨w, H3, I3, pu, q3⟩ => ?_)
  rw [evalPart_none]
  refine wpAny_pure ?_
  have I4 : Inv X pins σ H3 { s3 with heap := s3.heap.push { cls := .type "slice", data := .fields #[vl, vu, .none] } } := I3.kept (t' := s3.toks) fun b ob q => Heap.get?_push_of_some _ q
  obtain ⟨a, b, xs, ys, i, j, rfl, rfl, rfl, rfl, hA, hB, hne, h0, hij, hj, hz, q⟩ := q3
  cases r1
  cases r
  cases pl with
  | int _ ti =>
  cases pu with
  | int _ tj =>
  refine wpAny_bind (wpAny_standAt (wpAny_bind (wpAny_holding ?_)))
  exact set_slice I4 hA hB hne (Heap.IsSliceOf.new ..) ⟨_, rfl⟩ ⟨_, rfl⟩ h0 hij hj hz fun s' I5 => wpAny_release ⟨σ, _, I5, q⟩

theorem sel_take (f : Nat → Bool) (i n : Nat) (h : ∀ k : Nat, f k = (decide ((i : Int) ≤ (k : Int)) && decide ((k : Int) < (n : Int)) && (((k : Int) - (i : Int)) % 1 == 0))) :
    ∀ (xs : List Value) (m : Nat), m + xs.length ≤ n → (xs.zipIdx m).filterMap (fun (x, k) => if f k then none else some x) = xs.take (i - m)
  | [], m, hm => by simp
  | x :: r, m, hm => by
    rw [List.length_cons] at hm
    have ih := sel_take f i n h r (m + 1) (by omega)
    rw [List.zipIdx_cons, List.filterMap_cons]
    have hf : f m = decide (i ≤ m) := by
      rw [h m]
      by_cases h1 : i ≤ m
      · have h2 : (i : Int) ≤ (m : Int) := by omega
        have h3 : (m : Int) < (n : Int) := by omega
        have h4 : ((m : Int) - (i : Int)) % 1 = 0 := by omega
        rw [h4, decide_eq_true h1, decide_eq_true h2, decide_eq_true h3]
        rfl
      · have h2 : ¬ (i : Int) ≤ (m : Int) := by omega
        rw [decide_eq_false h1, decide_eq_false h2]
        rfl
    by_cases h1 : i ≤ m
    · have e : f m = true := by rw [hf, decide_eq_true h1]
      simp only [e, if_true]
      rw [ih, show i - (m + 1) = 0 by omega, show i - m = 0 by omega]
      rfl
    · have e : f m = false := by rw [hf, decide_eq_false h1]
      simp only [e]
      show x :: _ = _
      rw [ih, show i - m = (i - (m + 1)) + 1 by omega]
      rfl
theorem bounds_from {i n : Nat} (hi : i ≤ n) : sliceBounds (some (i : Int)) none none n = ((i : Int), (n : Int), 1) := by
  simp only [sliceBounds, Option.getD_none]
  have h1 : ¬ ((i : Int) < 0) := by omega
  simp only [h1, if_false, show (1 : Int) > 0 by decide, if_true]
  congr 1
  omega
section
variable {prog : Program} {w : World} {A : Around} {E : Value → Shared → Prop} {s : Shared}
open PySem.P PySem.F in
theorem delItem_tail {l sl : Addr} {items : Array Value} {n : Nat} {vl : Value} {i : Nat} {Q : Unit → Shared → Prop}
    (e : s.heap.get? l = some { cls := .type "list", data := .seq items n }) (hs : s.heap.IsSliceOf sl vl .none .none) (pl : IsPart vl (some (i : Int))) (hi : i ≤ items.size) (hsz : items.size ≤ sizeLine)
    (h : ∀ f : Array Value → Array Value, f items = (items.toList.take i).toArray → Q () { s with heap := s.heap.update l (Obj.mapSeq f) }) :
    wpAny (model prog w) A (delItem (.ref l) (.ref sl)) Q E s := by
  have hl : s.heap.IsList l items := PySem.IsL.isList e
  obtain ⟨os, hos, hcs, hds⟩ := id hs
  have hTs : s.TypeIs (.ref sl) "slice" := ⟨os, hos, hcs⟩
  have hstep : ¬ ((rawPart none == rawInt 0) = true) := Bool.false_ne_true
  unfold delItem
  refine wpAny_holding ?_
  refine wpAny_bind (wpAny_sequenceKey hl.typeIs (by decide) ?_)
  refine wpAny_bind (wpAny_callSpecial?_slot (name := Str.ofString "__delitem__") hl.typeIs PySem.F.slot_list_delitem
    (wpAny_call_entry PySem.F.slot_list_delitem hl.typeIs PySem.F.entry_list_delitem ?_ (PySem.F.args_list_delitem_2 _ _)))
  show wpAny _ _ (Builtin.List.listSubscript? (.ref sl) >>= _) _ _ s
  refine wpAny_bind ?_
  unfold Builtin.List.listSubscript?
  refine wpAny_bind (wpAny_specialOf hTs slice_no_index ?_)
  simp only [Option.isNone_none, if_true]
  refine wpAny_pure ?_
  show wpAny _ _ (typeOf (.ref sl) >>= _) _ _ s
  refine wpAny_bind (wpAny_typeOf hTs ?_)
  first
    | rw [if_neg (by decide)]
    | refine PySem.W.KFB.if_not (by decide) ?_
  rw [listSliceParts_eq]
  refine wpAny_bind (wpAny_bind (wpAny_field hos hds (x := .none) rfl (wpAny_bind (wpAny_listPart .none ?_))))
  rw [if_neg hstep]
  refine wpAny_bind (wpAny_field hos hds (x := vl) rfl (wpAny_bind (wpAny_listPart pl ?_)))
  refine wpAny_bind (wpAny_field hos hds (x := .none) rfl (wpAny_bind (wpAny_listPart .none (wpAny_pure ?_))))
  refine wpAny_bind (m := Builtin.List.listItems (.ref l)) ?_
  unfold Builtin.List.listItems
  refine wpAny_bind (wpAny_seqItems e rfl (wpAny_pure ?_))
  refine wpAny_bind (wpAny_of_eq ((sliceIndices_raw (some (i : Int)) none none items.size (by simp)).trans (congrArg (pure : Int × Int × Int → Sem (Int × Int × Int)) (bounds_from hi))) ?_)
  refine wpAny_bind (wpAny_rule ?_)
  show wpAny _ _ (updateSeq l _ >>= _) _ _ s
  have hf := sel_take _ i items.size (fun k => rfl) items.toList 0 (by simp)
  refine wpAny_bind (wpAny_updateSeq (hz := hsz) (_hz' := ?_) e rfl ?_)
  refine wpAny_bind (wpAny_letGo ?_)
  · exact wpAny_pure ⟨.none, rfl, wpAny_pure (h _ (congrArg List.toArray hf))⟩
  · refine Nat.le_trans (Nat.le_of_eq (congrArg Array.size (congrArg List.toArray hf))) ?_
    rw [List.size_toArray, List.length_take, Array.length_toList]
    omega
end
variable {pins : List (Addr × Obj)}
theorem del_tail {s : Shared} {σ : L2.St} {H : Hp} {l sl : Addr} {xs : List V} {i : Nat} {vl : Value} {Q : Unit → Shared → Prop} (I : Inv X pins σ H s) (hH : H l = some (.lst xs))
    (hs : s.heap.IsSliceOf sl vl .none .none) (pl : IsPart vl (some (i : Int))) (hi : i ≤ xs.length) (h : ∀ s', Inv X pins σ (upd H l (.lst (xs.take i))) s' → Q () s') :
    wpAny (model X.prog X.w) X.A (delItem (.ref l) (.ref sl)) Q X.xe s := by
  obtain ⟨z, its, n, r, hl, e⟩ := I.lstM hH
  refine delItem_tail e hs pl (by rw [List.size_toArray]; omega) (by rw [List.size_toArray]; omega) fun f hf => h _ ?_
  refine I.lset (its' := its.take i) (t' := s.toks) hH e ?_ (r.take i) ?_
  · rw [hf]
  · rw [List.length_take]
    omega
/-- del o[i:] -/
def tDelT (to : TE) (tl : TO) : TS := fun D σ H => to σ H fun x H1 => tl σ H1 fun u H2 => ∃ (l : Addr) (xs : List V) (i : Nat), x = .ref l ∧ u = some (i : Int) ∧ H2 l = some (.lst xs) ∧ i ≤ xs.length ∧ D.nx σ (upd H2 l (.lst (xs.take i)))
theorem ps_delT (ho : PE X o to) (hl : PO X lo tl) : PS X (.Delete [.Subscript o (.Slice lo none none p2) tpos] pos) (tDelT to tl) := by
  refine ⟨fun pins s σ H D I h => ?_⟩
  refine wpAny_Delete (wpAny_deleteEach_cons (wpAny_delete_Subscript (thn (ho.run pins s σ H _ I h) fun u s1 ⟨x, H1, I1, rx, q1⟩ => ?_)))
  refine wpAny_Slice (thn (hl.run pins s1 σ H1 _ I1 q1) fun vl s2 ⟨w, H2, I2, pl, q2⟩ => ?_)
  rw [evalPart_none]
  refine wpAny_pure (wpAny_pure ?_)
  have I4 : Inv X pins σ H2 { s2 with heap := s2.heap.push { cls := .type "slice", data := .fields #[vl, .none, .none] } } := I2.kept (t' := s2.toks) fun b ob q => Heap.get?_push_of_some _ q
  obtain ⟨l, xs, i, rfl, rfl, hA, hi, q⟩ := q2
  cases rx
  exact del_tail I4 hA (Heap.IsSliceOf.new ..) pl hi fun s3 I3 => wpAny_deleteEach_nil ⟨σ, _, I3, q⟩
end
section
variable {K : PySem.W.Frag} {σ σ2 : L2.St} {H H1 H2 : Hp} {Q : VK} {ta tv te te1 : TE} {D : Ends} {tz : TS} {g g1 : TG} {t tt1 : TT} {x v : V}
theorem k_pil {X : Cx} {tg l : Expr} {tl : TE} (e : X.K = K) (h : PE X l tl) : PI X tg l (iList K tl) := e ▸ pi_list h
/-- the inner for of a comprehension -/
def RIn (J : It) (g1 : TG) (tt1 : TT) (te : TE) (vs1 : List Nat) (σ2 : L2.St) (Dl : Addr) (N : Hp → Prop) : Hp → Prop := fun H4 => ∃ W1 : Nat → Nat → Hp → Prop, (∃ m, W1 0 m H4) ∧ ∀ j k H, W1 j k H →
  (J.stop j H ∧ N H) ∨ (J.go j H ∧ ∃ Nx1 : Hp → Prop, (∀ H', Nx1 H' → ∃ k', k' < k ∧ W1 (j + 1) k' H') ∧ ∀ x H', J.yld j H x H' → g1 x (wipe σ2 vs1) H' fun σ3 H5 => wipe σ3 vs1 = wipe σ2 vs1 ∧ tt1 σ3 H5 fun b H6 =>
    if b = true then te σ3 H6 fun y H7 => ∃ acc, H7 Dl = some (.lst acc) ∧ acc.length < sizeLine ∧ Nx1 (upd H7 Dl (.lst (acc ++ [y]))) else Nx1 H6)
def rInL (K : PySem.W.Frag) (g1 : TG) (tt1 : TT) (te : TE) (vs1 : List Nat) (σ2 : L2.St) (Dl : Addr) (N : Hp → Prop) : VK := fun x H4 => ∃ a, x = .ref a ∧ (∃ xs, SqL K H4 a xs) ∧ RIn (Itl K a) g1 tt1 te vs1 σ2 Dl N H4
theorem x_infL {a Dl : Addr} {xs : List V} {vs1 : List Nat} {N : Hp → Prop} (Pv : Nat → Hp → Prop) (hx : SqL K H a xs) (p0 : Pv 0 H) (hl : ∀ i H', Pv i H' → SqL K H' a xs)
    (hs : ∀ i x H', xs[i]? = some x → Pv i H' → g1 x (wipe σ2 vs1) H' fun σ3 H5 => wipe σ3 vs1 = wipe σ2 vs1 ∧ tt1 σ3 H5 fun b H6 => if b = true then te σ3 H6 (fun y H7 => ∃ acc, H7 Dl = some (.lst acc) ∧ acc.length < sizeLine ∧ Pv (i + 1) (upd H7 Dl (.lst (acc ++ [y])))) else Pv (i + 1) H6)
    (hd : ∀ H', Pv xs.length H' → N H') : rInL K g1 tt1 te vs1 σ2 Dl N (.ref a) H := by
  refine ⟨a, rfl, ⟨xs, hx⟩, fun i m H => m = xs.length - i ∧ i ≤ xs.length ∧ Pv i H, ⟨xs.length, by simp, Nat.zero_le _, p0⟩, ?_⟩
  rintro i m H' ⟨rfl, hi, p⟩
  have q := hl i H' p
  by_cases hlt : i < xs.length
  · refine .inr ⟨⟨xs, xs[i], q, by simp [hlt]⟩, Pv (i + 1), fun H' p' => ⟨xs.length - (i + 1), by omega, rfl, hlt, p'⟩, fun x H2 y => ?_⟩
    obtain ⟨e, y⟩ := y
    subst e
    exact hs i x _ (y xs q) p
  · have e : i = xs.length := by omega
    subst e
    exact .inl ⟨⟨xs, q, Nat.le_refl _⟩, hd H' p⟩
/-- the outer for -/
def rLc2L (K : PySem.W.Frag) (g : TG) (te1 : TE) (g1 : TG) (tt1 : TT) (te : TE) (vs vs1 : List Nat) (σ : L2.St) (Q : VK) : VK := fun x H1 => ∃ a, x = .ref a ∧ (∃ xs, SqL K H1 a xs) ∧ ∀ D, H1 D = none → ∃ W : Nat → Nat → Hp → Prop, (∃ m, W 0 m (upd H1 D (.lst []))) ∧ ∀ i m H, W i m H →
  ((Itl K a).stop i H ∧ Q (.ref D) H) ∨ ((Itl K a).go i H ∧ ∃ Nx : Hp → Prop, (∀ H', Nx H' → ∃ m', m' < m ∧ W (i + 1) m' H') ∧ ∀ x H', (Itl K a).yld i H x H' → g x (wipe σ vs) H' fun σ2 H2 => wipe σ2 vs = wipe σ vs ∧
    te1 σ2 H2 (rInL K g1 tt1 te vs1 σ2 D Nx))
theorem x_lc2 {tx : TE} {vs vs1 : List Nat} (q : tx σ H (rLc2L K g te1 g1 tt1 te vs vs1 σ Q)) : tLc2 (iList K tx) g tYes (iList K te1) g1 tt1 te vs vs1 σ H Q := q
theorem x_lc2L {a : Addr} {xs : List V} {vs vs1 : List Nat} (Pv : Addr → Nat → Hp → Prop) (hx : SqL K H a xs) (h0 : ∀ Dl, Fr Dl H → Pv Dl 0 (upd H Dl (.lst []))) (hl : ∀ Dl i H', Fr Dl H → Pv Dl i H' → SqL K H' a xs)
    (hs : ∀ Dl, Fr Dl H → ∀ i x H', xs[i]? = some x → Pv Dl i H' → g x (wipe σ vs) H' fun σ2 H2 => wipe σ2 vs = wipe σ vs ∧ te1 σ2 H2 (rInL K g1 tt1 te vs1 σ2 Dl (Pv Dl (i + 1))))
    (hd : ∀ Dl H', Fr Dl H → Pv Dl xs.length H' → Q (.ref Dl) H') : rLc2L K g te1 g1 tt1 te vs vs1 σ Q (.ref a) H := by
  refine ⟨a, rfl, ⟨xs, hx⟩, fun Dl hD => ⟨fun i m H => m = xs.length - i ∧ i ≤ xs.length ∧ Pv Dl i H, ⟨xs.length, by simp, Nat.zero_le _, h0 Dl ⟨hD⟩⟩, ?_⟩⟩
  rintro i m H' ⟨rfl, hi, p⟩
  have q := hl Dl i H' ⟨hD⟩ p
  by_cases hlt : i < xs.length
  · refine .inr ⟨⟨xs, xs[i], q, by simp [hlt]⟩, Pv Dl (i + 1), fun H' p' => ⟨xs.length - (i + 1), by omega, rfl, hlt, p'⟩, fun x H2 y => ?_⟩
    obtain ⟨e, y⟩ := y
    subst e
    exact hs Dl ⟨hD⟩ i x _ (y xs q) p
  · have e : i = xs.length := by omega
    subst e
    exact .inl ⟨⟨xs, q, Nat.le_refl _⟩, hd Dl H' ⟨hD⟩ p⟩
/-- attributes -/
theorem x_fld {a C dx : Addr} {fs : List (Str × V)} {f : Str} (h : H a = some (.ins C dx fs)) (c : Cls K C) (n : NoAttr K C f) (l : fs.lookup f = some v) (q : Q v H) : (∃ a' C dx fs v, V.ref a = .ref a' ∧ H a' = some (.ins C dx fs) ∧ Cls K C ∧ NoAttr K C f ∧ fs.lookup f = some v ∧ Q v H) :=
  ⟨a, C, dx, fs, v, rfl, h, c, n, l, q⟩
/-- what is read from an instance -/
def rFld (K : PySem.W.Frag) (f : Str) (Q : VK) : VK := fun x H1 => ∃ a C dx fs v, x = .ref a ∧ H1 a = some (.ins C dx fs) ∧ Cls K C ∧ NoAttr K C f ∧ fs.lookup f = some v ∧ Q v H1
theorem x_fld1 {f : Str} (q : ta σ H (rFld K f Q)) : tFld K ta f σ H Q := q
theorem x_rFld {a C dx : Addr} {fs : List (Str × V)} {f : Str} (h : H a = some (.ins C dx fs)) (c : Cls K C) (n : NoAttr K C f) (l : fs.lookup f = some v) (q : Q v H) : rFld K f Q (.ref a) H := ⟨a, C, dx, fs, v, rfl, h, c, n, l, q⟩
def rSetF (K : PySem.W.Frag) (f : Str) (y : V) (R : Hp → Prop) : VK := fun x H2 => ∃ a C dx fs, x = .ref a ∧ H2 a = some (.ins C dx fs) ∧ Cls K C ∧ NoAttr K C f ∧ fs.length < 1000 ∧ R (upd H2 a (.ins C dx (putF f y fs)))
theorem x_sfld {f : Str} (q : tv σ H fun y H1 => ta σ H1 (rSetF K f y (D.nx σ))) : sFld K ta tv f D σ H := q
theorem x_ssfld {f : Str} (q : tv σ H fun y H1 => ta σ H1 (rSetF K f y fun H2 => tz D σ H2)) : tSeq (sFld K ta tv f) tz D σ H := q
theorem x_rSetF {a C dx : Addr} {fs : List (Str × V)} {f : Str} {R : Hp → Prop} (h : H a = some (.ins C dx fs)) (c : Cls K C) (n : NoAttr K C f) (l : fs.length < 1000) (q : R (upd H a (.ins C dx (putF f x fs)))) : rSetF K f x R (.ref a) H := ⟨a, C, dx, fs, rfl, h, c, n, l, q⟩
def rProp (C : Addr) (sp : Sp) (dvs : List V) (E : XK) (Q : VK) : VK := fun x H1 => ∃ a dx fs, x = .ref a ∧ H1 a = some (.ins C dx fs) ∧ sp (.ref a :: dvs) H1 Q E
theorem x_prop {C : Addr} {sp : Sp} {dvs : List V} {E : XK} (q : ta σ H (rProp C sp dvs E Q)) : tProp C sp dvs E ta σ H Q := q
theorem x_rProp {a C dx : Addr} {fs : List (Str × V)} {sp : Sp} {dvs : List V} {E : XK} (h : H a = some (.ins C dx fs)) (q : sp (.ref a :: dvs) H Q E) : rProp C sp dvs E Q (.ref a) H := ⟨a, dx, fs, rfl, h, q⟩
def rMeth (C : Addr) (m : Str) (tr : TA) (sp : Sp) (dvs : List V) (E : XK) (σ : L2.St) (Q : VK) : VK := fun x H1 => ∃ a dx fs, x = .ref a ∧ H1 a = some (.ins C dx fs) ∧ fs.lookup m = none ∧ tr σ H1 fun vs H2 => sp (x :: (vs ++ dvs)) H2 Q E
theorem x_meth {C : Addr} {m : Str} {tr : TA} {sp : Sp} {dvs : List V} {E : XK} (q : ta σ H (rMeth C m tr sp dvs E σ Q)) : tMeth C m sp dvs E ta tr σ H Q := q
theorem x_rMeth {a C dx : Addr} {fs : List (Str × V)} {m : Str} {tr : TA} {sp : Sp} {dvs : List V} {E : XK} (h : H a = some (.ins C dx fs)) (l : fs.lookup m = none) (q : tr σ H fun vs H2 => sp (.ref a :: (vs ++ dvs)) H2 Q E) : rMeth C m tr sp dvs E σ Q (.ref a) H := ⟨a, dx, fs, rfl, h, l, q⟩
def rMake (C : Addr) (sp : Sp) (dvs : List V) (E : XK) (Q : VK) : List V → Hp → Prop := fun vs H1 => ∀ x dx, H1 x = none → H1 dx = none → dx ≠ x → sp (.ref x :: (vs ++ dvs)) (upd (upd H1 dx (.own x)) x (.ins C dx [])) (fun v H2 => v = .non ∧ Q (.ref x) H2) E
theorem x_make {C : Addr} {tr : TA} {sp : Sp} {dvs : List V} {E : XK} (q : tr σ H (rMake C sp dvs E Q)) : tMake C sp dvs E tr σ H Q := q
theorem x_rMake {C : Addr} {sp : Sp} {dvs vs : List V} {E : XK} (k : ∀ x dx H2, Fr x H → Fr dx H → dx ≠ x → Same H H2 → H2 dx = some (.own x) → H2 x = some (.ins C dx []) → sp (.ref x :: (vs ++ dvs)) H2 (fun v H3 => v = .non ∧ Q (.ref x) H3) E) : rMake C sp dvs E Q vs H :=
  fun x dx hx hd hn => k x dx _ ⟨hx⟩ ⟨hd⟩ hn (same_mut (same_fr ⟨hd⟩) ⟨hx⟩) ((upd_ne hn).trans upd_same) upd_same
/-- slices stored and deleted -/
def rDelT (R : Hp → Prop) (l : Addr) (xs : List V) (i : Nat) (u : Option Int) (H2 : Hp) : Prop := u = some (i : Int) ∧ H2 l = some (.lst xs) ∧ i ≤ xs.length ∧ R (upd H2 l (.lst (xs.take i)))
theorem x_delT {to : TE} {tl : TO} (q : to σ H fun x H1 => tl σ H1 fun u H2 => ∃ l xs i, x = .ref l ∧ rDelT (D.nx σ) l xs i u H2) : tDelT to tl D σ H := q
theorem x_sdelT {to : TE} {tl : TO} (q : to σ H fun x H1 => tl σ H1 fun u H2 => ∃ l xs i, x = .ref l ∧ rDelT (fun H3 => tz D σ H3) l xs i u H2) : tSeq (tDelT to tl) tz D σ H := q
theorem x_rDelT {l : Addr} {xs : List V} {i : Nat} {k : Int} {R : Hp → Prop} (e : k = (i : Int)) (h : H l = some (.lst xs)) (hi : i ≤ xs.length) (q : R (upd H l (.lst (xs.take i)))) : ∃ l' xs i', V.ref l = .ref l' ∧ rDelT R l' xs i' (some k) H := ⟨l, xs, i, rfl, by rw [e], h, hi, q⟩
end
end Xk
/-! ## pairs in order, defs with defaults -/
namespace Xk
open PySem PySem.Spec PyProof.Rows L2
/-- the pair (p, q) stands below (r, s) -/
def Bf (p q r s : Int) : Prop := p < r ∨ (p = r ∧ q < s)
instance {p q r s : Int} : Decidable (Bf p q r s) := by unfold Bf; infer_instance
section
variable {X : Cx} {K : PySem.W.Frag} {H : Hp} {Q : VK} {a b : Addr} {p q r s : Int}
theorem pair_in {pins : List (Addr × Obj)} {σ : L2.St} {z : Shared} (I : Inv X pins σ H z) (h : SqT X.K H a [.int p, .int q]) : ∃ t u, z.heap.IsTuple a #[.int p t, .int q u] := by
  obtain ⟨vs, rv, it, _⟩ := I.tuple h
  cases rv with
  | cons x y =>
    cases y with
    | cons y w =>
      cases w
      obtain ⟨t, rfl⟩ := x
      obtain ⟨u, rfl⟩ := y
      exact ⟨t, u, it⟩
theorem eq_ints {A : Around} {z : Shared} (i j : Int) (t u : Tok) : SeqAt.EqAt A z (.int i t) (.int j u) (decide (i = j)) := by
  have h : (i == j) = decide (i = j) := by
    by_cases e : i = j
    · subst e
      simp
    · simp [e]
  rw [← h]
  exact SeqAt.EqAt.int_int _ _ _ _
def rGeP (K : PySem.W.Frag) : R2 := fun x y H Q => ∃ a b p q r s, x = .ref a ∧ y = .ref b ∧ SqT K H a [.int p, .int q] ∧ SqT K H b [.int r, .int s] ∧ Q (.bl (!decide (Bf p q r s))) H
def rLtP (K : PySem.W.Frag) : R2 := fun x y H Q => ∃ a b p q r s, x = .ref a ∧ y = .ref b ∧ SqT K H a [.int p, .int q] ∧ SqT K H b [.int r, .int s] ∧ Q (.bl (decide (Bf p q r s))) H
theorem op_geP (hu : X.A.units < cLine) : OpR X (compareOp .GtE) (rGeP X.K) := by
  intro pins σ0 σ H x y v u Q I rx ry h
  obtain ⟨a, b, p, q, r, s, rfl, rfl, ha, hb, k⟩ := h
  cases rx
  cases ry
  obtain ⟨t1, t2, ia⟩ := pair_in I ha
  obtain ⟨t3, t4, ib⟩ := pair_in I hb
  have R := Ob.RcOp.tuples_ge (e := fun j => if j = 0 then decide (p = r) else decide (q = s)) (r := fun j => if j = 0 then decide (r ≤ p) else decide (s ≤ q)) ia ib hu
    (fun j h1 h2 => match j, h1, h2 with | 0, _, _ => eq_ints _ _ _ _ | 1, _, _ => eq_ints _ _ _ _ | j + 2, z, _ => absurd (show j + 2 < 2 from z) (by omega))
    (fun j h1 h2 _ => match j, h1, h2 with | 0, _, _ => Ob.RcOp.ge_int _ _ _ _ | 1, _, _ => Ob.RcOp.ge_int _ _ _ _ | j + 2, z, _ => absurd (show j + 2 < 2 from z) (by omega))
  refine R X.prog X.w X.xe _ ?_
  have e : Ob.lexAt (fun j => if j = 0 then decide (p = r) else decide (q = s)) (fun j => if j = 0 then decide (r ≤ p) else decide (s ≤ q)) (decide (2 ≥ 2)) 0 2 = !decide (Bf p q r s) := by
    simp only [Ob.lexAt_succ, Ob.lexAt_zero, Bf]
    by_cases h1 : p = r
    · by_cases h2 : q = s
      · simp [h1, h2]
      · by_cases h3 : s ≤ q
        · have h4 : ¬ q < s := by omega
          simp [h1, h2, h3, h4]
        · have h4 : q < s := by omega
          simp [h1, h2, h3, h4]
    · by_cases h3 : r ≤ p
      · have h4 : ¬ p < r := by omega
        simp [h1, h3, h4]
      · have h4 : p < r := by omega
        simp [h1, h3, h4]
  exact ⟨.bl _, H, I, rfl, (congrArg (fun z => Q (.bl z) H) e).mpr k⟩
theorem op_ltP (hu : X.A.units < cLine) : OpR X (compareOp .Lt) (rLtP X.K) := by
  intro pins σ0 σ H x y v u Q I rx ry h
  obtain ⟨a, b, p, q, r, s, rfl, rfl, ha, hb, k⟩ := h
  cases rx
  cases ry
  obtain ⟨t1, t2, ia⟩ := pair_in I ha
  obtain ⟨t3, t4, ib⟩ := pair_in I hb
  have R := Ob.RcOp.tuples_lt (e := fun j => if j = 0 then decide (p = r) else decide (q = s)) (r := fun j => if j = 0 then decide (p < r) else decide (q < s)) ia ib hu
    (fun j h1 h2 => match j, h1, h2 with | 0, _, _ => eq_ints _ _ _ _ | 1, _, _ => eq_ints _ _ _ _ | j + 2, z, _ => absurd (show j + 2 < 2 from z) (by omega))
    (fun j h1 h2 _ => match j, h1, h2 with | 0, _, _ => Ob.RcOp.lt_int _ _ _ _ | 1, _, _ => Ob.RcOp.lt_int _ _ _ _ | j + 2, z, _ => absurd (show j + 2 < 2 from z) (by omega))
  refine R X.prog X.w X.xe _ ?_
  have e : Ob.lexAt (fun j => if j = 0 then decide (p = r) else decide (q = s)) (fun j => if j = 0 then decide (p < r) else decide (q < s)) (decide (2 < 2)) 0 2 = decide (Bf p q r s) := by
    simp only [Ob.lexAt_succ, Ob.lexAt_zero, Bf]
    by_cases h1 : p = r
    · by_cases h2 : q = s
      · simp [h1, h2]
      · by_cases h3 : q < s
        · simp [h1, h2, h3]
        · simp [h1, h2, h3]
    · by_cases h3 : p < r
      · simp [h1, h3]
      · simp [h1, h3]
  exact ⟨.bl _, H, I, rfl, (congrArg (fun z => Q (.bl z) H) e).mpr k⟩
theorem k_geP (hu : X.A.units + 64 < cLine) (e : X.K = K) : OpR X (compareOp .GtE) (rGeP K) := e ▸ op_geP (by omega)
theorem k_ltP (hu : X.A.units + 64 < cLine) (e : X.K = K) : OpR X (compareOp .Lt) (rLtP K) := e ▸ op_ltP (by omega)
theorem x_geP (h : SqT K H a [.int p, .int q]) (h' : SqT K H b [.int r, .int s]) (k : Q (.bl (!decide (Bf p q r s))) H) : rGeP K (.ref a) (.ref b) H Q := ⟨a, b, p, q, r, s, rfl, rfl, h, h', k⟩
theorem x_ltP (h : SqT K H a [.int p, .int q]) (h' : SqT K H b [.int r, .int s]) (k : Q (.bl (decide (Bf p q r s))) H) : rLtP K (.ref a) (.ref b) H Q := ⟨a, b, p, q, r, s, rfl, rfl, h, h', k⟩
def nMax2 : List V → Hp → VK → Prop := fun xs H Q => ∃ i j : Int, xs = [.int i, .int j] ∧ Q (.int (max i j)) H
def nMin2 : List V → Hp → VK → Prop := fun xs H Q => ∃ i j : Int, xs = [.int i, .int j] ∧ Q (.int (min i j)) H
theorem call_nMax2 (hc : X.calm = true) : CallR X (.builtin "max") nMax2 := by
  intro pins s σ H xs us Q I r h
  obtain ⟨i, j, e, q⟩ := h
  refine call_max2 hc pins s σ H xs us Q I r ⟨i, j, e, ?_⟩
  have z : (if j > i then j else i) = max i j := by
    by_cases h : i < j
    · rw [if_pos h]
      omega
    · rw [if_neg h]
      omega
  rw [z]
  exact q
theorem call_nMin2 (hc : X.calm = true) : CallR X (.builtin "min") nMin2 := by
  intro pins s σ H xs us Q I r h
  obtain ⟨i, j, e, q⟩ := h
  refine call_min2 hc pins s σ H xs us Q I r ⟨i, j, e, ?_⟩
  have z : (if j < i then j else i) = min i j := by
    by_cases h : j < i
    · rw [if_pos h]
      omega
    · rw [if_neg h]
      omega
  rw [z]
  exact q
theorem x_nMax2 {i j : Int} (k : Q (.int (max i j)) H) : nMax2 [.int i, .int j] H Q := ⟨i, j, rfl, k⟩
theorem x_nMin2 {i j : Int} (k : Q (.int (min i j)) H) : nMin2 [.int i, .int j] H Q := ⟨i, j, rfl, k⟩
/-- lists and tuples stay, though an own object changes -/
structure Sk (K : PySem.W.Frag) (H H' : Hp) : Prop where
  l : ∀ a xs, SqL K H a xs → SqL K H' a xs
  t : ∀ a xs, SqT K H a xs → SqT K H' a xs
theorem sk_same {H' : Hp} (e : Same H H') : Sk K H H' := ⟨fun _ _ h => sq_same h e, fun _ _ h => st_same h e⟩
theorem Sk.refl (H : Hp) : Sk K H H := ⟨fun _ _ h => h, fun _ _ h => h⟩
theorem Sk.trans {H' H'' : Hp} (e : Sk K H H') (e' : Sk K H' H'') : Sk K H H'' := ⟨fun a xs h => e'.l a xs (e.l a xs h), fun a xs h => e'.t a xs (e.t a xs h)⟩
theorem sk_but {H' : Hp} {C dx : Addr} {fs : List (Str × V)} (hi : H a = some (.ins C dx fs)) (e : But a H H') : Sk K H H' := by
  have key : ∀ b o, H b = some o → (∀ C dx fs, o ≠ .ins C dx fs) → H' b = some o := fun b o hb hn => e b o (fun z => by
    subst z
    exact hn _ _ _ (Option.some.inj (hb.symm.trans hi))) hb
  constructor
  · intro b xs h
    rcases h with (h | ⟨o, h⟩) | h
    · exact .inl (.inl (key _ _ h fun _ _ _ z => by cases z))
    · exact .inl (.inr ⟨o, key _ _ h fun _ _ _ z => by cases z⟩)
    · exact .inr h
  · intro b xs h
    rcases h with (h | ⟨o, h⟩) | h
    · exact .inl (.inl (key _ _ h fun _ _ _ z => by cases z))
    · exact .inl (.inr ⟨o, key _ _ h fun _ _ _ z => by cases z⟩)
    · exact .inr h
mutual
theorem dp_sk {H' : Hp} (e : Sk K H H') : ∀ (d : PyData) (v : V), Dp K H v d → Dp K H' v d
  | .none, _, h => by cases h; exact .non
  | .bool b, _, h => by cases h; exact .bl b
  | .int i, _, h => by cases h; exact .int i
  | .str x, _, h => by cases h; exact .str x
  | .list ds, _, h => by
    cases h with
    | lst hs ha => exact .lst (e.l _ _ hs) (dps_sk e ds _ ha)
  | .tuple ds, _, h => by
    cases h with
    | tup hs ha => exact .tup (e.t _ _ hs) (dps_sk e ds _ ha)
  | .dict _, _, h => by cases h
theorem dps_sk {H' : Hp} (e : Sk K H H') : ∀ (ds : List PyData) (vs : List V), DpAll K H vs ds → DpAll K H' vs ds
  | [], _, h => by cases h; exact .nil
  | d :: ds, _, h => by
    cases h with
    | cons h1 h2 => exact .cons (dp_sk e d _ h1) (dps_sk e ds _ h2)
end
/-- tuples stay -/
structure St (K : PySem.W.Frag) (H H' : Hp) : Prop where
  t : ∀ a xs, SqT K H a xs → SqT K H' a xs
theorem Sk.st {H' : Hp} (e : Sk K H H') : St K H H' := ⟨e.t⟩
theorem St.refl (H : Hp) : St K H H := ⟨fun _ _ h => h⟩
theorem St.trans {H' H'' : Hp} (e : St K H H') (e' : St K H' H'') : St K H H'' := ⟨fun a xs h => e'.t a xs (e.t a xs h)⟩
theorem tt_same {H' : Hp} (e : Same H H') : St K H H' := ⟨fun _ _ h => st_same h e⟩
theorem tt_but {H' : Hp} {o : HO} (hi : H a = some o) (h1 : ∀ xs, o ≠ .tup xs) (h2 : ∀ u xs, o ≠ .frz u (.tup xs)) (e : But a H H') : St K H H' := by
  refine ⟨fun b xs h => ?_⟩
  rcases h with (h | ⟨u, h⟩) | h
  · exact .inl (.inl (e b _ (fun z => by subst z; exact h1 xs (Option.some.inj (hi.symm.trans h))) h))
  · exact .inl (.inr ⟨u, e b _ (fun z => by subst z; exact h2 u xs (Option.some.inj (hi.symm.trans h))) h⟩)
  · exact .inr h
theorem tt_butL {H' : Hp} {ys : List V} (hi : H a = some (.lst ys)) (e : But a H H') : St K H H' := tt_but hi (fun _ z => by cases z) (fun _ _ z => by cases z) e
theorem tt_butO {H' : Hp} {C dx : Addr} {fs : List (Str × V)} (hi : H a = some (.ins C dx fs)) (e : But a H H') : St K H H' := tt_but hi (fun _ z => by cases z) (fun _ _ z => by cases z) e
theorem tt_mutL {o : HO} {ys : List V} (hi : H a = some (.lst ys)) : St K H (upd H a o) := tt_butL hi (but_mut (But.refl _ _))
mutual
/-- none, ints, truth values, texts, and tuples of such -/
def tupD : PyData → Bool
  | .none | .bool _ | .int _ => true
  | .str x => PyData.canLay0 (.str x)
  | .tuple xs => tupDs xs
  | .list _ | .dict _ => false
def tupDs : List PyData → Bool
  | [] => true
  | x :: xs => tupD x && tupDs xs
end
mutual
theorem tupD_lay : ∀ (d : PyData), tupD d = true → d.canLay0 = true
  | .none, _ => rfl
  | .bool _, _ => rfl
  | .int _, _ => rfl
  | .str x, h => h
  | .tuple xs, h => tupDs_lay xs h
  | .list _, h => by cases h
  | .dict _, h => by cases h
theorem tupDs_lay : ∀ (ds : List PyData), tupDs ds = true → PyData.canLayAll0 ds = true
  | [], _ => rfl
  | x :: xs, h => by
    have h2 : (tupD x && tupDs xs) = true := h
    rw [Bool.and_eq_true] at h2
    show (x.canLay0 && PyData.canLayAll0 xs) = true
    rw [tupD_lay x h2.1, tupDs_lay xs h2.2]
    rfl
end
mutual
theorem dp_st {H' : Hp} (e : St K H H') : ∀ (d : PyData) (v : V), tupD d = true → Dp K H v d → Dp K H' v d
  | .none, _, _, h => by cases h; exact .non
  | .bool b, _, _, h => by cases h; exact .bl b
  | .int i, _, _, h => by cases h; exact .int i
  | .str x, _, _, h => by cases h; exact .str x
  | .list ds, _, c, _ => by cases c
  | .tuple ds, _, c, h => by
    cases h with
    | tup hs ha => exact .tup (e.t _ _ hs) (dps_st e ds _ c ha)
  | .dict _, _, _, h => by cases h
theorem dps_st {H' : Hp} (e : St K H H') : ∀ (ds : List PyData) (vs : List V), tupDs ds = true → DpAll K H vs ds → DpAll K H' vs ds
  | [], _, _, h => by cases h; exact .nil
  | d :: ds, _, c, h => by
    have h2 : (tupD d && tupDs ds) = true := c
    rw [Bool.and_eq_true] at h2
    cases h with
    | cons h3 h4 => exact .cons (dp_st e d _ h2.1 h3) (dps_st e ds _ h2.2 h4)
end
/-- packable data at v, not deep -/
def Pk (K : PySem.W.Frag) (H : Hp) (n : Nat) (v : V) (d : PyData) : Prop := Dp K H v d ∧ tupD d = true ∧ d.depth ≤ n
theorem Pk.st {H' : Hp} {n : Nat} {v : V} {d : PyData} (h : Pk K H n v d) (e : St K H H') : Pk K H' n v d := ⟨dp_st e d v h.2.1 h.1, h.2⟩
theorem Pk.sk {H' : Hp} {n : Nat} {v : V} {d : PyData} (h : Pk K H n v d) (e : Sk K H H') : Pk K H' n v d := h.st e.st
theorem Pk.same {H' : Hp} {n : Nat} {v : V} {d : PyData} (h : Pk K H n v d) (e : Same H H') : Pk K H' n v d := h.st (tt_same e)
theorem Pk.mono {n m : Nat} {v : V} {d : PyData} (h : Pk K H n v d) (l : n ≤ m) : Pk K H m v d := ⟨h.1, h.2.1, Nat.le_trans h.2.2 l⟩
theorem Pk.lay {n : Nat} {v : V} {d : PyData} (h : Pk K H n v d) : d.canLay0 = true := tupD_lay d h.2.1
theorem pk_non {n : Nat} : Pk K H n .non .none := ⟨.non, rfl, Nat.zero_le _⟩
theorem pk_int {n : Nat} {i : Int} : Pk K H n (.int i) (.int i) := ⟨.int i, rfl, Nat.zero_le _⟩
theorem pk_str {n : Nat} {x : Str} (h : PyData.canLay0 (.str x) = true := by decide +kernel) : Pk K H n (.str x) (.str x) := ⟨.str x, h, Nat.zero_le _⟩
/-- packable data, one behind another -/
def PkAll (K : PySem.W.Frag) (H : Hp) (n : Nat) (vs : List V) (ds : List PyData) : Prop := DpAll K H vs ds ∧ tupDs ds = true ∧ PyData.depthAll ds ≤ n
theorem PkAll.st {H' : Hp} {n : Nat} {vs : List V} {ds : List PyData} (h : PkAll K H n vs ds) (e : St K H H') : PkAll K H' n vs ds := ⟨dps_st e ds vs h.2.1 h.1, h.2⟩
theorem PkAll.same {H' : Hp} {n : Nat} {vs : List V} {ds : List PyData} (h : PkAll K H n vs ds) (e : Same H H') : PkAll K H' n vs ds := h.st (tt_same e)
theorem PkAll.mono {n m : Nat} {vs : List V} {ds : List PyData} (h : PkAll K H n vs ds) (l : n ≤ m) : PkAll K H m vs ds := ⟨h.1, h.2.1, Nat.le_trans h.2.2 l⟩
theorem PkAll.lay {n : Nat} {vs : List V} {ds : List PyData} (h : PkAll K H n vs ds) : PyData.canLayAll0 ds = true := tupDs_lay ds h.2.1
theorem pk_nil {n : Nat} : PkAll K H n [] [] := ⟨.nil, rfl, Nat.zero_le _⟩
theorem pk_cons {n : Nat} {v : V} {vs : List V} {d : PyData} {ds : List PyData} (h : Pk K H n v d) (h' : PkAll K H n vs ds) : PkAll K H n (v :: vs) (d :: ds) :=
  ⟨.cons h.1 h'.1, by show (tupD d && tupDs ds) = true; rw [h.2.1, h'.2.1]; rfl, by show max _ _ ≤ n; have := h.2.2; have := h'.2.2; omega⟩
theorem PkAll.uncons {n : Nat} {v : V} {vs : List V} {ds : List PyData} (h : PkAll K H n (v :: vs) ds) : ∃ d es, ds = d :: es ∧ Pk K H n v d ∧ PkAll K H n vs es := by
  obtain ⟨h1, h2, h3⟩ := h
  cases h1 with
  | cons a b =>
    rename_i d es
    have h4 : (tupD d && tupDs es) = true := h2
    rw [Bool.and_eq_true] at h4
    have h5 : max d.depth (PyData.depthAll es) ≤ n := h3
    exact ⟨d, es, rfl, ⟨a, h4.1, by omega⟩, ⟨b, h4.2, by omega⟩⟩
theorem pk_snoc {n : Nat} : ∀ {vs : List V} {ds : List PyData} {v : V} {d : PyData}, PkAll K H n vs ds → Pk K H n v d → PkAll K H n (vs ++ [v]) (ds ++ [d])
  | [], ds, v, d, h, h' => by
    obtain ⟨h1, _, _⟩ := h
    cases h1
    exact pk_cons h' pk_nil
  | w :: vs, ds, v, d, h, h' => by
    obtain ⟨e, es, rfl, h1, h2⟩ := h.uncons
    exact pk_cons h1 (pk_snoc h2 h')
theorem PkAll.len {n : Nat} : ∀ {vs : List V} {ds : List PyData}, PkAll K H n vs ds → vs.length = ds.length
  | [], ds, h => by
    obtain ⟨h1, _, _⟩ := h
    cases h1
    rfl
  | w :: vs, ds, h => by
    obtain ⟨e, es, rfl, h1, h2⟩ := h.uncons
    show vs.length + 1 = es.length + 1
    rw [h2.len]
theorem PkAll.take {n : Nat} : ∀ {vs : List V} {ds : List PyData} (k : Nat), PkAll K H n vs ds → PkAll K H n (vs.take k) (ds.take k)
  | vs, ds, 0, h => pk_nil
  | [], ds, k + 1, h => by
    obtain ⟨h1, _, _⟩ := h
    cases h1
    exact pk_nil
  | w :: vs, ds, k + 1, h => by
    obtain ⟨e, es, rfl, h1, h2⟩ := h.uncons
    exact pk_cons h1 (h2.take k)
theorem PkAll.at {n : Nat} : ∀ {vs : List V} {ds : List PyData} {i : Nat} {v : V}, PkAll K H n vs ds → vs[i]? = some v → ∃ d, ds[i]? = some d ∧ Pk K H n v d
  | [], ds, i, v, h, e => by simp at e
  | w :: vs, ds, 0, v, h, e => by
    obtain ⟨d, es, rfl, h1, h2⟩ := h.uncons
    cases (show w = v from Option.some.inj e)
    exact ⟨d, rfl, h1⟩
  | w :: vs, ds, i + 1, v, h, e => by
    obtain ⟨d, es, rfl, h1, h2⟩ := h.uncons
    exact h2.at e
theorem pk_tup {n : Nat} {a : Addr} {vs : List V} {ds : List PyData} (h : SqT K H a vs) (h1 : PkAll K H n vs ds) : Pk K H (n + 1) (.ref a) (.tuple ds) :=
  ⟨.tup h h1.1, h1.2.1, Nat.add_le_add_right h1.2.2 1⟩
theorem pk_tup1 {n : Nat} {a : Addr} {v : V} {d : PyData} (h : SqT K H a [v]) (h1 : Pk K H n v d) : Pk K H (n + 1) (.ref a) (.tuple [d]) := pk_tup h (pk_cons h1 pk_nil)
theorem pk_tup2 {n : Nat} {a : Addr} {v w : V} {d e : PyData} (h : SqT K H a [v, w]) (h1 : Pk K H n v d) (h2 : Pk K H n w e) : Pk K H (n + 1) (.ref a) (.tuple [d, e]) := pk_tup h (pk_cons h1 (pk_cons h2 pk_nil))
theorem pk_tup3 {n : Nat} {a : Addr} {u v w : V} {c d e : PyData} (h : SqT K H a [u, v, w]) (h0 : Pk K H n u c) (h1 : Pk K H n v d) (h2 : Pk K H n w e) : Pk K H (n + 1) (.ref a) (.tuple [c, d, e]) := pk_tup h (pk_cons h0 (pk_cons h1 (pk_cons h2 pk_nil)))
/-- equal data, one way or the other -/
theorem x_nePk {n m : Nat} {x y : V} {d : PyData} (h : Pk K H n x d) (h' : Pk K H m y d) (q : Q (.bl false) H) (l : n ≤ 64 := by decide) : rNeD K x y H Q := x_neSame h.1 h'.1 h.lay (Nat.le_trans h.2.2 l) q
theorem x_eqPk {n m : Nat} {x y : V} {d : PyData} (h : Pk K H n x d) (h' : Pk K H m y d) (q : Q (.bl true) H) (l : n ≤ 64 := by decide) : rEqD K x y H Q := x_eqSame h.1 h'.1 h.lay (Nat.le_trans h.2.2 l) q
theorem lay_list {ds : List PyData} (h : PyData.canLayAll0 ds = true) : PyData.canLay0 (.list ds) = true := h
theorem x_nePkL {n m : Nat} {p q' : Addr} {xs ys : List V} {ds : List PyData} (hp : SqL K H p xs) (hq : SqL K H q' ys) (h : PkAll K H n xs ds) (h' : PkAll K H m ys ds) (q : Q (.bl false) H) (l : n ≤ 63 := by decide) : rNeD K (.ref p) (.ref q') H Q :=
  x_neSame (.lst hp h.1) (.lst hq h'.1) (lay_list h.lay) (Nat.add_le_add_right (Nat.le_trans h.2.2 l) 1) q
theorem x_eqPkL {n m : Nat} {p q' : Addr} {xs ys : List V} {ds : List PyData} (hp : SqL K H p xs) (hq : SqL K H q' ys) (h : PkAll K H n xs ds) (h' : PkAll K H m ys ds) (q : Q (.bl true) H) (l : n ≤ 63 := by decide) : rEqD K (.ref p) (.ref q') H Q :=
  x_eqSame (.lst hp h.1) (.lst hq h'.1) (lay_list h.lay) (Nat.add_le_add_right (Nat.le_trans h.2.2 l) 1) q
theorem u65 {k : Nat} {A : Around} (r : Room k A) : A.units + 65 < cLine := by
  have := r.un
  omega
theorem k_inD (hu : X.A.units + 65 < cLine) (e : X.K = K) : OpR X (compareOp .In) (rInD K) := e ▸ op_inD hu
theorem k_ninD (hu : X.A.units + 65 < cLine) (e : X.K = K) : OpR X (compareOp .NotIn) (rNotInD K) := e ▸ op_notInD hu
/-- whether d is among ds -/
def inD (d : PyData) (ds : List PyData) : Bool := ds.any fun z => PyData.eqv z d
theorem x_inPk {n m : Nat} {x : V} {d : PyData} {xs : List V} {ds : List PyData} (h : Pk K H n x d) (hp : SqL K H a xs) (h' : PkAll K H m xs ds) (k : Q (.bl (inD d ds)) H) (l : n ≤ 64 := by decide) (l' : m ≤ 63 := by decide) : rInD K x (.ref a) H Q :=
  ⟨d, ds, h.1, .lst hp h'.1, shaped_of h.lay (Nat.le_trans h.2.2 l), shaped_of (lay_list h'.lay) (Nat.add_le_add_right (Nat.le_trans h'.2.2 l') 1), k⟩
theorem x_ninPk {n m : Nat} {x : V} {d : PyData} {xs : List V} {ds : List PyData} (h : Pk K H n x d) (hp : SqL K H a xs) (h' : PkAll K H m xs ds) (k : Q (.bl (!inD d ds)) H) (l : n ≤ 64 := by decide) (l' : m ≤ 63 := by decide) : rNotInD K x (.ref a) H Q :=
  ⟨d, ds, h.1, .lst hp h'.1, shaped_of h.lay (Nat.le_trans h.2.2 l), shaped_of (lay_list h'.lay) (Nat.add_le_add_right (Nat.le_trans h'.2.2 l') 1), k⟩
theorem x_inD {x : V} {d : PyData} {ds : List PyData} (h : Dp K H x d) (h' : Dp K H (.ref a) (.list ds)) (c : d.canLay0 = true) (n : d.depth ≤ 64) (c' : PyData.canLay0 (.list ds) = true) (n' : PyData.depth (.list ds) ≤ 64) (k : Q (.bl (inD d ds)) H) : rInD K x (.ref a) H Q :=
  ⟨d, ds, h, h', shaped_of c n, shaped_of c' n', k⟩
theorem x_ninD {x : V} {d : PyData} {ds : List PyData} (h : Dp K H x d) (h' : Dp K H (.ref a) (.list ds)) (c : d.canLay0 = true) (n : d.depth ≤ 64) (c' : PyData.canLay0 (.list ds) = true) (n' : PyData.depth (.list ds) ≤ 64) (k : Q (.bl (!inD d ds)) H) : rNotInD K x (.ref a) H Q :=
  ⟨d, ds, h, h', shaped_of c n, shaped_of c' n', k⟩
/-- a sign some times over -/
def repS (x : Str) (n : Int) : Str := if n < 1 then Str.empty else if (n == 1 || x.length == 0) = true then x else ⟨(List.replicate n.toNat x.cps).foldl (· ++ ·) #[]⟩
def nRepS : R2 := fun x y H Q => ∃ (z : Str) (n : Int), x = .str z ∧ y = .int n ∧ 0 ≤ n ∧ n ≤ 1000 ∧ z.length ≤ 100 ∧ Q (.str (repS z n)) H
theorem op_nRepS : OpR X (binaryOp .Mult) nRepS := by
  intro pins s σ H x y v u Q I rx ry h
  obtain ⟨z, n, rfl, rfl, h0, h1, h2, q⟩ := h
  obtain ⟨t, rfl⟩ := rx
  obtain ⟨t', rfl⟩ := ry
  have hlen : z.length * n.toNat ≤ 100000 := by
    have h3 : n.toNat ≤ 1000 := by omega
    calc z.length * n.toNat ≤ 100 * n.toNat := Nat.mul_le_mul_right _ h2
      _ ≤ 100000 := by omega
  refine PySem.P.mul_str ?_ ?_ ?_ ?_
  · rw [decide_eq_false (by omega), decide_eq_false (by omega)]
    rfl
  · intro h3 _ h4
    have h5 : (1000 : Int) ≤ (2 ^ 63 - 1) / n := by
      rw [Int.le_ediv_iff_mul_le (by omega)]
      omega
    omega
  · intro _ _
    exact decide_eq_false (by unfold sizeLine; omega)
  · unfold repS at q
    by_cases h3 : n < 1
    · rw [if_pos h3] at q ⊢
      exact ⟨by decide, .str Str.empty, H, I.tok _, ⟨_, rfl⟩, q⟩
    · rw [if_neg h3] at q ⊢
      by_cases h4 : (n == 1 || z.length == 0) = true
      · rw [if_pos h4] at q ⊢
        exact ⟨.str z, H, I, ⟨_, rfl⟩, q⟩
      · rw [if_neg h4] at q ⊢
        exact ⟨PySem.fits_reps (decide_eq_false (by unfold sizeLine; omega)), .str _, H, I.tok _, ⟨_, rfl⟩, q⟩
theorem x_nRepS {z : Str} {n : Int} (h : 0 ≤ n ∧ n ≤ 1000) (hz : z.length ≤ 100) (k : Q (.str (repS z n)) H) : nRepS (.str z) (.int n) H Q := ⟨z, n, rfl, rfl, h.1, h.2, hz, k⟩
/-- a range from its end -/
def rRevR (i : Nat) (tu : TS) (D : Ends) (σ : L2.St) : Int → Int → Hp → Prop := fun lo hi H => -(2 ^ 62) ≤ lo ∧ lo < 2 ^ 62 ∧ -(2 ^ 62) ≤ hi ∧ hi < 2 ^ 62 ∧ ∃ W : Nat → Nat → L2.St → Hp → Prop, (∃ m, W 0 m σ H) ∧ ∀ j m σ H, W j m σ H →
  ((Itc (lo + (((hi - lo).toNat : Nat) : Int) - 1) (-1) (hi - lo).toNat).stop j H ∧ D.nx σ H) ∨ ((Itc (lo + (((hi - lo).toNat : Nat) : Int) - 1) (-1) (hi - lo).toNat).go j H ∧ ∃ N : L2.St → Hp → Prop, (∀ σ' H', N σ' H' → ∃ m', m' < m ∧ W (j + 1) m' σ' H') ∧
    ∀ x H', (Itc (lo + (((hi - lo).toNat : Nat) : Int) - 1) (-1) (hi - lo).toNat).yld j H x H' → gName i x σ H' fun σ2 H2 => tu { D with nx := N, ct := N, bk := D.nx } σ2 H2)
theorem x_forRev1 {i : Nat} {tu : TS} {D : Ends} {σ : L2.St} {tr : L2.St → Hp → (Int → Int → Hp → Prop) → Prop} (q : tr σ H (rRevR i tu D σ)) : tFor (iRevR tr) (gName i) tu D σ H := q
theorem x_forRev {i : Nat} {tu : TS} {D : Ends} {σ : L2.St} {m : Int} (Pv : Nat → L2.St → Hp → Prop) (hm : 0 ≤ m ∧ m ≤ 100000) (p0 : Pv 0 σ H)
    (ps : ∀ (j : Nat) σ' H', (j : Int) < m → Pv j σ' H' → tu { D with nx := Pv (j + 1), ct := Pv (j + 1), bk := D.nx } (σ'.set i (some (.int (m - 1 - j)))) H') (pd : ∀ σ' H', Pv m.toNat σ' H' → D.nx σ' H') : rRevR i tu D σ 0 m H := by
  have e : (m - 0).toNat = m.toNat := by omega
  refine ⟨by omega, by omega, by omega, by omega, ?_⟩
  rw [e]
  refine for_rangeC (n := m.toNat) Pv p0 (fun j σ' H' hj p => ?_) pd
  have e0 : (0 : Int) + ((m.toNat : Nat) : Int) - 1 + (j : Nat) * (-1) = m - 1 - j := by omega
  show tu { D with nx := Pv (j + 1), ct := Pv (j + 1), bk := D.nx } (σ'.set i (some (.int ((0 : Int) + ((m.toNat : Nat) : Int) - 1 + (j : Nat) * (-1))))) H'
  rw [e0]
  exact ps j σ' H' (by omega) p
theorem cut_take {xs : List V} {k : Int} {n : Nat} (e : k = (n : Int)) : cutV xs none (some k) = xs.take n := by
  subst e
  unfold cutV
  rw [HT.sIx_nat, HT.sIx_none, List.drop_zero, Nat.sub_zero]
  by_cases h : n ≤ xs.length
  · rw [show min n xs.length = n by omega]
  · rw [show min n xs.length = xs.length by omega, List.take_length, List.take_of_length_le (by omega)]
theorem cut_drop {xs : List V} {k : Int} {n : Nat} (e : k = (n : Int)) : cutV xs (some k) none = xs.drop n := by
  subst e
  unfold cutV
  rw [HT.sIx_nat, HT.sIx_none]
  by_cases h : n ≤ xs.length
  · rw [show min n xs.length = n by omega, List.take_of_length_le (by rw [List.length_drop]; omega)]
  · rw [show min n xs.length = xs.length by omega, List.drop_length, List.drop_of_length_le (by omega)]
    simp
/-- range(lo, hi) -/
def rRange2 (n : Nat) (tu : TS) (D : Ends) (σ : L2.St) : List V → Hp → Prop := fun vs H => ∃ i j : Int, vs = [.int i, .int j] ∧ (-(2 ^ 62) ≤ i ∧ i < 2 ^ 62 ∧ -(2 ^ 62) ≤ j ∧ j < 2 ^ 62) ∧ ∃ W : Nat → Nat → L2.St → Hp → Prop, (∃ m, W 0 m σ H) ∧ ∀ k m σ H, W k m σ H →
  ((Itr i (j - i).toNat).stop k H ∧ D.nx σ H) ∨ ((Itr i (j - i).toNat).go k H ∧ ∃ N : L2.St → Hp → Prop, (∀ σ' H', N σ' H' → ∃ m', m' < m ∧ W (k + 1) m' σ' H') ∧ ∀ x H', (Itr i (j - i).toNat).yld k H x H' → gName n x σ H' fun σ2 H2 => tu { D with nx := N, ct := N, bk := D.nx } σ2 H2)
theorem x_forR2 {n : Nat} {tu : TS} {D : Ends} {σ : L2.St} {tr : TA} (q : tr σ H (rRange2 n tu D σ)) : tFor (iRng2 tr) (gName n) tu D σ H := q
theorem x_range2 {n : Nat} {tu : TS} {D : Ends} {σ : L2.St} {lo hi : Int} (Pv : Nat → L2.St → Hp → Prop) (hm : -1000000 ≤ lo ∧ lo ≤ 1000000 ∧ -1000000 ≤ hi ∧ hi ≤ 1000000) (p0 : Pv 0 σ H)
    (ps : ∀ (k : Nat) σ' H', lo + (k : Int) < hi → Pv k σ' H' → tu { D with nx := Pv (k + 1), ct := Pv (k + 1), bk := D.nx } (σ'.set n (some (.int (lo + (k : Int))))) H') (pd : ∀ σ' H', Pv (hi - lo).toNat σ' H' → D.nx σ' H') : rRange2 n tu D σ [.int lo, .int hi] H :=
  ⟨lo, hi, rfl, ⟨by omega, by omega, by omega, by omega⟩, for_range (lo := lo) (n := (hi - lo).toNat) Pv p0 (fun k σ' H' hk p => ps k σ' H' (by omega) p) pd⟩
theorem pk_ints {n : Nat} : ∀ ns : List Int, PkAll K H n (ns.map V.int) (ns.map PyData.int)
  | [] => pk_nil
  | m :: r => pk_cons pk_int (pk_ints r)
/-! dicts whose keys are texts -/
def rDG (x : V) (Q : VK) : VK := fun y H2 => ∃ (a : Addr) (v : V), x = .ref a ∧ DGet H2 a y (some v) ∧ Q v H2
theorem x_dget {td ty : TE} {σ : L2.St} (q : td σ H fun x H1 => ty σ H1 (rDG x Q)) : tDGet td ty σ H Q := q
theorem x_rDG {kvs : List (Key × V)} {k : Str} {v : V} (h : H a = some (.dK kvs)) (e : valV kvs (Sum.inr k) = some v) (q : Q v H) : rDG (.ref a) Q (.str k) H := ⟨a, v, rfl, by rw [← e]; exact (DGet.k (k := Sum.inr k) h : DGet H a (kV (Sum.inr k)) (valV kvs (Sum.inr k))), q⟩
def rDP (x v : V) (R : Hp → Prop) : VK := fun y H3 => ∃ (a : Addr) (H4 : Hp), x = .ref a ∧ DPut H3 a y v H4 ∧ R H4
theorem x_sdput {td ty tv : TE} {D : Ends} {σ : L2.St} {tz : TS} (q : tv σ H fun v H1 => td σ H1 fun x H2 => ty σ H2 (rDP x v fun H4 => tz D σ H4)) : tSeq (sDPut td ty tv) tz D σ H := q
theorem x_dput {td ty tv : TE} {D : Ends} {σ : L2.St} (q : tv σ H fun v H1 => td σ H1 fun x H2 => ty σ H2 (rDP x v fun H4 => D.nx σ H4)) : sDPut td ty tv D σ H := q
theorem x_rDP {kvs kvs' : List (Key × V)} {k : Str} {v : V} {R : Hp → Prop} (h : H a = some (.dK kvs)) (hl : kvs.length < 1000) (e : putK kvs (Sum.inr k) v = kvs') (q : R (upd H a (.dK kvs'))) : rDP (.ref a) v R (.str k) H :=
  ⟨a, upd H a (.dK (putK kvs (Sum.inr k) v)), rfl, (DPut.k (k := Sum.inr k) h (small1000 (Nat.le_of_lt hl)) : DPut H a (kV (Sum.inr k)) v _), by rw [e]; exact q⟩
theorem x_disp {trs : List (TE × TE)} {σ : L2.St} (q : ∀ p, Fr p H → tPairs trs σ (upd H p (.dK [])) fun ps H2 => H2 p = some (.dK []) ∧ ∃ kvs : List (Key × V), ps = kvs.map (fun kv => (kV kv.1, kv.2)) ∧ kvs.length ≤ 15 ∧ Q (.ref p) (upd H2 p (.dK (mergeK [] kvs)))) : tDisp trs σ H Q := fun p hp => q p ⟨hp⟩
theorem x_pcons {tk tv : TE} {r : List (TE × TE)} {σ : L2.St} {R : List (V × V) → Hp → Prop} (q : tk σ H fun x H1 => tv σ H1 fun y H2 => tPairs r σ H2 fun ps H3 => R ((x, y) :: ps) H3) : tPairs ((tk, tv) :: r) σ H R := q
theorem x_pnil {σ : L2.St} {R : List (V × V) → Hp → Prop} (q : R [] H) : tPairs [] σ H R := q
/-! lists of ints sorted where they stand -/
theorem x_rSortI {ns : List Int} (h : H a = some (.lst (ns.map V.int))) (k : ∀ ns' : List Int, ns'.Perm ns → ns'.Pairwise (· ≤ ·) → Q .non (upd H a (.lst (ns'.map V.int)))) : rSortI (.ref a) [] H Q := ⟨a, ns, rfl, rfl, h, k⟩
theorem srt_eq {xs ys : List Int} (p : xs.Perm ys) (h1 : xs.Pairwise (· ≤ ·)) (h2 : ys.Pairwise (· ≤ ·)) : xs = ys := p.eq_of_pairwise (fun x y _ _ h h' => Int.le_antisymm h h') h1 h2
/-! texts -/
def nInS : R2 := fun x y H Q => ∃ (c : Nat) (z : Str), x = .str ⟨#[c]⟩ ∧ y = .str z ∧ Q (.bl (decide (c ∈ z.cps.toList))) H
def nNotInS : R2 := fun x y H Q => ∃ (c : Nat) (z : Str), x = .str ⟨#[c]⟩ ∧ y = .str z ∧ Q (.bl (!decide (c ∈ z.cps.toList))) H
theorem op_nInS : OpR X (compareOp .In) nInS := op_in_sign
theorem op_nNotInS : OpR X (compareOp .NotIn) nNotInS := op_notIn_sign
theorem x_inS {c : Nat} {z : Str} (q : Q (.bl (decide (c ∈ z.cps.toList))) H) : nInS (.str ⟨#[c]⟩) (.str z) H Q := ⟨c, z, rfl, rfl, q⟩
theorem x_notInS {c : Nat} {z : Str} (q : Q (.bl (!decide (c ∈ z.cps.toList))) H) : nNotInS (.str ⟨#[c]⟩) (.str z) H Q := ⟨c, z, rfl, rfl, q⟩
def nAddS : R2 := fun x y H Q => ∃ i j : Str, x = .str i ∧ y = .str j ∧ i.length + j.length ≤ sizeLine ∧ Q (.str (i ++ j)) H
theorem op_nAddS : OpR X (binaryOp .Add) nAddS := op_add_str
theorem x_nAddS {i j : Str} (h : i.length + j.length ≤ 100000) (q : Q (.str (i ++ j)) H) : nAddS (.str i) (.str j) H Q := ⟨i, j, rfl, rfl, size_ok h, q⟩
def nLenS : List V → Hp → VK → Prop := fun xs H Q => ∃ z : Str, xs = [.str z] ∧ z.length ≤ sizeLine ∧ Q (.int z.length) H
theorem call_nLenS : CallR X (.builtin "len") nLenS := call_len_str
theorem x_nLenS {z : Str} (h : z.length ≤ 100000) (q : Q (.int z.length) H) : nLenS [.str z] H Q := ⟨z, rfl, size_ok h, q⟩
theorem x_slS {z : Str} {lo hi : Option Int} (h : z.length ≤ 100000) (q : Q (.str (cutS z lo hi)) H) : rSlS (.str z) lo hi H Q := ⟨z, rfl, size_ok h, q⟩
def rLcS (g : TG) (tt : TT) (te : TE) (vs : List Nat) (σ : L2.St) (Q : VK) : VK := fun x H1 => ∃ z, x = .str z ∧ RLc (Its z) g tt te vs σ Q H1
theorem x_lcS1 {g : TG} {t : TT} {te tx : TE} {vs : List Nat} {σ : L2.St} (q : tx σ H (rLcS g t te vs σ Q)) : tLc (iStr tx) g t te vs σ H Q := q
theorem x_lcS {g : TG} {t : TT} {te : TE} {vs : List Nat} {σ : L2.St} {z : Str} (Pv : Addr → Nat → Hp → Prop) (h0 : ∀ Dl, Fr Dl H → Pv Dl 0 (upd H Dl (.lst [])))
    (hs : ∀ Dl, Fr Dl H → ∀ i c H', z.cps.toList[i]? = some c → Pv Dl i H' → g (.str ⟨#[c]⟩) (wipe σ vs) H' fun σ2 H2 => wipe σ2 vs = wipe σ vs ∧ t σ2 H2 fun b H3 =>
      if b = true then te σ2 H3 fun y H4 => ∃ acc, H4 Dl = some (.lst acc) ∧ acc.length < sizeLine ∧ Pv Dl (i + 1) (upd H4 Dl (.lst (acc ++ [y]))) else Pv Dl (i + 1) H3)
    (hd : ∀ Dl H', Fr Dl H → Pv Dl z.length H' → Q (.ref Dl) H') : rLcS g t te vs σ Q (.str z) H := ⟨z, rfl, fun Dl hD =>
  lc_it walk_str (Pv Dl) (h0 Dl ⟨hD⟩) (fun _ _ _ _ => trivial) (fun i x H1 H' _ p y => by
    obtain ⟨rfl, c, hc, rfl⟩ := y
    exact hs Dl ⟨hD⟩ i c _ (by rw [← hc]; simp) p) (fun H' p => hd Dl H' ⟨hD⟩ p)⟩
/-! ### texts gone through, keys of a dict -/
def rForS (g : TG) (tu : TS) (D : Ends) (σ : L2.St) : VK := fun x H => ∃ z, x = .str z ∧ ∃ W : Nat → Nat → L2.St → Hp → Prop, (∃ m, W 0 m σ H) ∧ ∀ i m σ H, W i m σ H →
  ((Its z).stop i H ∧ D.nx σ H) ∨ ((Its z).go i H ∧ ∃ N : L2.St → Hp → Prop, (∀ σ' H', N σ' H' → ∃ m', m' < m ∧ W (i + 1) m' σ' H') ∧ ∀ x H', (Its z).yld i H x H' → g x σ H' fun σ2 H2 => tu { D with nx := N, ct := N, bk := D.nx } σ2 H2)
theorem x_forS1 {g : TG} {tu : TS} {D : Ends} {σ : L2.St} {te : TE} (q : te σ H (rForS g tu D σ)) : tFor (iStr te) g tu D σ H := q
theorem x_forS {g : TG} {tu : TS} {D : Ends} {σ : L2.St} {z : Str} (Pv : Nat → L2.St → Hp → Prop) (p0 : Pv 0 σ H)
    (ps : ∀ i c σ' H', z.cps.toList[i]? = some c → Pv i σ' H' → g (.str ⟨#[c]⟩) σ' H' fun σ2 H2 => tu { D with nx := Pv (i + 1), ct := Pv (i + 1), bk := D.nx } σ2 H2) (pd : ∀ σ' H', Pv z.length σ' H' → D.nx σ' H') : rForS g tu D σ (.str z) H :=
  ⟨z, rfl, for_it walk_str Pv p0 (fun _ _ _ _ _ => trivial) (fun i x σ H H' _ p y => by
    obtain ⟨rfl, c, hc, rfl⟩ := y
    exact ps i c _ _ (by rw [← hc]; simp) p) pd⟩
def nOrd : List V → Hp → VK → Prop := fun xs H Q => ∃ x : Str, xs = [.str x] ∧ x.length = 1 ∧ Q (.int (x.cps.getD 0 0 : Nat)) H
theorem k_ord {X : Cx} : CallR X (.builtin "ord") nOrd := call_ord
theorem x_ord {c : Nat} (q : Q (.int (c : Nat)) H) : nOrd [.str ⟨#[c]⟩] H Q := ⟨_, rfl, rfl, q⟩
/-- a list comprehension over a dict's keys -/
theorem x_lcK {g : TG} {t : TT} {te : TE} {vs : List Nat} {σ : L2.St} {a : Nat} {r : Addr} {kvs : List (Key × V)} (ea : σ[a]? = some (some (.ref r))) (hr : H r = some (.dK kvs))
    (q : ∀ od H0, H0 = upd H r (.frz od (.dK kvs)) → ∃ Pv : Addr → Nat → Hp → Prop, (∀ Dl, Fr Dl H0 → Pv Dl 0 (upd H0 Dl (.lst []))) ∧ (∀ Dl i H', Fr Dl H0 → Pv Dl i H' → H' r = some (.frz od (.dK kvs))) ∧
      (∀ Dl, Fr Dl H0 → ∀ i k v H', kvs[i]? = some (k, v) → Pv Dl i H' → g (kV k) (wipe σ vs) H' fun σ2 H2 => wipe σ2 vs = wipe σ vs ∧ t σ2 H2 fun b H3 =>
        if b = true then te σ2 H3 fun y H4 => ∃ acc, H4 Dl = some (.lst acc) ∧ acc.length < sizeLine ∧ Pv Dl (i + 1) (upd H4 Dl (.lst (acc ++ [y]))) else Pv Dl (i + 1) H3) ∧
      ∀ Dl H', Fr Dl H0 → Pv Dl kvs.length H' → Q (.ref Dl) (upd H' r (.dK kvs))) : tLockE (tLc (iKeys (tVar a)) g t te vs) σ H Q := by
  refine ⟨r, _, hr, trivial, fun od => ?_⟩
  obtain ⟨Pv, h0, h1, h2, h3⟩ := q od _ rfl
  refine ⟨.ref r, ea, r, od, rfl, .inl ⟨kvs, upd_same, fun Dl hD => ?_⟩⟩
  refine lc_it (walk_keys (o := od)) (Pv Dl) (h0 Dl ⟨hD⟩) (fun i H' _ p => h1 Dl i H' ⟨hD⟩ p) (fun i x H1 H' _ p y => ?_) fun H' p => ⟨h1 Dl _ H' ⟨hD⟩ p, h3 Dl H' ⟨hD⟩ p⟩
  obtain ⟨rfl, k, v, e, rfl⟩ := y
  exact h2 Dl ⟨hD⟩ i k v _ e p
/-- all signs of a text are so -/
def AllC (p : Nat → Bool) (s : Str) : Bool := s.cps.toList.all p
theorem toList_add (i j : Str) : (i ++ j).cps.toList = i.cps.toList ++ j.cps.toList := by
  show (i.cps ++ j.cps).toList = _
  simp
theorem len_add (i j : Str) : (i ++ j).length = i.length + j.length := by
  show (i.cps ++ j.cps).size = i.cps.size + j.cps.size
  simp
theorem allC_add {p : Nat → Bool} {i j : Str} (h : AllC p i = true) (h' : AllC p j = true) : AllC p (i ++ j) = true := by
  unfold AllC at *
  rw [toList_add, List.all_append, h, h']
  rfl
theorem allC_add_inv {p : Nat → Bool} {i j : Str} (h : AllC p (i ++ j) = true) : AllC p i = true ∧ AllC p j = true := by
  unfold AllC at *
  rw [toList_add, List.all_append, Bool.and_eq_true] at h
  exact h
theorem allC_cut {p : Nat → Bool} {z : Str} {lo hi : Option Int} (h : AllC p z = true) : AllC p (cutS z lo hi) = true := by
  unfold AllC at *
  rw [List.all_eq_true] at h ⊢
  intro c hc
  refine h c ?_
  unfold cutS at hc
  simp only at hc
  exact List.mem_of_mem_drop (List.mem_of_mem_take hc)
theorem len_cut (z : Str) (lo hi : Option Int) : (cutS z lo hi).length ≤ z.length := by
  show (cutS z lo hi).cps.size ≤ z.cps.size
  unfold cutS
  simp only [List.size_toArray, List.length_take, List.length_drop, Array.length_toList]
  have : z.length = z.cps.size := rfl
  omega
theorem allC_at {p : Nat → Bool} {z : Str} {i : Nat} {c : Nat} (h : AllC p z = true) (e : z.cps.toList[i]? = some c) : AllC p ⟨#[c]⟩ = true := by
  unfold AllC at *
  rw [List.all_eq_true] at h
  have := h c (List.mem_of_getElem? e)
  simp [this]
theorem allC_mono {p q : Nat → Bool} {s : Str} (h : AllC p s = true) (f : ∀ c, p c = true → q c = true) : AllC q s = true := by
  unfold AllC at *
  rw [List.all_eq_true] at h ⊢
  exact fun c hc => f c (h c hc)
def okC : Nat → Bool := fun c => decide (c < 0x110000)
theorem lay_str {s : Str} (h : AllC okC s = true) : PyData.canLay0 (.str s) = true := by
  have h2 : s.cps.all (fun c => decide (c < 0x110000)) = true := by
    rw [← Array.all_toList]
    exact h
  simpa only [PyData.canLay0, PyData.strOk] using h2
/-! tuples some times over -/
theorem tup_times1 (l : Addr) (items : Array Value) (n : Nat) (dd : Option Addr) (sl : Array (Option Value)) (u : Tok) :
    Meets (Builtin.«tuple.__mul__» ⟨[.ref l, .int 1 u], []⟩) (fun _ R s => s.heap.get? l = some { cls := .type "tuple", dict := dd, data := .seq items n, slots := sl } ∧ R (.ok (.ret (.ref l))) s) :=
  .of_wp fun prog w A R s h => by
    obtain ⟨hp, g, d, tk, os⟩ := s
    obtain ⟨hl, h⟩ := h
    have f1 := AutoSeq1.idx_int
    wp_walk using wpAny_loadPart' hl
    exact ⟨_, rfl, h⟩
def nRepT (K : PySem.W.Frag) : R2 := fun x y H Q => ∃ (l : Addr) (k : Int) (xs : List V), x = .ref l ∧ y = .int k ∧ SqT K H l xs ∧ xs ≠ [] ∧ xs.length ≤ 1000 ∧ ((k = 1 ∧ Q (.ref l) H) ∨ (2 ≤ k ∧ k ≤ 1000 ∧ ∀ p, H p = none → Q (.ref p) (upd H p (.tup (List.replicate k.toNat xs).flatten))))
theorem op_nRepT : OpR X (binaryOp .Mult) (nRepT X.K) := by
  intro pins s σ H x y v u Q I rx ry h
  obtain ⟨l, k, xs, rfl, rfl, hT, hne, hz, q⟩ := h
  rcases q with ⟨rfl, q⟩ | ⟨h1, h2, q⟩
  · cases rx
    obtain ⟨t, rfl⟩ := ry
    obtain ⟨its, r, ⟨⟨cls, dd, data, sl⟩, ho, hc, n, hd⟩, hs⟩ := I.tuple hT
    simp only at hc hd
    subst hc hd
    exact wpAny_binaryOp_repeat_ref (T := "tuple") (U := "int") (by decide) ⟨_, ho, rfl⟩ (fun s' => typeIs_int s' 1 t) noFill_tuple_mul PySem.F.fills_int_mul PySem.F.slot_int_rmul repeat_tuple PySem.F.slot_int_index.lookup
      (call_meets PySem.F.slot_int_rmul (typeIs_int s 1 t) PySem.F.entry_int_rmul (PySem.F.args_int_rmul_2 _ _) (int_rmul_tuple 1 t l its.toArray n dd sl)
        ⟨ho, rfl, ⟨_, ho, rfl⟩, call_meets PySem.F.slot_tuple_mul ⟨_, ho, rfl⟩ PySem.F.entry_tuple_mul (PySem.F.args_tuple_mul_2 _ _) (tup_times1 l its.toArray n dd sl t) ⟨ho, ⟨.ref l, H, I, rfl, q⟩⟩⟩)
  · exact op_repT pins s σ H _ _ v u Q I rx ry ⟨l, k, xs, rfl, rfl, hT, hne, h1, h2, hz, q⟩
theorem k_repT (e : X.K = K) : OpR X (binaryOp .Mult) (nRepT K) := e ▸ op_nRepT
/-! more of dicts -/
def rGet1 (R : VK) (a : Addr) : VK := fun y H2 => ∃ o, DGet H2 a y o ∧ R (o.getD .non) H2
def rGetD (x : V) (ty : TE) (σ : L2.St) (Q : VK) : Hp → Prop := fun H1 => ∃ a, x = .ref a ∧ IsD H1 a ∧ ty σ H1 (rGet1 Q a)
theorem x_dget1 {td ty : TE} {σ : L2.St} (q : td σ H fun x H1 => rGetD x ty σ Q H1) : tDGet1 td ty σ H Q := q
theorem x_rGetD {ty : TE} {σ : L2.St} {kvs : List (Key × V)} (h : H a = some (.dK kvs)) (q : ty σ H (rGet1 Q a)) : rGetD (.ref a) ty σ Q H := ⟨a, rfl, .inl ⟨kvs, .inl h⟩, q⟩
theorem x_rGet1 {kvs : List (Key × V)} {k : Str} (h : H a = some (.dK kvs)) (q : Q ((valV kvs (Sum.inr k)).getD .non) H) : rGet1 Q a (.str k) H := ⟨_, (DGet.k (k := Sum.inr k) h : DGet H a (kV (Sum.inr k)) (valV kvs (Sum.inr k))), q⟩
def rGet2 (R : VK) (a : Addr) (y z : V) : Hp → Prop := fun H3 => ∃ o, DGet H3 a y o ∧ R (o.getD z) H3
def rGetE (x : V) (ty tx : TE) (σ : L2.St) (Q : VK) : Hp → Prop := fun H1 => ∃ a, x = .ref a ∧ IsD H1 a ∧ ty σ H1 fun y H2 => tx σ H2 fun z H3 => rGet2 Q a y z H3
theorem x_dget2 {td ty tx : TE} {σ : L2.St} (q : td σ H fun x H1 => rGetE x ty tx σ Q H1) : tDGet2 td ty tx σ H Q := q
theorem x_rGetE {ty tx : TE} {σ : L2.St} {kvs : List (Key × V)} (h : H a = some (.dK kvs)) (q : ty σ H fun y H2 => tx σ H2 fun z H3 => rGet2 Q a y z H3) : rGetE (.ref a) ty tx σ Q H := ⟨a, rfl, .inl ⟨kvs, .inl h⟩, q⟩
theorem x_rGet2 {kvs : List (Key × V)} {k : Str} {z : V} (h : H a = some (.dK kvs)) (q : Q ((valV kvs (Sum.inr k)).getD z) H) : rGet2 Q a (.str k) z H := ⟨_, (DGet.k (k := Sum.inr k) h : DGet H a (kV (Sum.inr k)) (valV kvs (Sum.inr k))), q⟩
def rPop1 (R : VK) (a : Addr) : VK := fun y H2 => ∃ (kvs : List (Key × V)) (k : Key) (v : V), H2 a = some (.dK kvs) ∧ y = kV k ∧ valV kvs k = some v ∧ R v (upd H2 a (.dK (dropK kvs k)))
def rPopD (x : V) (ty : TE) (σ : L2.St) (Q : VK) : Hp → Prop := fun H1 => ∃ a, x = .ref a ∧ IsD H1 a ∧ ty σ H1 (rPop1 Q a)
theorem x_dpop1 {td ty : TE} {σ : L2.St} (q : td σ H fun x H1 => rPopD x ty σ Q H1) : tDPop1 td ty σ H Q := q
theorem x_rPopD {ty : TE} {σ : L2.St} {kvs : List (Key × V)} (h : H a = some (.dK kvs)) (q : ty σ H (rPop1 Q a)) : rPopD (.ref a) ty σ Q H := ⟨a, rfl, .inl ⟨kvs, .inl h⟩, q⟩
theorem x_rPop1 {kvs : List (Key × V)} {k : Str} {v : V} (h : H a = some (.dK kvs)) (e : valV kvs (Sum.inr k) = some v) (q : Q v (upd H a (.dK (dropK kvs (Sum.inr k))))) : rPop1 Q a (.str k) H := ⟨kvs, Sum.inr k, v, h, rfl, e, q⟩
def rPop2 (R : VK) (a : Addr) (y z : V) : Hp → Prop := fun H3 => ∃ (kvs : List (Key × V)) (k : Key), H3 a = some (.dK kvs) ∧ y = kV k ∧ (∀ v, valV kvs k = some v → R v (upd H3 a (.dK (dropK kvs k)))) ∧ (valV kvs k = none → R z H3)
def rPopE (x : V) (ty tx : TE) (σ : L2.St) (Q : VK) : Hp → Prop := fun H1 => ∃ a, x = .ref a ∧ IsD H1 a ∧ ty σ H1 fun y H2 => tx σ H2 fun z H3 => rPop2 Q a y z H3
theorem x_dpop2 {td ty tx : TE} {σ : L2.St} (q : td σ H fun x H1 => rPopE x ty tx σ Q H1) : tDPop2 td ty tx σ H Q := q
theorem x_rPopE {ty tx : TE} {σ : L2.St} {kvs : List (Key × V)} (h : H a = some (.dK kvs)) (q : ty σ H fun y H2 => tx σ H2 fun z H3 => rPop2 Q a y z H3) : rPopE (.ref a) ty tx σ Q H := ⟨a, rfl, .inl ⟨kvs, .inl h⟩, q⟩
theorem x_rPop2 {kvs : List (Key × V)} {k : Str} {z : V} (h : H a = some (.dK kvs)) (q1 : ∀ v, valV kvs (Sum.inr k) = some v → Q v (upd H a (.dK (dropK kvs (Sum.inr k))))) (q2 : valV kvs (Sum.inr k) = none → Q z H) : rPop2 Q a (.str k) z H := ⟨kvs, Sum.inr k, h, rfl, q1, q2⟩
def rDInK (y : V) (Q : VK) : VK := fun x H2 => ∃ a o, x = .ref a ∧ DGet H2 a y o ∧ Q (.bl o.isSome) H2
theorem x_din {ty td : TE} {σ : L2.St} (q : ty σ H fun y H1 => td σ H1 (rDInK y Q)) : tDIn ty td σ H Q := q
theorem x_rDInK {kvs : List (Key × V)} {k : Str} (h : H a = some (.dK kvs)) (q : Q (.bl (valV kvs (Sum.inr k)).isSome) H) : rDInK (.str k) Q (.ref a) H := ⟨a, _, rfl, (DGet.k (k := Sum.inr k) h : DGet H a (kV (Sum.inr k)) (valV kvs (Sum.inr k))), q⟩
theorem x_dnew {σ : L2.St} (k : ∀ p H2, Fr p H → Same H H2 → H2 p = some (.dK []) → Q (.ref p) H2) : tDNewK σ H Q := fun p hp => k p _ ⟨hp⟩ (same_new hp) upd_same
theorem x_notBl {b c : Bool} (q : Q (.bl (!decide (b = c))) H) : rNotB (.bl b) (.bl c) H Q := ⟨b, c, rfl, rfl, q⟩
theorem x_isBl {b c : Bool} (q : Q (.bl (decide (b = c))) H) : rIsB (.bl b) (.bl c) H Q := ⟨b, c, rfl, rfl, q⟩
theorem cut_whole {xs : List V} {lo hi : Option Int} (h : HT.sIx xs.length 0 lo = 0 ∧ HT.sIx xs.length xs.length hi = xs.length) : cutV xs lo hi = xs := by
  unfold cutV
  rw [h.1, h.2]
  simp
theorem x_slA {xs : List V} {lo hi : Option Int} (h : H a = some (.tup xs)) (k : ∀ p H', Same H H' → H' p = some (.tup (cutV xs lo hi)) → Q (.ref p) H') : rSlA K (.ref a) lo hi H Q :=
  ⟨a, xs, rfl, st_of h, fun e => k a H (Same.refl _) (by rw [cut_whole e]; exact h), fun _ p hp => k p _ (same_new hp) upd_same⟩
theorem x_catB {xs ys : List V} (h : H a = some (.tup xs)) (h' : H b = some (.tup ys)) (hz : xs.length + ys.length ≤ 100000) (k : ∀ p H', Same H H' → H' p = some (.tup (xs ++ ys)) → Q (.ref p) H') : rCatA K (.ref a) (.ref b) H Q :=
  ⟨a, b, xs, ys, rfl, rfl, st_of h, st_of h', size_ok hz, fun e => k b H (Same.refl _) (by rw [e]; exact h'), fun _ e => k a H (Same.refl _) (by rw [e, List.append_nil]; exact h), fun _ _ p hp => k p _ (same_new hp) upd_same⟩
theorem x_repB {xs : List V} {n : Int} (h : H a = some (.tup xs)) (hne : xs ≠ []) (hz : xs.length ≤ 1000) (hn : 1 ≤ n ∧ n ≤ 1000) (k : ∀ p H', Same H H' → H' p = some (.tup (List.replicate n.toNat xs).flatten) → Q (.ref p) H') : nRepT K (.ref a) (.int n) H Q := by
  refine ⟨a, n, xs, rfl, rfl, st_of h, hne, hz, ?_⟩
  by_cases e : n = 1
  · subst e
    refine .inl ⟨rfl, k a H (Same.refl _) ?_⟩
    rw [h]
    simp
  · exact .inr ⟨by omega, hn.2, fun p hp => k p _ (same_new hp) upd_same⟩
theorem repS_len {z : Str} {n : Int} (h : 2 ≤ n) (hz : 1 ≤ z.length) : (repS z n).length = n.toNat * z.length := by
  unfold repS
  rw [if_neg (by omega), if_neg]
  · show ((List.replicate n.toNat z.cps).foldl (· ++ ·) #[]).size = _
    rw [PySem.size_reps]
    show 0 + n.toNat * z.cps.size = n.toNat * z.length
    rw [Nat.zero_add]
    rfl
  · rw [Bool.or_eq_true, beq_iff_eq, beq_iff_eq]
    omega
end
/-- a def with defaults that lets nothing out -/
theorem okD {P : Program} {w : World} {K : PySem.W.Frag} {mg : Str → Option Value} {base : Heap} {x qual : Str} {pr : Arguments} {body : List Stmt} {sc : Scope} {dvs : List V} {kws : List (Str × V)} {f : Addr} {fd : FuncData} {N ps : List Str} {k : Nat} {sp : Sp}
    (F : FunD K x qual pr body sc dvs kws f fd) (S : FnScope N ps sc) (len : ∀ vs H Q E, sp vs H Q E → vs.length = ps.length)
    (hb : ∀ (cdv : Value) (A : Around) (outer : List Env) (s : Shared) (H : Hp) (vs : List V) (Q : VK) (E : XK), Room k (A.deeper (envOfC qual sc s.heap.objs.size f cdv)) → sp vs H Q E →
      ∃ t, PSs (cxOf CX0 P w K mg base N qual sc f cdv A outer s H E).nox body t ∧ t { nx := fun _ H' => Q .non H', rt := Q } (start N vs) H) : FnOk P w K mg base CX0 (k + 1) f fd ps sp :=
  F.ok S len fun cdv A outer s H vs Q E hr h => by
    obtain ⟨t, h1, q⟩ := hb cdv A outer s H vs Q E hr h
    exact ⟨t, h1.nox, q⟩
theorem funD_mk {K : PySem.W.Frag} {x qual : Str} {st : Stmt} {f dT : Addr} {oc : Value} {od an : Option Addr} {osl : Array (Option Value)} {kV doc pm cdv ct : Value} {dvs : List V} {o : Obj} {its : List Value} {n : Nat}
    (l : K.lookup f = some ⟨oc, od, .func (PySem.W.fnOf x qual (defArgs st) (defBody st) (defScope st) (.ref dT) kV doc pm an cdv ct), osl⟩) (c : PySem.W.codeIn K cdv qual = true) (k : PySem.W.keepIn K (.ref f) = true)
    (hd : dvs ≠ []) (lT : K.lookup dT = some o) (oT : o.data = .seq its.toArray n) (r : Vals dvs its) :
    FunD K x qual (defArgs st) (defBody st) (defScope st) dvs [] f (PySem.W.fnOf x qual (defArgs st) (defBody st) (defScope st) (.ref dT) kV doc pm an cdv ct) :=
  ⟨⟨oc, od, .ref dT, kV, doc, pm, an, cdv, ct, osl, rfl, l, c, .inr ⟨hd, dT, o, its, n, rfl, lT, oT, r⟩, .inl rfl⟩, k⟩
/-- dict(d) -/
def rDictD (xs : List V) (H : Hp) (Q : VK) : Prop := ∃ (a : Addr) (kvs : List (Key × V)), xs = [.ref a] ∧ Rd H a (.dK kvs) ∧ ∀ p, H p = none → Q (.ref p) (upd H p (.dK kvs))
theorem k_dictD {X : Cx} : CallR X (.type "dict") rDictD := call_dictD
theorem x_rDictD {a : Addr} {H : Hp} {Q : VK} {kvs : List (Key × V)} (h : H a = some (.dK kvs)) (k : ∀ p H2, Fr p H → Same H H2 → H2 p = some (.dK kvs) → Q (.ref p) H2) : rDictD [.ref a] H Q := ⟨a, kvs, rfl, .inl h, x_new1 k⟩
end Xk
/-! zip of a tuple and a list -/
namespace Xk
open PySem PySem.Spec PyProof.Rows L2
/-- a tuple at p and a list at q, side by side -/
def ItTL (K : PySem.W.Frag) (p q : Addr) : It where
  go := fun n H => ∃ (us vs : List V) (u v : V), SqT K H p us ∧ SqL K H q vs ∧ us[n]? = some u ∧ vs[n]? = some v
  yld := fun n H r H' => ∃ T u v, r = .ref T ∧ H T = none ∧ H' = upd H T (.tup [u, v]) ∧ (∀ us, SqT K H p us → us[n]? = some u) ∧ ∀ vs, SqL K H q vs → vs[n]? = some v
  stop := fun n H => ∃ us vs : List V, SqT K H p us ∧ SqL K H q vs ∧ n ≤ us.length ∧ n ≤ vs.length ∧ (n = us.length ∨ n = vs.length)
/-- what stands behind such an iterator -/
def AtTL (z t o i j p q : Addr) (n : Nat) (h : Heap) : Prop :=
  IsZip h z t o .none ∧ IsPair h t (.ref i) (.ref j) ∧ (∃ u v, IsPair h o u v) ∧ h.IsTupleIter i p n ∧ h.IsListIter j q n
theorem sepTL {z t o i j p q : Addr} (D : ZipApart z t o i j p q) : ZipSep2 z t o i j [i, p] [j, q] where
  TIz := D.TIz
  TOz := D.TOz
  TITO := D.TITO
  TIi1 := D.TIi1
  mem1 := List.mem_cons_self
  zf1 := by simp [D.i1z.symm, D.l1z.symm]
  Tf1 := by simp [D.TOi1, D.l1TO.symm]
  TIi2 := D.TIi2
  mem2 := List.mem_cons_self
  zf2 := by simp [D.i2z.symm, D.l2z.symm]
  Tf2 := by simp [D.TOi2, D.l2TO.symm]
  sep1_2 := by simp [D.i12, D.l2i1.symm]
  sep2_1 := by simp [D.i12.symm, D.l1i2.symm]
theorem five {c z t o i j : Addr} {P : Addr → Prop} (h : c ∈ [z, t, o, i, j]) (h1 : P z) (h2 : P t) (h3 : P o) (h4 : P i) (h5 : P j) : P c := by
  simp only [List.mem_cons, List.not_mem_nil, or_false] at h
  rcases h with rfl | rfl | rfl | rfl | rfl <;> assumption
theorem turnTL {P : Program} {w : World} {K : PySem.W.Frag} {es : List Expr} {k : Nat} {pos : Pos} {z t o i j p q : Addr} (D : ZipApart z t o i j p q) :
    Turn P w K (.Tuple es k pos) (ItTL K p q) [z, t, o, i, j] z (AtTL z t o i j p q) where
  mem := List.mem_cons_self
  obj := fun n h st c hc => by
    obtain ⟨g1, g2, ⟨u, v, g3⟩, ⟨o1, e1, _, d1⟩, ⟨o2, e2, _, d2⟩⟩ := st
    refine five (P := fun c => ∃ ob, h.get? c = some ob ∧ ∀ v, ob.data ≠ .cell v) hc ⟨_, g1, fun _ e => nomatch e⟩ ⟨_, g2, fun _ e => nomatch e⟩ ⟨_, g3, fun _ e => nomatch e⟩ ⟨o1, e1, fun x e => ?_⟩ ⟨o2, e2, fun x e => ?_⟩
    · rw [d1] at e
      cases e
    · rw [d2] at e
      cases e
  keep := fun n h h' st g => by
    obtain ⟨g1, g2, ⟨u, v, g3⟩, g4, g5⟩ := st
    exact ⟨g z (by simp) _ g1, g t (by simp) _ g2, ⟨u, v, g o (by simp) _ g3⟩, g4.at fun ob e => g i (by simp) ob e, g5.at fun ob e => g j (by simp) ob e⟩
  item := by
    intro X hP hw hK hc n pins s σ H E I hf st hg
    subst hP hw hK
    obtain ⟨g1, g2, ⟨u0, v0, g3⟩, g4, g5⟩ := st
    obtain ⟨us, vs, u, v, hus, hvs, hu, hv⟩ := hg
    obtain ⟨its, r1, p1, _⟩ := I.tuple hus
    obtain ⟨its2, r2, p2, _⟩ := I.list hvs
    obtain ⟨x, hx, rx⟩ := r1.get hu
    obtain ⟨y, hy, ry⟩ := r2.get hv
    have lt1 : n < its.toArray.size := by
      obtain ⟨b, _⟩ := List.getElem?_eq_some_iff.mp hx
      simpa using b
    have lt2 : n < its2.toArray.size := by
      obtain ⟨b, _⟩ := List.getElem?_eq_some_iff.mp hy
      simpa using b
    have hzl : z < s.heap.objs.size := Heap.lt_size g1
    have hh : X.A.in1.handled = none := I.ok.hd hc
    refine wpAny_pyNext_zipD2_item (sepTL D) (Draws.tuple hh i p D.l1i1 its.toArray) (Draws.list hh j q D.l2i2 its2.toArray) g1 g2 g3 ⟨g4, p1⟩ ⟨g5, p2.isList⟩ lt1 lt2 fun x1 y1 h' tk q1 q2 z' o' st1 st2 hT hsz hk => ?_
    have ex : x1 = x := by
      have e2 : its[n]? = some x1 := by simpa using q1
      exact Option.some.inj (e2.symm.trans hx)
    have ey : y1 = y := by
      have e2 : its2[n]? = some y1 := by simpa using q2
      exact Option.some.inj (e2.symm.trans hy)
    subst ex ey
    refine ⟨_, rfl, wpAny_letOwnedTupleGo_zip (s := { s with heap := h', toks := tk }) z' fun h2 z2 sb => ?_⟩
    have hT2 : h2.get? s.heap.objs.size = some { cls := .type "tuple", data := .seq #[x1, y1] } := (sb.2 _ (Nat.ne_of_gt hzl)).trans hT
    have new : ObjOk X.prog X.w (upd H s.heap.objs.size (.tup [u, v])) h2 s.heap.objs.size (.tup [u, v]) :=
      ⟨by show 2 ≤ sizeLine; decide, [x1, y1], .cons rx (.cons ry .nil), ⟨_, hT2, rfl, _, rfl⟩⟩
    have kept : ∀ c ob, c ∉ [z, t, o, i, j] → s.heap.get? c = some ob → h2.get? c = some ob := fun c ob nc e => by
      simp only [List.mem_cons, List.not_mem_nil, or_false, not_or] at nc
      exact (sb.2 c nc.1).trans (hk c ob nc.1 nc.2.2.1 nc.2.2.2.1 nc.2.2.2.2 e)
    have I1 : Inv X pins σ (upd H s.heap.objs.size (.tup [u, v])) { s with heap := h2, toks := tk } :=
      I.turnedNew (t' := tk) (ch := [z, t, o, i, j]) kept hf (Nat.le_refl _) new
    refine ⟨.ref s.heap.objs.size, _, I1, rfl, ⟨_, u, v, rfl, I.hok.fresh (Nat.le_refl _), rfl, fun l hl => ?_, fun l hl => ?_⟩, ⟨z2, ?_, ⟨x1, y1, ?_⟩, ?_, ?_⟩, fun c hcm => ?_⟩
    · rw [I.tuple_inj hl hus]
      exact hu
    · rw [I.list_inj hl hvs]
      exact hv
    · exact (sb.2 _ D.TIz).trans (hk t _ D.TIz D.TITO D.TIi1 D.TIi2 g2)
    · exact (sb.2 _ D.TOz).trans o'
    · exact st1.1.at fun ob e => (sb.2 _ D.i1z).trans e
    · exact st2.1.at fun ob e => (sb.2 _ D.i2z).trans e
    · have lt : c < s.heap.objs.size := by
        refine five (P := fun c => c < s.heap.objs.size) hcm hzl (Heap.lt_size g2) (Heap.lt_size g3) ?_ ?_
        · obtain ⟨_, e1, _⟩ := g4
          exact Heap.lt_size e1
        · obtain ⟨_, e1, _⟩ := g5
          exact Heap.lt_size e1
      rw [upd_ne (Nat.ne_of_lt lt)]
      exact (hf c hcm).1
  done := by
    intro X hP hw hK hc n pins s σ H E I hf st hg
    subst hP hw hK
    obtain ⟨g1, g2, ⟨u0, v0, g3⟩, g4, g5⟩ := st
    obtain ⟨us, vs, hus, hvs, le1, le2, hend⟩ := hg
    obtain ⟨its, r1, p1, _⟩ := I.tuple hus
    obtain ⟨its2, r2, p2, _⟩ := I.list hvs
    have l1 : its.toArray.size = us.length := by rw [List.size_toArray, r1.length]
    have l2 : its2.toArray.size = vs.length := by rw [List.size_toArray, r2.length]
    have hh : X.A.in1.handled = none := I.ok.hd hc
    exact wpAny_pyNext_zipD2_end (sepTL D) (Draws.tuple hh i p D.l1i1 its.toArray) (Draws.list hh j q D.l2i2 its2.toArray) g1 g2 g3 ⟨g4, p1⟩ ⟨g5, p2.isList⟩ (by omega) (by omega) (by omega) fun h' tk hk =>
      ⟨rfl, I.turnedL (t' := tk) (ch := [z, t, o, i, j]) (fun c ob nc e => by
        simp only [List.mem_cons, List.not_mem_nil, or_false, not_or] at nc
        exact hk c ob nc.1 nc.2.2.1 nc.2.2.2.1 nc.2.2.2.2 e) hf⟩
  self := fun A n s Q E st h => wpAny_pyIter_zip st.1 h
/-- zip(e, e2), e a tuple and e2 a list -/
def iTL (K : PySem.W.Frag) (ta : TA) : TI := fun σ H R => ta σ H fun vs H1 => ∃ p q us ws, vs = [.ref p, .ref q] ∧ SqT K H1 p us ∧ SqL K H1 q ws ∧ R (ItTL K p q) H1
theorem pi_TL {X : Cx} {e e2 : Expr} {ta : TA} {p1 pos tpos : Pos} {es : List Expr} {k : Nat} (hg : Gl X "zip") (hm : X.mg "zip" = none) (ha : PA X [e, e2] ta)
    (hs : starEach [e, e2] X.env = (false, eval e X.env) :: starEach [e2] X.env := by rfl) (hpl : (backTo pos (starEach [e2] X.env)).any (·.1) = false := by rfl) :
    PI X (.Tuple es k tpos) (.Call (.Name "zip" p1) [e, e2] [] pos) (iTL X.K ta) := by
  refine ⟨fun pins s σ H R I h => Call_ (ld_blt I hg hm PyProof.Rows.boot_zip (PyProof.Rows.callWith_type1 (thn (ha.run pos pins s σ H _ I h) fun us s1 ⟨vs, H1, I1, r1, q1⟩ => ?_) hs hpl))⟩
  obtain ⟨p, q, xs, ys, rfl, hx, hy, g⟩ := q1
  have e3 : us = [.ref p, .ref q] := by
    cases r1 with
    | cons a b =>
      cases b with
      | cons c d =>
        cases d
        cases a
        cases c
        rfl
  subst e3
  obtain ⟨its, rx, px, _⟩ := I1.tuple hx
  obtain ⟨its2, ry, py, _⟩ := I1.list hy
  have lp : p < s1.heap.objs.size := by
    obtain ⟨_, e1, _⟩ := id px
    exact Heap.lt_size e1
  refine zip_begins2 (begins_tuple p its.toArray) (begins_list q its2.toArray) px py.isList fun h' hz hTI hTO h1 h2 hsz hk => wpAny_pyIter_zip hz ?_
  have I2 : Inv X pins σ H1 { s1 with heap := h' } := I1.kept (t' := s1.toks) hk
  refine ⟨s1.heap.objs.size + 4, [s1.heap.objs.size + 4, s1.heap.objs.size + 2, s1.heap.objs.size + 3, s1.heap.objs.size, s1.heap.objs.size + 1], _, _, H1, rfl, I2,
    turnTL (PySem.W.ktu_apart s1.heap.objs.size p q lp py.lt), ⟨hz, hTI, ⟨_, _, hTO⟩, ⟨_, h1, rfl, rfl⟩, ⟨_, h2, rfl, rfl⟩⟩, fun c hcm => ?_, g⟩
  have le : s1.heap.objs.size ≤ c := five (P := fun c => s1.heap.objs.size ≤ c) hcm (Nat.le_add_right _ _) (Nat.le_add_right _ _) (Nat.le_add_right _ _) (Nat.le_refl _) (Nat.le_add_right _ _)
  exact I1.fpOk le (I1.hok.fresh le)
/-- a comprehension over it -/
theorem walkTL {K : PySem.W.Frag} {p q : Addr} {us vs : List V} (e : us.length = vs.length) : Walk (ItTL K p q) us.length (fun H => SqT K H p us ∧ SqL K H q vs) (YPair (fun n => us[n]?) (fun n => vs[n]?)) := by
  refine ⟨fun n _ hn g => ?_, fun _ g => ⟨us, vs, g.1, g.2, Nat.le_refl _, by omega, .inl rfl⟩, fun n H v H' _ g y => ?_⟩
  · have h2 : n < vs.length := by omega
    exact ⟨us, vs, us[n], vs[n], g.1, g.2, List.getElem?_eq_getElem hn, List.getElem?_eq_getElem h2⟩
  · obtain ⟨T, x, z, h1, h2, h3, h4, h5⟩ := y
    exact ⟨T, x, z, h1, h2, h3, h4 us g.1, h5 vs g.2⟩
end Xk
section
open PySem PySem.Spec PyProof.Rows L2
namespace Xk
variable {K : PySem.W.Frag} {σ : L2.St} {H : Hp} {Q : VK} {te : TE} {g : TG} {t : TT} {X : Cx}
theorem k_TL {e e2 : Expr} {ta : TA} {p1 pos tpos : Pos} {es : List Expr} {k : Nat} (hk : X.K = K) (hg : Gl X "zip") (hm : X.mg "zip" = none) (ha : PA X [e, e2] ta)
    (hs : starEach [e, e2] X.env = (false, eval e X.env) :: starEach [e2] X.env := by rfl) (hpl : (backTo pos (starEach [e2] X.env)).any (·.1) = false := by rfl) :
    PI X (.Tuple es k tpos) (.Call (.Name "zip" p1) [e, e2] [] pos) (iTL K ta) := hk ▸ pi_TL hg hm ha hs hpl
def rLcZ (K : PySem.W.Frag) (g : TG) (tt : TT) (te : TE) (vs : List Nat) (σ : L2.St) (Q : VK) : List V → Hp → Prop := fun zs H1 => ∃ p q us ws, zs = [.ref p, .ref q] ∧ SqT K H1 p us ∧ SqL K H1 q ws ∧ RLc (ItTL K p q) g tt te vs σ Q H1
theorem x_lcZ1 {tr : TA} {vs : List Nat} (q : tr σ H (rLcZ K g t te vs σ Q)) : tLc (iTL K tr) g t te vs σ H Q := q
theorem x_lcZ {a b : Addr} {us ws : List V} {vs : List Nat} (Pv : Addr → Nat → Hp → Prop) (e : us.length = ws.length) (hx : SqT K H a us) (hy : SqL K H b ws) (h0 : ∀ Dl, Fr Dl H → Pv Dl 0 (upd H Dl (.lst [])))
    (hl : ∀ Dl i H', Fr Dl H → Pv Dl i H' → SqT K H' a us ∧ SqL K H' b ws)
    (hs : ∀ Dl, Fr Dl H → ∀ i x y H1 T H', us[i]? = some x → ws[i]? = some y → Pv Dl i H1 → Fr T H1 → Same H1 H' → H' T = some (.tup [x, y]) → g (.ref T) (wipe σ vs) H' fun σ2 H2 => wipe σ2 vs = wipe σ vs ∧ t σ2 H2 fun c H3 =>
      if c = true then te σ2 H3 fun y H4 => ∃ acc, H4 Dl = some (.lst acc) ∧ acc.length < sizeLine ∧ Pv Dl (i + 1) (upd H4 Dl (.lst (acc ++ [y]))) else Pv Dl (i + 1) H3)
    (hd : ∀ Dl H', Fr Dl H → Pv Dl us.length H' → Q (.ref Dl) H') : rLcZ K g t te vs σ Q [.ref a, .ref b] H := ⟨a, b, us, ws, rfl, hx, hy, fun Dl hD =>
  lc_it (walkTL e) (Pv Dl) (h0 Dl ⟨hD⟩) (fun i H' _ p => hl Dl i H' ⟨hD⟩ p) (fun i x H1 H' hi p y => by
    obtain ⟨T, u, v, rfl, hT, rfl, e1, e2⟩ := y
    exact hs Dl ⟨hD⟩ i u v H1 T _ e1 e2 p ⟨hT⟩ (same_new hT) upd_same) (fun H' p => hd Dl H' ⟨hD⟩ p)⟩
/-- texts in order -/
def nLtS : R2 := fun x y H Q => ∃ i j, x = .str i ∧ y = .str j ∧ Q (.bl (decide (i.cps.toList < j.cps.toList))) H
def nLeS : R2 := fun x y H Q => ∃ i j, x = .str i ∧ y = .str j ∧ Q (.bl (!decide (j.cps.toList < i.cps.toList))) H
theorem op_nLtS : OpR X (compareOp .Lt) nLtS := op_lt_str
theorem op_nLeS : OpR X (compareOp .LtE) nLeS := op_le_str
def rPar (i j : Nat) (σ : L2.St) (R : L2.St → Hp → Prop) : List V → Hp → Prop := fun vs H1 => ∃ v w, vs = [v, w] ∧ R ((σ.set i (some v)).set j (some w)) H1
theorem x_spar {i j : Nat} {ta : TA} {tz : TS} {D : Ends} (q : ta σ H (rPar i j σ (tz D))) : tSeq (tPar i j ta) tz D σ H := q
theorem x_par {i j : Nat} {ta : TA} {D : Ends} (q : ta σ H (rPar i j σ D.nx)) : tPar i j ta D σ H := q
theorem x_rPar {i j : Nat} {R : L2.St → Hp → Prop} {v u : V} (q : R ((σ.set i (some v)).set j (some u)) H) : rPar i j σ R [v, u] H := ⟨v, u, rfl, q⟩
def nGeS : R2 := fun x y H Q => ∃ i j, x = .str i ∧ y = .str j ∧ Q (.bl (!decide (i.cps.toList < j.cps.toList))) H
theorem op_nGeS : OpR X (compareOp .GtE) nGeS := op_ge_str
theorem x_nGeS {i j : Str} (q : Q (.bl (!decide (i.cps.toList < j.cps.toList))) H) : nGeS (.str i) (.str j) H Q := ⟨i, j, rfl, rfl, q⟩
theorem x_nLtS {i j : Str} (q : Q (.bl (decide (i.cps.toList < j.cps.toList))) H) : nLtS (.str i) (.str j) H Q := ⟨i, j, rfl, rfl, q⟩
theorem x_nLeS {i j : Str} (q : Q (.bl (!decide (j.cps.toList < i.cps.toList))) H) : nLeS (.str i) (.str j) H Q := ⟨i, j, rfl, rfl, q⟩
theorem x_ext {l b : Addr} {xs zs : List V} (h : H l = some (.lst xs)) (h' : H b = some (.lst zs)) (hz : xs.length + zs.length ≤ 100000) (q : Q .non (upd H l (.lst (xs ++ zs)))) : rExtend (.ref l) [.ref b] H Q := ⟨l, b, xs, zs, rfl, rfl, h, h', size_ok hz, q⟩
theorem x_sortS {a : Addr} {xs : List Str} (h : SqL K H a (xs.map V.str)) (hl : xs.length < 64) (k : ∀ p H2 (ys : List Str), ys.Perm xs → sortedS ys = true → Fr p H → Same H H2 → H2 p = some (.lst (ys.map V.str)) → Q (.ref p) H2) : rSortedS K [.ref a] H Q :=
  ⟨a, xs, rfl, h, hl, fun ys p h1 h2 hp => k p _ ys h1 h2 ⟨hp⟩ (same_new hp) upd_same⟩
end Xk
end
namespace Xk
open PySem PySem.Spec PyProof.Rows L2
theorem k_fld {X : Cx} {K : PySem.W.Frag} {e : Expr} {f : Str} {pos : Pos} {ta : TE} (hk : X.K = K) (he : PE X e ta) (hb : attributeBase e f X.env (eval e X.env) = eval e X.env) : PE X (.Attribute e f pos) (tFld K ta f) := hk ▸ pe_fld he hb
end Xk
namespace Xk
open PySem PySem.Spec PyProof.Rows L2
def rSubSl (x v : V) (l u : Option Int) (σ : L2.St) (R : L2.St → Hp → Prop) : Hp → Prop := fun H3 => ∃ (a b : Addr) (xs ys : List V) (i j : Int), x = .ref a ∧ v = .ref b ∧ l = some i ∧ u = some j ∧
  H3 a = some (.lst xs) ∧ H3 b = some (.lst ys) ∧ a ≠ b ∧ 0 ≤ i ∧ i ≤ j ∧ j ≤ xs.length ∧ xs.length + ys.length ≤ sizeLine ∧ R σ (upd H3 a (.lst (xs.take i.toNat ++ ys ++ xs.drop j.toNat)))
theorem x_gSubSl {to : TE} {tl th : TO} {v : V} {σ : L2.St} {H : Hp} {R : L2.St → Hp → Prop} (q : to σ H fun x H1 => tl σ H1 fun l H2 => th σ H2 fun u H3 => rSubSl x v l u σ R H3) : gSubSl to tl th v σ H R := q
theorem x_rSubSl {a b : Addr} {xs ys : List V} {i j : Int} {n m : Nat} {σ : L2.St} {H : Hp} {R : L2.St → Hp → Prop} (h : H a = some (.lst xs)) (h' : H b = some (.lst ys)) (ne : a ≠ b) (hi : i = (n : Int)) (hj : j = (m : Int)) (nm : n ≤ m) (hm : m ≤ xs.length) (hz : xs.length + ys.length ≤ 100000)
    (q : R σ (upd H a (.lst (xs.take n ++ ys ++ xs.drop m)))) : rSubSl (.ref a) (.ref b) (some i) (some j) σ R H := by
  refine ⟨a, b, xs, ys, i, j, rfl, rfl, rfl, rfl, h, h', ne, by omega, by omega, by omega, size_ok hz, ?_⟩
  rw [hi, hj, Int.toNat_natCast, Int.toNat_natCast]
  exact q
end Xk
/-! enumerate of a tuple -/
namespace Xk
open PySem PySem.Spec PyProof.Rows L2
theorem wp_ite {M : Model} {A : Around} {E : Value → Shared → Prop} {s : Shared} {α : Type} {c : Prop} [Decidable c] {a b : Sem α} {Q : α → Shared → Prop} (h1 : wpAny M A a Q E s) (h2 : wpAny M A b Q E s) : wpAny M A (if c then a else b) Q E s := by
  by_cases h : c
  · exact wpAny_ite_true (decide_eq_true h) h1
  · exact wpAny_ite_false (decide_eq_false h) h2
theorem enumT0 {prog : Program} {w : World} {A : Around} {E : Value → Shared → Prop} {R : Fin → Shared → Prop} {s : Shared} {v : Value} {o : Obj} {H : Heap → Prop} (b : Begins v o H) (h1 : H s.heap)
  (h2 : R (Fin.done (Flow.ret (Value.ref (s.heap.push o).objs.size)))
        { heap := (s.heap.push o).push { cls := Value.type "enumerate", data := Data.fields #[Value.none, Value.bool false, Value.ref s.heap.objs.size, rawInt 0, Value.none, Value.none] },
          gens := s.gens, drawn := s.drawn, toks := s.toks, os := s.os }) :
  wpAny (model prog w) A (do
      let it ← pyIter v
      let r ← Builtin.SmallTypes.newRecord (Value.type "enumerate") (Builtin.SmallTypes.ownedTupleFields ++ [it, rawInt 0, Value.none, Value.none])
      ret r) R E s := by
  refine wpAny_bind (b.iter prog w A _ s _ h1 ?_)
  refine wpAny_bind ?_
  refine wpAny_bind (wpAny_alloc' ?_)
  refine wpAny_pure ?_
  exact wpAny_pure h2
theorem enumT1 {v : Value} {o : Obj} {H : Heap → Prop} (b : Begins v o H) : Meets (Builtin.«enumerate.__new__» { pos := [.type "enumerate", v] }) fun A R s => H s.heap ∧
   R (Except.ok (Flow.ret (Value.ref (s.heap.push o).objs.size)))
        { heap := (s.heap.push o).push { cls := Value.type "enumerate", data := Data.fields #[Value.none, Value.bool false, Value.ref s.heap.objs.size, rawInt 0, Value.none, Value.none] },
          gens := s.gens, drawn := s.drawn, toks := s.toks, os := s.os } := by
  intro prog w A R s hs
  obtain ⟨h1, h2⟩ := hs
  refine wpAny_bind ?_
  refine wpAny_bind ?_
  refine wpAny_of_eq (a := true) rfl ?_
  refine wpAny_ite_false rfl ?_
  refine wpAny_bind ?_
  refine wpAny_of_eq sub_enumerate ?_
  refine wpAny_ite_false rfl ?_
  refine wpAny_pure ?_
  refine wpAny_ite_true (by decide) ?_
  refine wpAny_bind ?_
  refine wpAny_bind (wpAny_stack_any fun st => wpAny_pure ?_)
  refine wp_ite ?_ ?_
  · refine wpAny_bind ?_
    refine wpAny_of_eq (a := (v, none)) rfl ?_
    exact enumT0 b h1 h2
  · refine wpAny_bind ?_
    refine wpAny_of_eq (a := (v, none)) rfl ?_
    exact enumT0 b h1 h2
theorem enum_one {prog : Program} {w : World} {A : Around} {E : Value → Shared → Prop} {s : Shared} {v : Value} {o : Obj} {H : Heap → Prop} {Q : Value → Shared → Prop} (b : Begins v o H) (h1 : H s.heap)
  (q : ∀ h' : Heap, IsEnum h' (s.heap.objs.size + 1) s.heap.objs.size 0 Value.none → h'.get? s.heap.objs.size = some o → h'.objs.size = s.heap.objs.size + 2 → (∀ (b : Addr) (o : Obj), s.heap.get? b = some o → h'.get? b = some o) →
     Q (Value.ref (s.heap.objs.size + 1)) { heap := h', gens := s.gens, drawn := s.drawn, toks := s.toks, os := s.os }) :
  wpAny (model prog w) A (call (Value.type "enumerate") [v]) Q E s := by
  refine callType_new F.called_enumerate (by decide) (F.typeCall_enumerate_1 v) (F.newCall_enumerate_1 v) (fun obj => F.args_object_init_2 obj v) F.entry_enumerate_new (enumT1 b) ⟨h1, ?_⟩
  have e1 : (s.heap.push o).objs.size = s.heap.objs.size + 1 := by rw [Heap.size_push]
  have g : ((s.heap.push o).push { cls := Value.type "enumerate", data := Data.fields #[Value.none, Value.bool false, Value.ref s.heap.objs.size, rawInt 0, Value.none, Value.none] }).get? (s.heap.push o).objs.size = some { cls := Value.type "enumerate", data := Data.fields #[Value.none, Value.bool false, Value.ref s.heap.objs.size, rawInt 0, Value.none, Value.none] } := Heap.get?_push_size _ rfl
  refine ⟨?_, ?_⟩
  · rw [e1] at g ⊢
    exact ⟨_, g, rfl⟩
  · rw [e1] at g ⊢
    refine q _ g ?_ (by rw [Heap.size_push, Heap.size_push]) fun b' o' e => Heap.get?_push_of_some _ (Heap.get?_push_of_some _ e)
    exact Heap.get?_push_of_some _ (Heap.get?_push_size _ b.free)
/-- a tuple at a, each item with its number -/
def ItET (K : PySem.W.Frag) (a : Addr) : It where
  go := fun i H => ∃ (xs : List V) (x : V), SqT K H a xs ∧ xs[i]? = some x
  yld := fun i H v H' => ∃ T x, v = .ref T ∧ H T = none ∧ H' = upd H T (.tup [.int (i : Nat), x]) ∧ ∀ xs : List V, SqT K H a xs → xs[i]? = some x
  stop := fun i H => ∃ xs : List V, SqT K H a xs ∧ i = xs.length
theorem turnET {P : Program} {w : World} {K : PySem.W.Frag} {es : List Expr} {k : Nat} {pos : Pos} {a e it : Addr} (d1 : e ≠ it) (d2 : a ≠ it) (d3 : e ≠ a) :
    Turn P w K (.Tuple es k pos) (ItET K a) [e, it] e (fun i h => (∃ old, IsEnum h e it (i : Nat) old) ∧ h.IsTupleIter it a i) where
  mem := List.mem_cons_self
  obj := fun n h st c hc => by
    obtain ⟨⟨old, g1⟩, ⟨o1, e1, _, dd1⟩⟩ := st
    simp only [List.mem_cons, List.not_mem_nil, or_false] at hc
    rcases hc with rfl | rfl
    · exact ⟨_, g1, fun _ e => nomatch e⟩
    · refine ⟨o1, e1, fun x e => ?_⟩
      rw [dd1] at e
      cases e
  keep := fun n h h' st g => by
    obtain ⟨⟨old, g1⟩, g2⟩ := st
    exact ⟨⟨old, g e (by simp) _ g1⟩, g2.at fun ob e => g it (by simp) ob e⟩
  item := by
    intro X hP hw hK hc n pins s σ H E I hf st hg
    subst hP hw hK
    obtain ⟨⟨old, g1⟩, g2⟩ := st
    obtain ⟨us, u, hus, hu⟩ := hg
    obtain ⟨its, r1, p1, _⟩ := I.tuple hus
    obtain ⟨x, hx, rx⟩ := r1.get hu
    have lt1 : n < its.toArray.size := by
      obtain ⟨b, _⟩ := List.getElem?_eq_some_iff.mp hx
      simpa using b
    have hzl : e < s.heap.objs.size := Heap.lt_size g1
    have hil : it < s.heap.objs.size := by
      obtain ⟨_, e1, _⟩ := id g2
      exact Heap.lt_size e1
    have hh : X.A.in1.handled = none := I.ok.hd hc
    refine wpAny_pyNext_enum_itemD (Draws.tuple hh it a d2 its.toArray) g1 ⟨g2, p1⟩ lt1 d1 (by simp [d1, d3]) fun x1 h' tk q1 eo st1 hT hsz hk => ?_
    have ex : x1 = x := by
      have e2 : its[n]? = some x1 := by simpa using q1
      exact Option.some.inj (e2.symm.trans hx)
    subst ex
    refine ⟨_, rfl, wpAny_letOwnedTupleGo_enum (s := { s with heap := h', toks := tk + 1 }) eo fun h2 z2 sb => ?_⟩
    have hT2 : h2.get? s.heap.objs.size = some { cls := .type "tuple", data := .seq #[Value.int (n : Nat) tk, x1] } := (sb.2 _ (Nat.ne_of_gt hzl)).trans hT
    have new : ObjOk X.prog X.w (upd H s.heap.objs.size (.tup [.int (n : Nat), u])) h2 s.heap.objs.size (.tup [.int (n : Nat), u]) :=
      ⟨by show 2 ≤ sizeLine; decide, [Value.int (n : Nat) tk, x1], .cons (by first | exact ⟨tk, rfl⟩ | exact rfl | constructor) (.cons rx .nil), ⟨_, hT2, rfl, _, rfl⟩⟩
    have kept : ∀ c ob, c ∉ [e, it] → s.heap.get? c = some ob → h2.get? c = some ob := fun c ob nc e => by
      simp only [List.mem_cons, List.not_mem_nil, or_false, not_or] at nc
      exact (sb.2 c nc.1).trans (hk c ob nc.1 nc.2 e)
    have I1 : Inv X pins σ (upd H s.heap.objs.size (.tup [.int (n : Nat), u])) { s with heap := h2, toks := tk + 1 } :=
      I.turnedNew (t' := tk + 1) (ch := [e, it]) kept hf (Nat.le_refl _) new
    refine ⟨.ref s.heap.objs.size, _, I1, rfl, ⟨_, u, rfl, I.hok.fresh (Nat.le_refl _), rfl, fun l hl => ?_⟩, ⟨⟨_, z2⟩, ?_⟩, fun c hcm => ?_⟩
    · rw [I.tuple_inj hl hus]
      exact hu
    · exact st1.1.at fun ob e => (sb.2 _ d1.symm).trans e
    · have lt : c < s.heap.objs.size := by
        simp only [List.mem_cons, List.not_mem_nil, or_false] at hcm
        rcases hcm with rfl | rfl
        · exact hzl
        · exact hil
      rw [upd_ne (Nat.ne_of_lt lt)]
      exact (hf c hcm).1
  done := by
    intro X hP hw hK hc n pins s σ H E I hf st hg
    subst hP hw hK
    obtain ⟨⟨old, g1⟩, g2⟩ := st
    obtain ⟨us, hus, rfl⟩ := hg
    obtain ⟨its, r1, p1, _⟩ := I.tuple hus
    have l1 : its.toArray.size = us.length := by rw [List.size_toArray, r1.length]
    have hh : X.A.in1.handled = none := I.ok.hd hc
    refine wpAny_pyNext_enum_endD (Draws.tuple hh it a d2 its.toArray) g1 (by rw [l1]; exact ⟨g2, p1⟩) fun h' hk => ?_
    exact ⟨rfl, I.turnedL (t' := s.toks) (ch := [e, it]) (fun c ob nc e => by
      simp only [List.mem_cons, List.not_mem_nil, or_false, not_or] at nc
      exact hk c ob nc.2 e) hf⟩
  self := fun A n s Q E st h => wpAny_pyIter_enum st.1.choose_spec h
/-- enumerate(e), e a tuple -/
def iET (K : PySem.W.Frag) (ta : TA) : TI := fun σ H R => ta σ H fun vs H1 => ∃ p us, vs = [.ref p] ∧ SqT K H1 p us ∧ R (ItET K p) H1
theorem pi_ET {X : Cx} {e : Expr} {ta : TA} {p1 pos tpos : Pos} {es : List Expr} {k : Nat} (hg : Gl X "enumerate") (hm : X.mg "enumerate" = none) (ha : PA X [e] ta)
    (hs : starEach [e] X.env = [(false, eval e X.env)] := by rfl) (hpl : (backTo pos (starEach [] X.env)).any (·.1) = false := by rfl) :
    PI X (.Tuple es k tpos) (.Call (.Name "enumerate" p1) [e] [] pos) (iET X.K ta) := by
  refine ⟨fun pins s σ H R I h => Call_ (ld_blt I hg hm PyProof.Rows.boot_enumerate (PyProof.Rows.callWith_type1 (thn (ha.run pos pins s σ H _ I h) fun us s1 ⟨vs, H1, I1, r1, q1⟩ => ?_) hs hpl))⟩
  obtain ⟨p, xs, rfl, hx, g⟩ := q1
  have e3 : us = [.ref p] := by
    cases r1 with
    | cons a b =>
      cases b
      cases a
      rfl
  subst e3
  obtain ⟨its, rx, px, _⟩ := I1.tuple hx
  have lp : p < s1.heap.objs.size := by
    obtain ⟨_, e1, _⟩ := id px
    exact Heap.lt_size e1
  refine enum_one (begins_tuple p its.toArray) px fun h' hz h1 hsz hk => wpAny_pyIter_enum hz ?_
  have I2 : Inv X pins σ H1 { s1 with heap := h' } := I1.kept (t' := s1.toks) hk
  refine ⟨s1.heap.objs.size + 1, [s1.heap.objs.size + 1, s1.heap.objs.size], _, _, H1, rfl, I2,
    turnET (Nat.succ_ne_self _) (Nat.ne_of_lt lp) (Nat.ne_of_gt (Nat.lt_succ_of_lt lp)), ⟨⟨_, hz⟩, ⟨_, h1, rfl, rfl⟩⟩, fun c hcm => ?_, g⟩
  have le : s1.heap.objs.size ≤ c := by
    simp only [List.mem_cons, List.not_mem_nil, or_false] at hcm
    rcases hcm with rfl | rfl
    · exact Nat.le_add_right _ _
    · exact Nat.le_refl _
  exact I1.fpOk le (I1.hok.fresh le)
/-- a comprehension over it -/
theorem walkET {K : PySem.W.Frag} {p : Addr} {us : List V} : Walk (ItET K p) us.length (fun H => SqT K H p us) (YPair (fun n => some (.int (n : Nat))) (fun n => us[n]?)) := by
  refine ⟨fun n _ hn g => ?_, fun _ g => ⟨us, g, rfl⟩, fun n H v H' _ g y => ?_⟩
  · exact ⟨us, us[n], g, List.getElem?_eq_getElem hn⟩
  · obtain ⟨T, x, h1, h2, h3, h4⟩ := y
    exact ⟨T, _, x, h1, h2, h3, rfl, h4 us g⟩
end Xk
section
open PySem PySem.Spec PyProof.Rows L2
namespace Xk
variable {K : PySem.W.Frag} {σ : L2.St} {H : Hp} {Q : VK} {te : TE} {g : TG} {t : TT} {X : Cx}
theorem k_ET {e : Expr} {ta : TA} {p1 pos tpos : Pos} {es : List Expr} {k : Nat} (hk : X.K = K) (hg : Gl X "enumerate") (hm : X.mg "enumerate" = none) (ha : PA X [e] ta)
    (hs : starEach [e] X.env = [(false, eval e X.env)] := by rfl) (hpl : (backTo pos (starEach [] X.env)).any (·.1) = false := by rfl) :
    PI X (.Tuple es k tpos) (.Call (.Name "enumerate" p1) [e] [] pos) (iET K ta) := hk ▸ pi_ET hg hm ha hs hpl
def rLcET (K : PySem.W.Frag) (g : TG) (tt : TT) (te : TE) (vs : List Nat) (σ : L2.St) (Q : VK) : List V → Hp → Prop := fun zs H1 => ∃ p us, zs = [.ref p] ∧ SqT K H1 p us ∧ RLc (ItET K p) g tt te vs σ Q H1
theorem x_lcET1 {tr : TA} {vs : List Nat} (q : tr σ H (rLcET K g t te vs σ Q)) : tLc (iET K tr) g t te vs σ H Q := q
theorem x_lcET {a : Addr} {us : List V} {vs : List Nat} (Pv : Addr → Nat → Hp → Prop) (hx : SqT K H a us) (h0 : ∀ Dl, Fr Dl H → Pv Dl 0 (upd H Dl (.lst [])))
    (hl : ∀ Dl i H', Fr Dl H → Pv Dl i H' → SqT K H' a us)
    (hs : ∀ Dl, Fr Dl H → ∀ i x H1 T H', us[i]? = some x → Pv Dl i H1 → Fr T H1 → Same H1 H' → H' T = some (.tup [.int (i : Nat), x]) → g (.ref T) (wipe σ vs) H' fun σ2 H2 => wipe σ2 vs = wipe σ vs ∧ t σ2 H2 fun c H3 =>
      if c = true then te σ2 H3 fun y H4 => ∃ acc, H4 Dl = some (.lst acc) ∧ acc.length < sizeLine ∧ Pv Dl (i + 1) (upd H4 Dl (.lst (acc ++ [y]))) else Pv Dl (i + 1) H3)
    (hd : ∀ Dl H', Fr Dl H → Pv Dl us.length H' → Q (.ref Dl) H') : rLcET K g t te vs σ Q [.ref a] H := ⟨a, us, rfl, hx, fun Dl hD =>
  lc_it walkET (Pv Dl) (h0 Dl ⟨hD⟩) (fun i H' _ p => hl Dl i H' ⟨hD⟩ p) (fun i x H1 H' hi p y => by
    obtain ⟨T, u, v, rfl, hT, rfl, e1, e2⟩ := y
    cases Option.some.inj e1
    exact hs Dl ⟨hD⟩ i v H1 T _ e2 p ⟨hT⟩ (same_new hT) upd_same) (fun H' p => hd Dl H' ⟨hD⟩ p)⟩
end Xk
end
/-! dict comprehensions over a tuple -/
section
open PySem PySem.Spec PyProof.Rows L2
namespace Xk
variable {K : PySem.W.Frag} {σ : L2.St} {H : Hp} {Q : VK} {tk tv : TE} {g : TG} {t : TT}
def RDc (J : It) (g : TG) (tt : TT) (tk tv : TE) (vs : List Nat) (σ : L2.St) (Q : VK) : Hp → Prop := fun H1 => ∀ D, H1 D = none → ∃ W : Nat → Nat → Hp → Prop, (∃ m, W 0 m (upd H1 D (.dK []))) ∧ ∀ i m H, W i m H →
  (J.stop i H ∧ Q (.ref D) H) ∨ (J.go i H ∧ ∃ Nx : Hp → Prop, (∀ H', Nx H' → ∃ m', m' < m ∧ W (i + 1) m' H') ∧ ∀ x H', J.yld i H x H' → g x (wipe σ vs) H' fun σ2 H2 => wipe σ2 vs = wipe σ vs ∧ tt σ2 H2 fun b H3 =>
    if b = true then tk σ2 H3 fun y H4 => tv σ2 H4 fun z H5 => ∃ kvs k, y = kV k ∧ H5 D = some (.dK kvs) ∧ kvs.length < sizeLine ∧ Nx (upd H5 D (.dK (putK kvs k z))) else Nx H3)
def rDcT (K : PySem.W.Frag) (g : TG) (tt : TT) (tk tv : TE) (vs : List Nat) (σ : L2.St) (Q : VK) : VK := fun x H1 => ∃ a, x = .ref a ∧ (∃ xs, SqT K H1 a xs) ∧ RDc (Itt K a) g tt tk tv vs σ Q H1
theorem x_dcT1 {tx : TE} {vs : List Nat} (q : tx σ H (rDcT K g t tk tv vs σ Q)) : tDc (iTup K tx) g t tk tv vs σ H Q := q
theorem x_dcT {a : Addr} {xs : List V} {vs : List Nat} (Pv : Addr → Nat → Hp → Prop) (hx : SqT K H a xs) (h0 : ∀ Dl, Fr Dl H → Pv Dl 0 (upd H Dl (.dK []))) (hl : ∀ Dl i H', Fr Dl H → Pv Dl i H' → SqT K H' a xs)
    (hs : ∀ Dl, Fr Dl H → ∀ i x H', xs[i]? = some x → Pv Dl i H' → g x (wipe σ vs) H' fun σ2 H2 => wipe σ2 vs = wipe σ vs ∧ t σ2 H2 fun b H3 =>
      if b = true then tk σ2 H3 fun y H4 => tv σ2 H4 fun z H5 => ∃ kvs k, y = kV k ∧ H5 Dl = some (.dK kvs) ∧ kvs.length < sizeLine ∧ Pv Dl (i + 1) (upd H5 Dl (.dK (putK kvs k z))) else Pv Dl (i + 1) H3)
    (hd : ∀ Dl H', Fr Dl H → Pv Dl xs.length H' → Q (.ref Dl) H') : rDcT K g t tk tv vs σ Q (.ref a) H := ⟨a, rfl, ⟨xs, hx⟩, fun Dl hD =>
  dc_tup (xs := xs) (Pv Dl) (h0 Dl ⟨hD⟩) (fun i H' _ p => hl Dl i H' ⟨hD⟩ p) (fun i x H' hi p => hs Dl ⟨hD⟩ i x H' hi p) (fun H' p => hd Dl H' ⟨hD⟩ p)⟩
end Xk
end
namespace Xk
open PySem PySem.Spec PyProof.Rows L2
section
variable {X : Cx}
/-- sorted(xs) of a list of data of one shape -/
def rSortX (K : PySem.W.Frag) : List V → Hp → VK → Prop := fun vs H Q => ∃ (a : Addr) (bs : List (V × PyData)), vs = [V.ref a] ∧ SqL K H a (bs.map (·.1)) ∧ (∀ b ∈ bs, Dp K H b.1 b.2 ∧ b.2.depth ≤ 9) ∧
  PySem.W.AllAlike (bs.map (·.2)) ∧ PySem.W.Sortable (bs.map (·.2)) ∧ ∀ p, H p = none → Q (.ref p) (upd H p (.lst ((bs.mergeSort (PySem.W.dataLe false (·.2))).map (·.1))))
theorem eachV {R : Value → PyData → Prop} : ∀ {its : List Value} {bs : List (V × PyData)}, Vals (bs.map (·.1)) its → (∀ b ∈ bs, ∀ u, RelV b.1 u → R u b.2) → PySem.W.EachIs (fun u (b : V × PyData) => RelV b.1 u ∧ R u b.2) its bs
  | its, [], h, _ => by cases h; exact .nil
  | its, b :: r, h, hr => by
    cases h with
    | cons h1 h2 => exact .cons ⟨h1, hr b (List.mem_cons_self ..) _ h1⟩ (eachV h2 fun c hc => hr c (List.mem_cons_of_mem _ hc))
theorem eachB {R : Value → PyData → Prop} : ∀ {its : List Value} {bs : List (V × PyData)}, PySem.W.EachIs (fun u (b : V × PyData) => RelV b.1 u ∧ R u b.2) its bs → Vals (bs.map (·.1)) its
  | _, _, .nil => .nil
  | _, _, .cons h t => .cons h.1 (eachB t)
theorem k_sortX0 (hu : X.A.units + 64 < cLine) : CallR X (.builtin "sorted") (rSortX X.K) := by
  intro pins s σ H vs us Q I r h
  obtain ⟨a, bs, rfl, hs, hd, hal, hk, q⟩ := h
  obtain ⟨its, rv, hl, hz⟩ := I.list hs
  rw [Vals.ref1 r]
  have e := eachV (R := fun u d => ∃ as, Reads s.heap u d as) rv fun b hb u ru => Dp.reads I b.2 b.1 u (hd b hb).1 ru
  have hlen : bs.length ≤ sizeLine := by rw [List.length_map] at hz; exact hz
  refine PySem.W.sorted_data (enc := fun b : V × PyData => b.2) hl.isList e (e.mono fun _ _ h => h.2) hal hk hlen (fun b hb => ?_) fun out ho eo => ?_
  · have := (hd b hb).2
    omega
  · obtain ⟨ep, he'⟩ := PyProof.Rows.sortedAll_at s.heap its out.toArray
    have hlen2 : ((bs.mergeSort (PySem.W.dataLe false (·.2))).map (·.1)).length ≤ sizeLine := by rw [List.length_map, List.length_mergeSort]; exact hlen
    exact ⟨.ref _, upd H (s.heap.objs.size + 1) (.lst ((bs.mergeSort (PySem.W.dataLe false (·.2))).map (·.1))), I.laid (t' := s.toks) (fun _ _ => PyProof.Rows.sortedAll_old) (Nat.le_succ _) ⟨hlen2, out, ep, eachB (R := fun u d => ∃ as, Reads s.heap u d as) eo, he'⟩, rfl, q _ (I.hok.fresh (Nat.le_succ _))⟩
/-- data compared -/
def rLtD (K : PySem.W.Frag) : R2 := fun x y H Q => ∃ d e, Dp K H x d ∧ Dp K H y e ∧ PySem.W.alike d e = true ∧ d ≠ .none ∧ d.depth ≤ 60 ∧ Q (.bl (PySem.W.dataLt d e)) H
def rLeD (K : PySem.W.Frag) : R2 := fun x y H Q => ∃ d e, Dp K H x d ∧ Dp K H y e ∧ PySem.W.alike d e = true ∧ d ≠ .none ∧ d.depth ≤ 60 ∧ Q (.bl (!PySem.W.dataLt e d)) H
theorem k_ltD0 (hu : X.A.units + 64 < cLine) : OpR X (compareOp .Lt) (rLtD X.K) := by
  intro pins s σ H x y v u Q I rx ry h
  obtain ⟨d, e, hd, he, ha, hn, hz, q⟩ := h
  obtain ⟨as, r1⟩ := Dp.reads I d x v hd rx
  obtain ⟨bs, r2⟩ := Dp.reads I e y u he ry
  exact PySem.W.rcLt_alike d e X.A s v u as bs r1 r2 ha hn (by have := Nat.min_le_left d.depth e.depth; omega) X.prog X.w X.xe (EP X pins σ Q) ⟨.bl _, H, I, rfl, q⟩
theorem k_leD0 (hu : X.A.units + 64 < cLine) : OpR X (compareOp .LtE) (rLeD X.K) := by
  intro pins s σ H x y v u Q I rx ry h
  obtain ⟨d, e, hd, he, ha, hn, hz, q⟩ := h
  obtain ⟨as, r1⟩ := Dp.reads I d x v hd rx
  obtain ⟨bs, r2⟩ := Dp.reads I e y u he ry
  exact PySem.W.rcLe_alike d e X.A s v u as bs r1 r2 ha hn (by have := Nat.min_le_left d.depth e.depth; omega) X.prog X.w X.xe (EP X pins σ Q) ⟨.bl _, H, I, rfl, q⟩
theorem k_sortX {K : PySem.W.Frag} (hu : X.A.units + 64 < cLine) (e : X.K = K) : CallR X (.builtin "sorted") (rSortX K) := e ▸ k_sortX0 hu
theorem k_ltD {K : PySem.W.Frag} (hu : X.A.units + 64 < cLine) (e : X.K = K) : OpR X (compareOp .Lt) (rLtD K) := e ▸ k_ltD0 hu
theorem k_leD {K : PySem.W.Frag} (hu : X.A.units + 64 < cLine) (e : X.K = K) : OpR X (compareOp .LtE) (rLeD K) := e ▸ k_leD0 hu
end
end Xk

/-! dicts whose keys are tuples: setdefault, sorted -/
namespace Xk
open PySem PySem.Spec PyProof.Rows L2
section
variable {X : Cx} {pins : List (Addr × Obj)} {σ : L2.St} {H : Hp} {s : Shared} {a b : Addr} {r : Value} {d : V} {k : List Key} {A : Around} {E : Value → Shared → Prop}
theorem d_setdT {kvs : List (List Key × V)} {Q : Value → Shared → Prop} (hu : A.units + 1 < cLine) (I : Inv X pins σ H s) (e : H a = some (.dT kvs)) (eb : H b = some (.tup (k.map kV))) (rd : RelV d r) (hl : kvs.length < sizeLine)
    (h1 : ∀ v, valV kvs k = some v → ∀ (w' : Value) (s' : Shared), Inv X pins σ H s' → RelV v w' → Q w' s') (h2 : valV kvs k = none → ∀ (w' : Value) (s' : Shared), Inv X pins σ (upd H a (.dT (putK kvs k d))) s' → RelV d w' → Q w' s') :
    wpAny (model X.prog X.w) A (call (.builtin "dict.setdefault") [.ref a, .ref b, r]) Q E s := by
  obtain ⟨z, hd, xs, rel, dd⟩ := dt_of I.hok e
  have hz : xs.length ≤ sizeLine := by rw [← Paired.length rel]; exact z
  refine call_setdefault_heap (knd := tupleKind (mixKind X.prog X.w)) (hsz := hz) (tupleKind_room_in1 hu) (key_of I.hok eb) hd dd (fun p hp => ?_) fun hn h' dd' hs => ?_
  · have q := rel.val k
    rw [hp] at q
    cases q0 : valV kvs k with
    | none =>
      rw [q0] at q
      exact (show False from q).elim
    | some v0 =>
      rw [q0] at q
      exact h1 v0 q0 _ _ (I.tok _) q
  · have q := rel.val k
    rw [hn] at q
    cases q0 : valV kvs k with
    | some v0 =>
      rw [q0] at q
      exact (show False from q).elim
    | none =>
      have hl2 : (putK kvs k d).length ≤ sizeLine := by
        have := length_putK kvs k d
        omega
      obtain ⟨q, es, ep, hq, g2, g3, g4, _, g5⟩ := dd'
      refine h2 q0 _ _ (d_write I (by rw [e]; exact True.intro) hs ⟨q, hq⟩ ⟨hl2, hd, _, (rel.put k eb rd).keeps fun c ys ec => ?_, q, es, ep, hq, g2, g3, g4, g5⟩) rd
      rw [upd_ne (ne_of ec e (fun z => nomatch z))]
      exact ec
end
/-- d.setdefault(y, z), tuple keys -/
def rDSetT (a : Addr) (y z : V) (Q : VK) (H3 : Hp) : Prop := ∃ (kvs : List (List Key × V)) (k : List Key) (b : Addr), H3 a = some (.dT kvs) ∧ y = .ref b ∧ H3 b = some (.tup (k.map kV)) ∧ kvs.length < sizeLine ∧
  (∀ v, valV kvs k = some v → Q v H3) ∧ (valV kvs k = none → Q z (upd H3 a (.dT (putK kvs k z))))
def tDSetT (td ty tx : TE) : TE := fun σ H Q => td σ H fun x H1 => ∃ a kvs, x = .ref a ∧ H1 a = some (.dT kvs) ∧ ty σ H1 fun y H2 => tx σ H2 fun z H3 => rDSetT a y z Q H3
section
variable {X : Cx} {o e f : Expr} {td ty tx : TE} {apos cpos : Pos}
theorem pe_dsetT (hu : X.A.units + 1 < cLine) (ho : PE X o td) (he : PE X e ty) (hf : PE X f tx) (m : M2 X o "setdefault" apos e f cpos) : PE X (.Call (.Attribute o "setdefault" apos) [e, f] [] cpos) (tDSetT td ty tx) := by
  refine ⟨fun pins s σ H Q I h => ?_⟩
  refine wpAny_Call_method m.base m.few m.line PySem.F.plainAttrs_dict PySem.F.slot_dict_setdefault PySem.F.type_dict_setdefault (thn (ho.run pins s σ H _ I h) fun u s1 ⟨x, H1, I1, rx, a, kvs, ex, d, q1⟩ => ?_)
  subst ex
  obtain rfl : u = Value.ref a := rx
  have hty : s1.TypeIs (.ref a) "dict" := by
    obtain ⟨_, _, xs, _, dd⟩ := dt_of I1.hok d
    exact dd.typeIs
  have hnd : ∀ b, Value.ref a = .ref b → ∃ ob, s1.heap.get? b = some ob ∧ ob.dict = none := fun b q => by
    cases q
    obtain ⟨_, _, xs, _, ob, _, _, h1, h2, _⟩ := dt_of I1.hok d
    exact ⟨ob, h1, h2.2.1⟩
  refine ⟨hty, hnd, ?_⟩
  rw [m.trees]
  refine Calls.callWith_builtin rfl (Calls.evalArgs_plain (Calls.spliced_cons (thn (he.run pins s1 σ H1 _ I1 q1) fun iv s2 ⟨y, H2, I2, ry, q2⟩ =>
    Calls.spliced_cons (thn (hf.run pins s2 σ H2 _ I2 q2) fun fv s3 ⟨z, H3, I3, rz, kvs, k, b, ea, ey, eb, hl, q3, q4⟩ => Calls.spliced_nil ?_))))
  subst ey
  obtain rfl : iv = Value.ref b := ry
  exact d_setdT hu I3 ea eb rz hl (fun v hv w' s4 I4 rw' => ⟨v, _, I4, rw', q3 v hv⟩) fun hn w' s4 I4 rw' => ⟨z, _, I4, rw', q4 hn⟩
end
/-- sorted(d), the keys tuples of ints: the keys' own tuples, ascending -/
def rSortT (xs : List V) (H : Hp) (Q : VK) : Prop := ∃ (d : Addr) (kvs : List (List Key × V)) (ks : List (List Int)), xs = [.ref d] ∧ H d = some (.dT kvs) ∧ kvs.map (·.1) = ks.map (fun k => k.map Sum.inl) ∧ (∀ k ∈ ks, k ≠ []) ∧ ks.length ≤ 1000 ∧
  ∀ (p : Addr) (zs : List (Addr × List Int)), H p = none → (zs.map (·.2)).Perm ks → (zs.map (·.2)).Pairwise (· ≤ ·) → (∀ z ∈ zs, H z.1 = some (.tup (z.2.map V.int))) → Q (.ref p) (upd H p (.lst (zs.map fun z => V.ref z.1)))
theorem kt_list {H : Hp} : ∀ {kvs : List (List Key × V)} {ts : List (List Key × Addr × Value)} {ks : List (List Int)}, KT H kvs ts → kvs.map (·.1) = ks.map (fun k => k.map Sum.inl) →
    ∃ L : List (Addr × List Int), L.map (·.1) = ts.map (fun x => x.2.1) ∧ L.map (·.2) = ks ∧ ∀ e ∈ L, H e.1 = some (.tup (e.2.map V.int))
  | [], _, ks, r, e => by
    cases r
    cases ks with
    | nil => exact ⟨[], rfl, rfl, fun e he => by cases he⟩
    | cons k r => cases e
  | p :: kvs, _, ks, r, e => by
    cases ks with
    | nil => cases e
    | cons k ks =>
      rw [List.map_cons, List.map_cons] at e
      injection e with e1 e2
      cases r with
      | @cons _ q _ qs h t =>
        obtain ⟨L, h1, h2, h3⟩ := kt_list t e2
        refine ⟨(q.2.1, k) :: L, by rw [List.map_cons, List.map_cons, h1], by rw [List.map_cons, h2], fun x hx => ?_⟩
        rcases List.mem_cons.mp hx with rfl | hx
        · have z := h.2.1
          rw [e1, List.map_map] at z
          exact z
        · exact h3 x hx
theorem reads_ints {h : Heap} : ∀ {ns : List Int} {us : List Value}, Vals (ns.map V.int) us → ReadsAll h us (ns.map PyData.int) []
  | [], _, r => by
    cases r
    exact .nil
  | n :: ns, _, r => by
    cases r with
    | cons r1 r2 =>
      obtain ⟨t, rfl⟩ := r1
      exact ReadsAll.cons (Reads.int n t) (reads_ints r2)
theorem tup_dataLe (x : Addr × List Int → List Int) : PySem.W.dataLe false (fun b : Addr × List Int => PyData.tuple ((x b).map .int)) = fun p q => decide (x p ≤ x q) := by
  rw [PySem.W.dataLe_eq]
  funext p q
  show (!PySem.W.dataLt _ _) = _
  rw [PySem.W.dataLt_tuple]
  have h := PySem.W.dataLt_ints (x q) (x p)
  unfold PySem.W.rowLt at h
  rw [h, ← decide_not]
  exact decide_eq_decide.mpr List.not_lt
section
variable {X : Cx}
theorem k_sortT (hcalm : X.calm = true) (hu : X.A.units + 64 < cLine) : CallR X (.builtin "sorted") rSortT := by
  intro pins s σ H xs us Q I r h
  obtain ⟨d, kvs, ks, rfl, hd, hks, hne, hl, q⟩ := h
  obtain ⟨u, rfl, rx⟩ := vals1 r
  cases rx
  obtain ⟨z, hs, ts, pr, o, es, ep, ho, hx, hdt, he, hn⟩ := (show ObjOk X.prog X.w H s.heap d (.dT kvs) from I.hok d _ hd)
  have l1 : es.size = ts.length := size_of_entries he
  have l2 : kvs.length = ts.length := Paired.length pr
  obtain ⟨L, hL1, hL2, hL3⟩ := kt_list pr hks
  have lL : L.length = ts.length := by
    have z := congrArg List.length hL1
    rw [List.length_map, List.length_map] at z
    exact z
  have lk : L.length ≤ 1000 := by
    have z := congrArg List.length hL2
    rw [List.length_map] at z
    omega
  have h16 : es.size ≤ sizeLine := by rw [l1, ← lL, sizeLine_eq]; omega
  refine Calls.call_function_entry PyProof.Rows.kind_sorted PyProof.Rows.plain_sorted PyProof.Rows.entry_sorted (PyProof.Rows.args_sorted1 _) ?_
  unfold Builtin.«sorted»
  refine wpAny_bind (m := checkCount "sorted" 1 1 _) (wpAny_pure ?_)
  refine wpAny_bind (PySem.W.kdu_collect (A := X.A.in1) (kdl_raw hs hx hdt) (I.ok.hd hcalm) ho h16 fun h' tk acc hk hacc => ?_)
  have ea : acc.toList = L.map fun x => Value.ref x.1 := by
    have hl : acc.toList.length = ts.length := by rw [Array.length_toList, hacc.1]; exact l1
    have e2 : (L.map fun x => Value.ref x.1) = ts.map fun x => Value.ref x.2.1 := by
      have z := congrArg (List.map Value.ref) hL1
      rw [List.map_map, List.map_map] at z
      exact z
    rw [e2]
    apply List.ext_getElem?
    intro j
    rw [List.getElem?_map]
    cases hj : acc.toList[j]? with
    | none =>
      have h1 := List.getElem?_eq_none_iff.mp hj
      rw [List.getElem?_eq_none (by omega)]
      all_goals rfl
    | some v =>
      obtain ⟨en, hen, hv⟩ := hacc.2 j v (by rw [← Array.getElem?_toList]; exact hj)
      have qe := entry_at he j
      rw [hen] at qe
      cases hb : ts[j]? with
      | none =>
        rw [hb] at qe
        exact nomatch (show some en = none from qe)
      | some b =>
        rw [hb] at qe
        have e2 : en = entryOfKey (tupleKind (mixKind X.prog X.w)) b := Option.some.inj qe
        rw [hv, e2]
        all_goals rfl
  have I1 : Inv X pins σ H { s with heap := h', toks := tk } := I.kept hk
  have hal : acc.toList.length = L.length := by rw [ea, List.length_map]
  refine wpAny_bind (wpAny_newList ?_ (by rw [hal, sizeLine_eq]; omega))
  have hoL : (h'.push (seqObj "list" acc.toList.toArray 0)).get? h'.objs.size = some (seqObj "list" acc.toList.toArray 0) := Heap.get?_push_size _ rfl
  show wpAny _ _ _ _ _ { s with heap := h'.push (seqObj "list" acc.toList.toArray 0), toks := tk }
  have er : PySem.W.EachIs (fun (v : Value) (b : Addr × List Int) => v = .ref b.1 ∧ ∃ as, Reads (h'.push (seqObj "list" acc.toList.toArray 0)) v (PyData.tuple (b.2.map .int)) as ∧ h'.objs.size ∉ as) acc.toList L := by
    rw [ea]
    have key : ∀ M : List (Addr × List Int), (∀ e ∈ M, H e.1 = some (.tup (e.2.map V.int))) → PySem.W.EachIs (fun (v : Value) (b : Addr × List Int) => v = .ref b.1 ∧ ∃ as, Reads (h'.push (seqObj "list" (L.map fun x => Value.ref x.1).toArray 0)) v (PyData.tuple (b.2.map .int)) as ∧ h'.objs.size ∉ as) (M.map fun x => Value.ref x.1) M := by
      intro M
      induction M with
      | nil => exact fun _ => .nil
      | cons e M ih =>
        intro hM
        refine .cons ⟨rfl, [], ?_, List.not_mem_nil⟩ (ih fun x hx => hM x (List.mem_cons_of_mem _ hx))
        obtain ⟨_, its, r, o, h1, h2, n, h3⟩ := (show ObjOk X.prog X.w H h' e.1 (.tup (e.2.map V.int)) from I1.hok _ _ (hM e (List.mem_cons_self ..)))
        exact Reads.tuple (Heap.get?_push_of_some _ h1) h2 h3 (by simpa using reads_ints r)
    exact key L hL3
  have enc1 : PySem.W.AllAlike (L.map fun b => PyData.tuple (b.2.map .int)) := PySem.W.AllAlike.of fun b b' => by
    show PySem.W.alikeAll _ _ = true
    exact PySem.W.alike_ints _ _
  have enc2 : PySem.W.Sortable (L.map fun b => PyData.tuple (b.2.map .int)) := .inl fun d hd => by
    obtain ⟨b, hb, rfl⟩ := List.mem_map.mp hd
    have hb2 : b.2 ≠ [] := hne _ (by rw [← hL2]; exact List.mem_map_of_mem (f := fun e : Addr × List Int => e.2) hb)
    cases e : b.2 with
    | nil => exact absurd e hb2
    | cons x r => exact ⟨_, _, rfl⟩
  refine wpAny_bind (wpAny_holding (PySem.W.list_sort_data (s := { s with heap := h'.push (seqObj "list" acc.toList.toArray 0), toks := tk }) (R := fun (v : Value) (b : Addr × List Int) => v = .ref b.1) (enc := fun b => PyData.tuple (b.2.map .int)) hoL (er.mono fun _ _ h => h.1) (er.mono fun _ _ h => h.2) enc1 enc2 (by rw [sizeLine_eq]; omega) (fun b _ => ?_) fun out ho2 eo => ?_))
  · have : (PyData.tuple (b.2.map .int)).depth = 1 := by
      rw [PyData.depth, PySem.W.depth_ints]
    have hA : X.A.in1.units ≤ X.A.units + 2 := by
      show _ ≤ _
      first
        | exact Nat.le_refl _
        | exact Nat.le_succ _
        | simp [Around.in1]
        | omega
    omega
  · obtain ⟨e', he'⟩ := PyProof.Rows.sortedHeap_at (vs := acc.toList) (out := out.toArray) hoL
    rw [tup_dataLe] at eo
    have perm : (L.mergeSort fun p q => decide (p.2 ≤ q.2)).Perm L := List.mergeSort_perm ..
    have ev : out = (L.mergeSort fun p q => decide (p.2 ≤ q.2)).map fun x => Value.ref x.1 := by
      have key : ∀ {o : List Value} {M : List (Addr × List Int)}, PySem.W.EachIs (fun (v : Value) (b : Addr × List Int) => v = .ref b.1) o M → o = M.map fun x => Value.ref x.1 := fun e => by
        induction e with
        | nil => rfl
        | cons h t ih => rw [List.map_cons, ← ih, h]
      exact key eo
    have pw : (L.mergeSort fun p q => decide (p.2 ≤ q.2)).Pairwise fun p q => p.2 ≤ q.2 := by
      refine (List.pairwise_mergeSort (fun a b c h1 h2 => ?_) (fun a b => ?_) L).imp fun h => of_decide_eq_true h
      · exact decide_eq_true (List.le_trans (of_decide_eq_true h1) (of_decide_eq_true h2))
      · rw [Bool.or_eq_true]
        rcases List.le_total a.2 b.2 with h | h
        · exact .inl (decide_eq_true h)
        · exact .inr (decide_eq_true h)
    generalize (L.mergeSort fun p q => decide (p.2 ≤ q.2)) = zs at *
    have lz : (zs.map fun z => V.ref z.1).length ≤ sizeLine := by rw [List.length_map, perm.length_eq, sizeLine_eq]; omega
    have vz : Vals (zs.map fun z => V.ref z.1) out := by
      rw [ev]
      have key := vals_refs (zs.map fun z => z.1)
      rw [List.map_map, List.map_map] at key
      exact key
    refine wpAny_pure ⟨_, rfl, .ref h'.objs.size, upd H h'.objs.size (.lst (zs.map fun z => V.ref z.1)), I1.laid (t' := tk) (fun b u e => ?_) (Nat.le_refl _)
      (show ObjOk X.prog X.w _ _ _ (.lst (zs.map fun z => V.ref z.1)) from ⟨lz, out, e', vz, he'⟩), rfl, q _ zs (I1.hok.fresh (Nat.le_refl _)) (by rw [← hL2]; exact perm.map _) (by rw [List.pairwise_map]; exact pw) fun z hz => hL3 z (perm.mem_iff.mp hz)⟩
    have hb : b < h'.objs.size := Heap.lt_size e
    rw [PyProof.Rows.sortedHeap_old (Nat.ne_of_lt hb) (by rw [size_push']; exact Nat.lt_succ_of_lt hb)]
    exact Heap.get?_push_of_some _ e
end
/-! ### set(xs) of a list of ints -/
abbrev nset (w : World) : Obj := { cls := .type "set", dict := none, data := .set #[] 0 (.fresh 0 0 (!w.params.followText "set-order")) }
section
variable {P : Program} {w : World} {A : Around} {E : Value → Shared → Prop} {s : Shared}
theorem madeI {l : Addr} {items : Array Value} {xs : List Int} {Q : Value → Shared → Prop} (hh : A.handled = none) (hl : s.heap.IsList l items) (hi : IntsAre items.toList xs) (room : xs.length + 1 < scanBound)
    (q : ∀ (h' : Heap) (tk c : Nat), SetR w h' s.heap.objs.size (fun j => decide (j ∈ xs)) c → c ≤ xs.length → (∀ b o, s.heap.get? b = some o → h'.get? b = some o) → Q (.ref s.heap.objs.size) { s with heap := h', toks := tk }) :
    wpAny (model P w) A (call (.type "set") [.ref l]) Q E s := by
  have isz : items.size = xs.length := by rw [← IntsAre.length hi, Array.length_toList]
  obtain ⟨c, tl, hmro⟩ := PySem.F.called_set.mro
  have g1 := PySem.F.called_set.made
  have g2 := PySem.F.called_set.sub
  have g3 := PySem.F.called_set.notType
  have g4 := PySem.F.called_set.canCreate
  have g5 := PySem.F.typeCall_set_1 (.ref l)
  refine wpAny_call (codeAny_of_tree ?_)
  show wpAny _ _ (callAny (.type "set") _) _ _ _
  refine wpAny_pure ⟨Code.quiet_builtin _ (by decide +kernel), codeAny_builtin PySem.F.entry_type_call ?_⟩
  rw [Around.under_plain (weight_type_call_type "set" [.ref l] []) rfl]
  repeat (any_goals (first | assumption | wp_step))
  refine codeAny_mono (code_set_led1 (.ref l) (E := E) (Q₁ := fun ob s₁ => ob = .ref s.heap.objs.size ∧ s₁ = { s with heap := s.heap.push (nset w) }) ⟨rfl, rfl⟩) fun r s₁ hr => ?_
  cases r with
  | error e => exact hr
  | ok fl =>
    cases fl with
    | ret ob =>
      obtain ⟨rfl, rfl⟩ := hr
      have hS : (s.heap.push (nset w)).get? s.heap.objs.size = some (nset w) := Heap.get?_push_size _ rfl
      have hT : Shared.TypeIs { s with heap := s.heap.push (nset w) } (.ref s.heap.objs.size) "set" := ⟨_, hS, rfl⟩
      have g6 := PySem.F.called_set.init.lookup
      have g7 := PySem.F.called_set.init.bind (.ref s.heap.objs.size)
      repeat (any_goals (first | assumption | wp_step))
      refine codeAny_mono (codeAny_call_builtin (R := wants (fun r s₂ => r = .none ∧ ∃ h' tk c, s₂ = { s with heap := h', toks := tk } ∧ SetR w h' s.heap.objs.size (fun j => decide (j ∈ xs)) c ∧ c ≤ xs.length ∧ ∀ b o, s.heap.get? b = some o → h'.get? b = some o) E)
        PySem.F.called_set.init.plain PySem.F.entry_set_init (check_set_init_1 hT ?_)) fun r₂ s₂ hr₂ => ?_
      · obtain ⟨⟨ocls, odict, odata, oslots⟩, hol, hcl, nl, hdl⟩ := hl
        simp only at hcl hdl
        subst hcl hdl
        have hol2 : (s.heap.push (nset w)).get? l = some { cls := .type "list", dict := odict, data := .seq items nl, slots := oslots } := Heap.get?_push_of_some _ hol
        have t1 := PySem.F.sub_list_set
        have t2 := PySem.F.sub_list_frozenset
        have t3 : (Value.type "list" == Value.type "dict") = false := by decide
        have hl1 : (s.heap.push (nset w)).IsList l items := ⟨_, hol2, rfl, nl, rfl⟩
        unfold Builtin.«set.__init__» noKeywords Builtin.Frozenset.updateFrom
        generalize hPI : pyIter = PI
        wp_walk
        subst hPI
        refine wpAny_pyIter_list hl1 (wpAny_bind (wpAny_runValue ?_))
        have lS : l < s.heap.objs.size := Heap.lt_size hol
        have h3 : A.in1.in1.in1.handled = none := by simp [hh]
        have z1 : (s.heap.push (nset w)).objs.size = s.heap.objs.size + 1 := Heap.size_push ..
        have nI : l ≠ (s.heap.push (nset w)).objs.size := by
          rw [z1]
          exact Nat.ne_of_lt (Nat.lt_succ_of_lt lS)
        have nS : s.heap.objs.size ∉ [(s.heap.push (nset w)).objs.size, l] := by
          rw [z1]
          simp only [List.mem_cons, List.not_mem_nil, or_false, not_or]
          exact ⟨Nat.ne_of_lt (Nat.lt_succ_self _), Nat.ne_of_gt lS⟩
        have vl : ∀ (i : Nat) (v : Value), items[i]? = some v → ∃ z u, xs[i]? = some z ∧ v = .int z u := fun i v hv => by
          obtain ⟨u, e⟩ := PyProof.Rows.IntsAre.int_at hi i v (by rw [Array.getElem?_toList]; exact hv)
          have lt : i < xs.length := by
            obtain ⟨b, _⟩ := Array.getElem?_eq_some_iff.mp hv
            omega
          exact ⟨xs.getD i 0, u, by rw [List.getD_eq_getElem?_getD, List.getElem?_eq_getElem lt]; rfl, e⟩
        refine set_update_ints ((Walks.list h3 _ l nI items).toS) s.heap.objs.size nS xs isz (by omega) vl (items.size - 0) 0 _ (by omega) (Nat.zero_le _) ⟨⟨_, Heap.get?_push_size _ rfl, rfl, rfl⟩, (hl1.push _)⟩ ?hS0 ?hR
        case hS0 => exact ⟨0, Nat.le_refl 0, setR_new_at (Heap.get?_push_of_some _ hS)⟩
        case hR =>
          rintro ⟨h', g', d', tk', os'⟩ c mv r2 r1
          obtain rfl : g' = s.gens := mv.gens
          obtain rfl : d' = s.drawn := mv.drawn
          obtain rfl : os' = s.os := mv.os
          show wpAny _ _ _ _ _ _
          refine wpAny_pure (wpAny_pure ⟨rfl, h', tk', c, rfl, r1, isz ▸ r2, fun b o e => ?_⟩)
          have lb := Heap.lt_size e
          refine mv.heap b o ?_ (Heap.get?_push_of_some _ (Heap.get?_push_of_some _ e))
          simp only [List.mem_cons, List.not_mem_nil, or_false, not_or]
          exact ⟨Nat.ne_of_lt lb, by rw [z1]; exact Nat.ne_of_lt (Nat.lt_succ_of_lt lb)⟩
      · cases r₂ with
        | error e => exact hr₂
        | ok fl₂ =>
          cases fl₂ with
          | ret r =>
            obtain ⟨rfl, h', tk, c, rfl, r1, r2, r3⟩ := hr₂
            repeat (any_goals (first | assumption | wp_step))
            exact q _ _ _ r1 r2 r3
          | _ => exact hr₂.elim
    | _ => exact hr.elim
end
def rSetOfL (K : PySem.W.Frag) (w : World) : List V → Hp → VK → Prop := fun vs H Q => ∃ (p : Addr) (ns : List Int), vs = [V.ref p] ∧ SqL K H p (ns.map V.int) ∧ ns.length ≤ 1000 ∧ ∀ a n, H a = none → n ≤ ns.length → Q (.ref a) (upd H a (SetO w a (fun j => decide (j ∈ ns)) n))
theorem cr_setOfL {X : Cx} (hc : X.calm = true) : CallR X (.type "set") (rSetOfL X.K X.w) := by
  intro pins s σ H xs us Q I r h
  obtain ⟨p0, ns, rfl, hq, hl, q⟩ := h
  cases r with
  | cons r rr =>
    cases rr
    cases r
    obtain ⟨its, rv, pt, hz⟩ := I.list hq
    have hi : IntsAre its.toArray.toList ns := ints_of_vals rv
    refine madeI (I.ok.hd hc) pt.isList hi (by unfold scanBound; omega) fun h' tk c R1 hcn k => ?_
    exact ⟨.ref _, upd H s.heap.objs.size (SetO X.w s.heap.objs.size (fun j => decide (j ∈ ns)) c), I.laid (t' := tk) k (Nat.le_refl _) (setO_new R1), rfl, q _ _ (I.hok.fresh (Nat.le_refl _)) hcn⟩
theorem k_setOfL {X : Cx} {K : PySem.W.Frag} {w : World} (hc : X.calm = true) (e : X.K = K) (e' : X.w = w) : CallR X (.type "set") (rSetOfL K w) := e ▸ e' ▸ cr_setOfL hc
theorem x_setOfL {K : PySem.W.Frag} {H : Hp} {Q : VK} {w : World} {p : Addr} {ns : List Int} (h : SqL K H p (ns.map V.int)) (hl : ns.length ≤ 1000) (k : ∀ a H2 n, Fr a H → Same H H2 → H2 a = some (SetO w a (fun j => decide (j ∈ ns)) n) → n ≤ ns.length → Q (.ref a) H2) : rSetOfL K w [.ref p] H Q :=
  ⟨p, ns, rfl, h, hl, fun a n h1 h2 => k a _ n ⟨h1⟩ (same_new h1) upd_same h2⟩
/-! ### list(d.values()) -/
def tListVals (td : TE) : TE := fun σ H Q => td σ H fun x H1 => ∃ a kvs, x = V.ref a ∧ H1 a = some (.dK kvs) ∧ ∀ p, H1 p = none → Q (.ref p) (upd H1 p (.lst (kvs.map (·.2))))
theorem vals_kv : ∀ {kvs : List (L2.Key × V)} {vs : List (L2.Key × Value)}, KV kvs vs → Vals (kvs.map (·.2)) (vs.map (·.2))
  | [], _, r => by
    cases r
    exact .nil
  | p :: kvs, _, r => by
    cases r with
    | cons h t => exact .cons h.2 (vals_kv t)
section
variable {X : Cx} {o : Expr} {p pos apos mpos : Pos} {td : TE}
theorem pe_listVals (hc : X.calm = true) (hg : Gl X "list") (hm : X.mg "list" = none) (hd : PE X o td) (hbase : attributeBase o "values" X.env (eval o X.env) = eval o X.env := by rfl) (hline : (apos.endLine == mpos.line) = true := by rfl)
    (hse : starEach [Expr.Call (.Attribute o "values" apos) [] [] mpos] X.env = [(false, eval (Expr.Call (.Attribute o "values" apos) [] [] mpos) X.env)] := by rfl) :
    PE X (.Call (.Name "list" p) [.Call (.Attribute o "values" apos) [] [] mpos] [] pos) (tListVals td) := by
  refine ⟨fun pins s σ H Q I h => ?_⟩
  refine wpAny_Call_Name_kw (ld_blt I hg hm (u := .type "list") (by first | rfl | decide +kernel) ?_ (by first | decide +kernel | decide) (by first | decide +kernel | decide))
  rw [hse]
  refine PySem.callWith_type1 (wpAny_Call_method0_late hbase hline (thn (hd.run pins s σ H _ I h) fun v s1 ⟨x, H1, I1, r1, a, kvs, ex, ha, q⟩ => ?_))
  subst ex
  obtain rfl : v = Value.ref a := r1
  obtain ⟨hz, hsys, vs, rel, dof⟩ := dk_of I1.hok ha
  obtain ⟨ep, dat⟩ := dof.dictAt
  have dat' := dat
  obtain ⟨ob, es, ho, ex, hdat, hko, hpr, hnd⟩ := dat'
  refine ⟨"dict", "dict.values", PySem.F.plainAttrs_dict, PySem.F.slot_dict_values, PySem.F.type_dict_values, ⟨ob, ho, ex.1⟩, fun b e => ?_, Calls.callWith_builtin rfl (PySem.evalArgs_none ?_)⟩
  · cases e
    exact ⟨ob, ho, ex.2.1⟩
  refine call_meetsIn PySem.F.slot_dict_values ⟨ob, ho, ex.1⟩ PySem.F.entry_dict_values (PySem.F.args_dict_values_1 _) (meets_dict_values (mixKind X.prog X.w) a hsys) ⟨⟨vs, dof⟩, ?_⟩
  have k1 : ∀ b u, s1.heap.get? b = some u → (s1.heap.push { cls := .type "dict_values", data := .fields #[.ref a] }).get? b = some u := fun b u e => Heap.get?_push_of_some _ e
  have dat1 : (s1.heap.push { cls := .type "dict_values", data := .fields #[.ref a] }).DictAt (mixKind X.prog X.w) a vs ep := dat.keep k1
  have hlv : vs.length = kvs.length := (KV.length rel).symm
  have hlt : a < s1.heap.objs.size := Heap.lt_size ho
  refine PySem.W.kdl_call (s := { s1 with heap := s1.heap.push { cls := .type "dict_values", data := .fields #[.ref a] } }) (PySem.W.kdl_values (knd := mixKind X.prog X.w) (r := s1.heap.objs.size) (d := a) (kvs := vs) (ep := ep)) (I.ok.hd hc) ⟨⟨_, Heap.get?_push_size _ rfl, rfl, rfl⟩, dat1⟩ (by rw [hlv]; exact hz) fun h' tk acc' c' kp e it => ?_
  have ea : acc'.toList = vs.map (·.2) := by
    have hl : acc'.toList.length = vs.length := by rw [Array.length_toList, it.1]
    apply List.ext_getElem?
    intro j
    rw [List.getElem?_map]
    cases hj : acc'.toList[j]? with
    | none =>
      have h1 := List.getElem?_eq_none_iff.mp hj
      rw [List.getElem?_eq_none (by omega)]
      rfl
    | some v =>
      obtain ⟨k, hk⟩ := it.2 j v (by rw [← Array.getElem?_toList]; exact hj)
      rw [hk]
      rfl
  have hsz : (s1.heap.push { cls := .type "dict_values", data := .fields #[.ref a] }).objs.size = s1.heap.objs.size + 1 := Heap.size_push _ _
  have rv : Vals (kvs.map (·.2)) acc'.toList := by
    rw [ea]
    exact vals_kv rel
  refine ⟨.ref _, upd H1 (s1.heap.push { cls := .type "dict_values", data := .fields #[.ref a] }).objs.size (.lst (kvs.map (·.2))), I1.laid (t' := tk) (fun b u e => kp b u (k1 b u e)) (by rw [hsz]; exact Nat.le_succ _) ⟨by rw [List.length_map]; exact hz, acc'.toList, c', rv, by rw [Array.toArray_toList]; exact e⟩, rfl, q _ (I1.hok.fresh (by rw [hsz]; exact Nat.le_succ _))⟩
end
end Xk

namespace Xk
open PySem PySem.Spec PyProof.Rows L2
section
variable {X : Cx}
/-- max(xs) of a list of data of one shape, not empty: an item whose data is the greatest -/
def rMaxX (K : PySem.W.Frag) : List V → Hp → VK → Prop := fun vs H Q => ∃ (a : Addr) (b : V × PyData) (bs : List (V × PyData)), vs = [V.ref a] ∧ SqL K H a ((b :: bs).map (·.1)) ∧ (∀ c ∈ b :: bs, Dp K H c.1 c.2 ∧ c.2.depth ≤ 9) ∧
  PySem.W.AlikeAll ((b :: bs).map (·.2)) ∧ ∀ c ∈ b :: bs, c.2 = PySem.W.maxD b.2 (bs.map (·.2)) → Q c.1 H
theorem readsAll_of {h : Heap} : ∀ {its : List Value} {bs : List (V × PyData)}, PySem.W.EachIs (fun u (b : V × PyData) => RelV b.1 u ∧ ∃ as, Reads h u b.2 as) its bs → ∃ as, ReadsAll h its (bs.map (·.2)) as
  | _, _, .nil => ⟨_, .nil⟩
  | _, _, .cons h t => by
    obtain ⟨_, _, r⟩ := h
    obtain ⟨_, rs⟩ := readsAll_of t
    exact ⟨_, .cons r rs⟩
theorem each_at {R : Value → V × PyData → Prop} : ∀ {its : List Value} {bs : List (V × PyData)} {i : Nat} {u : Value}, PySem.W.EachIs R its bs → its[i]? = some u → ∃ b ∈ bs, R u b
  | _, _, _, _, .nil, e => by cases e
  | _, _, 0, _, .cons h _, e => ⟨_, List.mem_cons_self .., Option.some.inj (show some _ = some _ from e) ▸ h⟩
  | _, _, i + 1, _, .cons _ t, e => by
    obtain ⟨b, hb, r⟩ := each_at (i := i) t (by simpa using e)
    exact ⟨b, List.mem_cons_of_mem _ hb, r⟩
theorem depth9 : ∀ {bs : List (V × PyData)}, (∀ c ∈ bs, c.2.depth ≤ 9) → PyData.depthAll (bs.map (·.2)) ≤ 9
  | [], _ => Nat.zero_le _
  | b :: r, h => Nat.max_le.mpr ⟨h b (List.mem_cons_self ..), depth9 fun c hc => h c (List.mem_cons_of_mem _ hc)⟩
theorem k_maxX0 (hc : X.calm = true) (hu : X.A.units + 64 < cLine) : CallR X (.builtin "max") (rMaxX X.K) := by
  intro pins s σ H vs us Q I r h
  obtain ⟨a, b, bs, rfl, hs, hd, hal, q⟩ := h
  obtain ⟨its, rv, hl, hz⟩ := I.list hs
  rw [Vals.ref1 r]
  have e := eachV (R := fun u d => ∃ as, Reads s.heap u d as) rv fun c hc u ru => Dp.reads I c.2 c.1 u (hd c hc).1 ru
  obtain ⟨as, ra⟩ := readsAll_of e
  have dp := depth9 fun c hc => (hd c hc).2
  refine PySem.W.max_list_data (I.ok.hd hc) hl.isList (x := b.2) (xs := bs.map fun c : V × PyData => c.2) (as := as) (by simpa using ra) hal (by have dp' : PyData.depthAll (b.2 :: bs.map (·.2)) ≤ 9 := dp; omega) fun i v h' tk bs' hv rd hk => ?_
  obtain ⟨c, hc', r1, as1, r2⟩ := each_at e (by simpa using hv)
  have ed := (PyProof.Rows.reads_det (fun b o e _ => hk b o e) r2 rd).1
  exact ⟨c.1, H, I.kept hk, r1, q c hc' ed.symm⟩
theorem k_maxX {K : PySem.W.Frag} (hc : X.calm = true) (hu : X.A.units + 64 < cLine) (e : X.K = K) : CallR X (.builtin "max") (rMaxX K) := e ▸ k_maxX0 hc hu
theorem setR_le {w : World} {h : Heap} {a : Addr} {S : Int → Bool} {n : Nat} (R : SetR w h a S n) {ms : List Int} (hs : ∀ k, S k = true → k ∈ ms) : n ≤ ms.length := by
  obtain ⟨o, es, ep, t, _, _, _, _, nd, mem, _, _, rfl, _⟩ := R
  have z := nd.length_le_of_subset (l₂ := ms) fun k hk => hs k ((mem k).mpr hk)
  rw [List.length_map, Array.length_toList] at z
  exact z
def rSetOfM (K : PySem.W.Frag) (w : World) : List V → Hp → VK → Prop := fun vs H Q => ∃ (p : Addr) (ns : List Int), vs = [V.ref p] ∧ SqL K H p (ns.map V.int) ∧ ns.length ≤ 1000 ∧ ∀ a n, H a = none → (∀ ms : List Int, (∀ x ∈ ns, x ∈ ms) → n ≤ ms.length) → Q (.ref a) (upd H a (SetO w a (fun j => decide (j ∈ ns)) n))
theorem cr_setOfM (hc : X.calm = true) : CallR X (.type "set") (rSetOfM X.K X.w) := by
  intro pins s σ H xs us Q I r h
  obtain ⟨p0, ns, rfl, hq, hl, q⟩ := h
  cases r with
  | cons r rr =>
    cases rr
    cases r
    obtain ⟨its, rv, pt, hz⟩ := I.list hq
    have hi : IntsAre its.toArray.toList ns := ints_of_vals rv
    refine madeI (I.ok.hd hc) pt.isList hi (by unfold scanBound; omega) fun h' tk c R1 hcn k => ?_
    exact ⟨.ref _, upd H s.heap.objs.size (SetO X.w s.heap.objs.size (fun j => decide (j ∈ ns)) c), I.laid (t' := tk) k (Nat.le_refl _) (setO_new R1), rfl, q _ _ (I.hok.fresh (Nat.le_refl _)) fun ms hm => setR_le R1 fun k hk => hm k (of_decide_eq_true hk)⟩
theorem k_setOfM {K : PySem.W.Frag} {w : World} (hc : X.calm = true) (e : X.K = K) (e' : X.w = w) : CallR X (.type "set") (rSetOfM K w) := e ▸ e' ▸ cr_setOfM hc
theorem x_setOfM {K : PySem.W.Frag} {H : Hp} {Q : VK} {w : World} {p : Addr} {ns : List Int} (h : SqL K H p (ns.map V.int)) (hl : ns.length ≤ 1000) (k : ∀ a H2 n, Fr a H → Same H H2 → H2 a = some (SetO w a (fun j => decide (j ∈ ns)) n) → (∀ ms : List Int, (∀ x ∈ ns, x ∈ ms) → n ≤ ms.length) → Q (.ref a) H2) : rSetOfM K w [.ref p] H Q :=
  ⟨p, ns, rfl, h, hl, fun a n h1 h2 => k a _ n ⟨h1⟩ (same_new h1) upd_same h2⟩
theorem k_slT {K : PySem.W.Frag} (e : X.K = K) : SlR X (rSlA K) := e ▸ sl_tupA
theorem k_catT {K : PySem.W.Frag} (e : X.K = K) : OpR X (binaryOp .Add) (rCatA K) := e ▸ op_catA
end
/-! e.f op= value -/
def rFldA (K : PySem.W.Frag) (tv : TE) (rd : V → V → Hp → VK → Prop) (f : Str) (σ : L2.St) (R : Hp → Prop) : VK := fun x H1 => ∃ a C dx fs v, x = .ref a ∧ H1 a = some (.ins C dx fs) ∧ Cls K C ∧ NoAttr K C f ∧ fs.lookup f = some v ∧
  tv σ H1 fun y H2 => rd v y H2 fun z H3 => ∃ dx' fs', H3 a = some (.ins C dx' fs') ∧ fs'.length < 1000 ∧ R (upd H3 a (.ins C dx' (putF f z fs')))
theorem x_sfldaug {K : PySem.W.Frag} {ta tv : TE} {rd : V → V → Hp → VK → Prop} {f : Str} {D : Ends} {σ : L2.St} {H : Hp} (q : ta σ H (rFldA K tv rd f σ (D.nx σ))) : sFldAug K ta tv rd f D σ H := q
theorem x_ssfldaug {K : PySem.W.Frag} {ta tv : TE} {rd : V → V → Hp → VK → Prop} {f : Str} {D : Ends} {σ : L2.St} {H : Hp} {tz : TS} (q : ta σ H (rFldA K tv rd f σ fun H2 => tz D σ H2)) : tSeq (sFldAug K ta tv rd f) tz D σ H := q
end Xk

/-! what is never reached; len of a text or a tuple; n *= 128; "".join -/
namespace Xk
open PySem PySem.Spec PyProof.Rows L2
section
variable {X : Cx} {K : PySem.W.Frag} {σ : L2.St} {H : Hp} {Q : VK}
def tNever : TS := fun _ _ _ => False
theorem ps_never {st : Stmt} : PS X st tNever := ⟨fun _ _ _ _ _ _ h => h.elim⟩
def nLenX (K : PySem.W.Frag) : List V → Hp → VK → Prop := fun xs H Q => nLenS xs H Q ∨ nLen K xs H Q
theorem k_lenX (e : X.K = K) : CallR X (.builtin "len") (nLenX K) := fun pins s σ H xs us Q I hv h => by
  rcases h with h | h
  · exact call_nLenS pins s σ H xs us Q I hv h
  · exact k_len e pins s σ H xs us Q I hv h
theorem x_lenXS {z : Str} (h : z.length ≤ 100000) (q : Q (.int z.length) H) : nLenX K [.str z] H Q := .inl (x_nLenS h q)
theorem x_lenXT {p : Addr} {ys : List V} (h : SqT K H p ys) (q : Q (.int ys.length) H) : nLenX K [.ref p] H Q := .inr ⟨p, ys, rfl, .inr h, q⟩
/-- n *= 128 -/
def ip128 : TIp := fun x y H Q => ∃ i, x = .int i ∧ y = .int 128 ∧ Q (.int (i * 128)) H
theorem ip_mul128 : PIp X .Mult ip128 := by
  intro pins s σ H x y v u Q I r1 r2 h
  obtain ⟨i, e1, e2, q⟩ := h
  subst e1
  subst e2
  obtain ⟨t, rfl⟩ := r1
  obtain ⟨t2, rfl⟩ := r2
  exact imul_int ⟨.int _, H, I.tok _, ⟨_, rfl⟩, q⟩ (IntMulOk.of_right (by decide))
theorem x_ip128 {i : Int} (q : Q (.int (i * 128)) H) : ip128 (.int i) (.int 128) H Q := ⟨i, rfl, rfl, q⟩
/-- sep.join(texts) -/
def rJoin (K : PySem.W.Frag) (x : V) (xs : List V) (H : Hp) (Q : VK) : Prop := ∃ a p, ∃ ys : List Str, x = .str a ∧ xs = [.ref p] ∧ (SqL K H p (ys.map V.str) ∨ SqT K H p (ys.map V.str)) ∧ (ys.map (·.length)).sum + ys.length * a.length ≤ 16777216 ∧ Q (.str (Txt.join a ys)) H
theorem k_join (e : X.K = K) : MtR X "str.join" (rJoin K) := e ▸ mt_join
end
end Xk

/-! exceptions of own classes: raised by methods, caught, handed to a def within the suite -/
namespace Xk
open PySem PySem.Spec PyProof.Rows L2
/-- a class of errors without __init__ -/
structure ExR (K : PySem.W.Frag) (D : Addr) : Prop where
  q : PySem.W.excIn K D [.type "ValueError", .type "Exception", .type "BaseException", .type "object"] "ValueError.__new__" = true
  k : PySem.W.keepIn K (.ref D) = true
  b : PySem.W.subIn K (.ref D) (.type "BaseException") = some true
  t : PySem.W.typeIn K (.ref D) = some (.type "type")
  c : ExcC K D
  s : PySem.W.subIn K (.ref D) (.ref D) = some true
/-- a class that an except clause or isinstance names -/
structure ClsX (K : PySem.W.Frag) (C : Addr) : Prop where
  b : PySem.W.subIn K (.ref C) (.type "BaseException") = some true
  d : PySem.W.hasDictIn K C = true
  t : PySem.W.typeIn K (.ref C) = some (.type "type")
theorem kit_ref {K : PySem.W.Frag} {D C : Addr} {b : Bool} (R : ExR K D) (N : ClsX K C) (h : PySem.W.subIn K (.ref D) (.ref C) = some b) : PySem.W.kitOne K (.ref D) (.ref C) = some b := by
  unfold PySem.W.kitOne
  by_cases e : D = C
  · subst e
    rw [if_pos (by simp), ← h, R.s]
  · rw [if_neg (by simpa using e)]
    obtain ⟨cd, hc, _⟩ := PySem.W.any_some N.d
    have e2 : ((PySem.W.clsIn K C).isSome && PySem.W.typeIn K (.ref C) == some (.type "type")) = true := by rw [hc, N.t] <;> rfl
    show (if ((PySem.W.clsIn K C).isSome && PySem.W.typeIn K (.ref C) == some (.type "type")) = true then PySem.W.subIn K (.ref D) (.ref C) else none) = some b
    rw [if_pos e2, h]
theorem kit_type {K : PySem.W.Frag} {D : Addr} {T : String} {b : Bool} (m : PySem.W.kitMeta T = true) (h : PySem.W.subIn K (.ref D) (.type T) = some b) : PySem.W.kitOne K (.ref D) (.type T) = some b := by
  unfold PySem.W.kitOne
  rw [if_neg (by simp)]
  show (if PySem.W.kitMeta T = true then PySem.W.subIn K (.ref D) (.type T) else none) = some b
  rw [if_pos m, h]
theorem exm_one {K : PySem.W.Frag} {C : Addr} {cls : Value} {b : Bool} (N : ClsX K C) (h : PySem.W.subIn K cls (.ref C) = some b) : PySem.W.exmOne K cls (.ref C) = some b := PySem.W.exm_ref N.b N.d N.t h

/-! ### calls of methods that may raise -/
def rMthE (m : Str) (sp : Sp) (Ex : L2.St → XK) (tr : TA) (σ : L2.St) (Q : VK) (C : Addr) : V → Hp → Prop := fun x H1 => ∃ a dx fs, x = .ref a ∧ H1 a = some (.ins C dx fs) ∧ fs.lookup m = none ∧ tr σ H1 fun vs H2 => sp (x :: vs) H2 Q (Ex σ)
def tMthE (C : Addr) (m : Str) (sp : Sp) (Ex : L2.St → XK) (ta : TE) (tr : TA) : TE := fun σ H Q => ta σ H (rMthE m sp Ex tr σ Q C)
section
variable {X : Cx} {CT : CXT} {k : Nat} {f C : Addr} {fd : FuncData} {ps : List Str} {sp : Sp} {Ex : L2.St → XK} {m : Str} {o e1 : Expr} {es : List Expr} {ta : TE} {tr : TA} {apos pos : Pos}
theorem pe_mthE {pl : Sem Bool} (he : PE X o ta) (c : Cls X.K C) (hm : Meth X.K C m f) (F : FnOk X.prog X.w X.K X.mg X.base CT k f fd ps sp) (hr : Room k X.A) (hb : Binds X.K fd ps [])
    (hx : ∀ σ, PassesAt CT X σ (Ex σ)) (ha : PA X (e1 :: es) tr) (hst : starEach (e1 :: es) X.env = (false, eval e1 X.env) :: starEach es X.env := by rfl)
    (hpl : (backTo pos (starEach es X.env)).any (·.1) = false := by rfl)
    (ht : eval (.Call (.Attribute o m apos) (e1 :: es) [] pos) X.env = (do let ov ← eval o X.env; standAt apos.atName; let (f, first) ← holding [ov] (getMethod ov m pl); callWith pos f first (backTo pos (starEach (e1 :: es) X.env)) (backToKw pos (keywordEach [] X.env))) := by rfl) :
    PE X (.Call (.Attribute o m apos) (e1 :: es) [] pos) (tMthE C m sp Ex ta tr) := by
  constructor
  intro pins s σ H Q I h
  refine PySem.W.methodCall_KW (pl := pl) (thn (he.run pins s σ H _ I h) fun u s1 hu => ?_) ht
  obtain ⟨x, H1, I1, rx, a, dx, fs, ex, ea, l, q⟩ := hu
  subst ex
  have eu : u = Value.ref a := rx
  subst eu
  refine getmeth_ok I1 ea c hm l ?_
  refine PySem.W.callWith_K (first := [.ref a]) (h₀ := X.base) I.ok.mod.kin hm.kp (thn (ha.run pos pins s1 σ H1 _ I1 q) fun us s2 hu => ?_) hst hpl
  obtain ⟨vs, H2, I2, r, q2⟩ := hu
  exact ⟨I2.kIn, run_fnS (us := .ref a :: us) (vs := .ref a :: vs) F hr hb (hx σ) I2 (.cons rfl r) q2⟩
theorem x_mthE {σ : L2.St} {H : Hp} {Q : VK} (h : ta σ H (rMthE m sp Ex tr σ Q C)) : tMthE C m sp Ex ta tr σ H Q := h
theorem x_rMthE {σ : L2.St} {H : Hp} {Q : VK} {a dx : Addr} {fs : List (Str × V)} (h : H a = some (.ins C dx fs)) (l : fs.lookup m = none) (q : tr σ H fun vs H2 => sp (.ref a :: vs) H2 Q (Ex σ)) : rMthE m sp Ex tr σ Q C (.ref a) H :=
  ⟨a, dx, fs, rfl, h, l, q⟩
end

theorem x_callS {sp : Sp} {Ex : L2.St → XK} {tr : TA} {σ : L2.St} {H : Hp} {Q : VK} (q : tr σ H fun vs H1 => sp vs H1 Q (Ex σ)) : tCallS sp Ex tr σ H Q := q
/-! ### raise -/
def sRaise (W : WX) (C : Addr) : TS := fun _ σ H => W (.ref C) none σ H
theorem ps_raiseO {X : Cx} {W : WX} {C : Addr} {x m : Str} {j : Nat} {p p2 pos pos2 : Pos} (hc : X.calm = true) (tk : Takes X W) (R : ExR X.K C) (gC : X.mg x = some (.ref C)) (hg : Gl X x) (hdb : (x == ("__debug__" : Str)) = false := by decide) :
    PS X (.Raise (some (.Call (.Name x p) [.Constant (.str m) j p2] [] pos)) none pos2) (sRaise W C) :=
  ps_raise hc tk (pmk_own PySem.F.excBase_ValueError R.q gC R.k (raises_own R.b R.t) hg hdb)
theorem x_raise {W : WX} {C : Addr} {D : Ends} {σ : L2.St} {H : Hp} (q : W (.ref C) none σ H) : sRaise W C D σ H := q

/-! ### try: body, except x as n: suite -/
def sTryE (K : PySem.W.Frag) (c : Value) (i : Nat) (tb : WX → TS) (ts : Addr → Value → Option Addr → TS) : TS := fun D σ H => tb (wAs K c i ts (fun _ _ _ _ => False) D) D σ H
theorem ps_tryE {X : Cx} {x n : Str} {c : Value} {i : Nat} {body suite : List Stmt} {b₀ : Stmt} {np pos pos' : Pos} {tb : WX → TS} {ts : Addr → Value → Option Addr → TS} (hs : X.stack = X.env :: X.outer) (hf : X.env.frame = some X.env.locals) (hN : X.N.Nodup) (hi : X.N[i]? = some n)
    (hln : X.env.kindOf n = some .local) (hc : Names X x c)
    (hb : ∀ (W : WX) (pn : List (Addr × Obj)) (xe : Value → Shared → Prop), Takes (X.tr pn xe) W → PassesOwn (model X.prog X.w) X.A X.env xe → PSs (X.tr pn xe) body (tb W))
    (hsu : ∀ (a : Addr) (oe : Obj) (cls : Value) (d : Option Addr) (pn : List (Addr × Obj)), Zc cls d oe → (∃ vs, oe.data = .fields vs) → PSs (X.suite a ((a, oe) :: pn)) (b₀ :: suite) (ts a cls d)) :
    PS X (.Try body [.ExceptHandler (some (.Name x np)) (some n) (b₀ :: suite) pos'] [] [] pos) (sTryE X.K c i tb ts) :=
  ps_try_as hs hf hN hi hln hc takes0 hb hsu
theorem x_tryE {K : PySem.W.Frag} {c : Value} {i : Nat} {tb : WX → TS} {ts : Addr → Value → Option Addr → TS} {D : Ends} {σ : L2.St} {H : Hp} (q : tb (wAs K c i ts (fun _ _ _ _ => False) D) D σ H) : sTryE K c i tb ts D σ H := q
/-- a raise within the body that the clause takes -/
theorem x_was {K : PySem.W.Frag} {c cls : Value} {d : Option Addr} {i : Nat} {ts : Addr → Value → Option Addr → TS} {Wo : WX} {D : Ends} {σ : L2.St} {H : Hp} (e : PySem.W.exmOne K cls c = some true)
    (q : ∀ a, Fr a H → ts a cls d { nx := fun σ' H' => D.nx (σ'.set i none) H', rt := D.rt, bk := fun σ' H' => D.bk (σ'.set i none) H', ct := fun σ' H' => D.ct (σ'.set i none) H' } (σ.set i (some (.ref a))) H) : wAs K c i ts Wo D cls d σ H :=
  ⟨true, e, fun _ a ha => q a ⟨ha⟩, fun z => Bool.noConfusion z⟩

/-! ### a def that is called within the suite with the exception -/
structure FnE (P : Program) (w : World) (K : PySem.W.Frag) (mg : Str → Option Value) (base : Heap) (k : Nat) (f : Addr) (fd : FuncData) (ps : List Str) (sp : Addr → Value → Option Addr → Sp) : Prop where
  len : ∀ a c d vs H Q E, sp a c d vs H Q E → vs.length = ps.length
  run : ∀ (A : Around) (outer : List Env) (s : Shared) (H : Hp) (args : Args) (us : List Value) (vs : List V) (Q : VK) (E : XK) (p : Addr × Obj) (c : Value) (d : Option Addr), L2H.RoomH k A → Zc c d p.2 → (∃ ws, p.2.data = .fields ws) → L2H.PinOk outer H s p →
    Env0 P w K mg base A outer s H → BindsTo s fd args (ps.zip us) → Vals vs us → sp p.1 c d vs H Q E → codeAny (model P w) A (.call (.ref f) args) (CR L2.CX0 outer P w H s Q E) s
theorem funE {P : Program} {w : World} {K : PySem.W.Frag} {mg : Str → Option Value} {base : Heap} {x qual : Str} {st : Stmt} {f : Addr} {fd : FuncData} {N ps : List Str} {k : Nat} {sp : Addr → Value → Option Addr → Sp} (F : Fun K x qual st f fd) (S : FnScope N ps (defScope st))
    (len : ∀ a c d vs H Q E, sp a c d vs H Q E → vs.length = ps.length)
    (body : ∀ (cdv : Value) (A : Around) (outer : List Env) (s : Shared) (H : Hp) (vs : List V) (Q : VK) (E : XK) (p : Addr × Obj) (c : Value) (d : Option Addr), L2H.RoomH k (A.deeper (envOfC qual (defScope st) s.heap.objs.size f cdv)) → Zc c d p.2 → (∃ ws, p.2.data = .fields ws) → sp p.1 c d vs H Q E →
      ∃ t, PSs (L2H.cxH L2.CX0 P w K mg base N qual (defScope st) f cdv A outer s H E p).nox (defBody st) t ∧ t { nx := fun _ H' => Q .non H', rt := Q } (start N vs) H) : FnE P w K mg base (k + 1) f fd ps sp := by
  obtain ⟨oc, od, kV, doc, pm, an, cdv, ct, osl, rfl, lk, hcd⟩ := F.ex
  constructor
  · exact len
  intro A outer s H args us vs Q E p c d hr hz hf hpin e0 hb r hsp
  have hl := len _ _ _ _ _ _ _ hsp
  have KX : K.In s.heap := e0.mod.kin.keeps fun b o e => (e0.bs b o e).1
  have lim : s.heap.NoLimit := e0.mod.nolimit.keeps fun b o e => (e0.bs b o e).1
  have hkind : ∀ y ∈ ps.zip us, (defScope st).names.lookup y.1 = some .local ∨ ((defScope st).names.lookup y.1 = some .cell ∧ ((cellsFrom (s.heap.objs.size + 1) (defScope st).names []).lookup y.1).isSome = true) := by
    rintro ⟨n, v⟩ hy
    rcases S.par n (List.of_mem_zip hy).1 with q | q
    · exact .inl q
    · exact .inr ⟨q, PySem.W.cellsFrom_some _ _ _ (.inl q)⟩
  refine codeAny_call_function hr.depth (KX _ _ lk) rfl S.co S.gen rfl (PySem.W.codeRec_of KX hcd) (hb _ _ _ _ ?_)
  refine wpAny_newFunctionEnv_cells S.kind hkind fun env he s1 x => ?_
  subst he
  refine ⟨lim.keeps x.toInCall.keep, codeAny_func ?_⟩
  obtain ⟨t, ht, hq⟩ := body cdv A outer s H vs Q E p c d (hr.deeper _) hz hf hsp
  have I := L2H.inv_startH (CX := L2.CX0) (E := E) S hpin e0 hl r x
  refine wpAny_mono (ht.nox.run [] s1 (L2.start N vs) H _ I hq) (fun fl s' hs => ?_) fun e s' hs => hs
  cases fl with
  | ret u =>
    obtain ⟨v, σ', H', J, rv, q⟩ := hs
    exact ⟨v, H', J.os, J.bare, J.base, J.hok, rv, q⟩
  | next =>
    obtain ⟨σ', H', J, q⟩ := hs
    exact ⟨V.non, H', J.os, J.bare, J.base, J.hok, (rfl : Value.none = Value.none), q⟩
  | brk =>
    obtain ⟨_, _, _, q⟩ := hs
    exact False.elim q
  | cont =>
    obtain ⟨_, _, _, q⟩ := hs
    exact False.elim q
def tCallE (sp : Addr → Value → Option Addr → Sp) (a : Addr) (c : Value) (d : Option Addr) (tr : TA) : TE := fun σ H Q => tr σ H fun vs H1 => sp a c d vs H1 Q fun _ _ _ => False
section
variable {X : Cx} {k : Nat} {f a : Addr} {oe : Obj} {c : Value} {d : Option Addr} {fd : FuncData} {ps : List Str} {sp : Addr → Value → Option Addr → Sp} {x : Str} {p pos : Pos} {e1 : Expr} {es : List Expr} {tr : TA}
theorem pe_callE (F : FnE X.prog X.w X.K X.mg X.base k f fd ps sp) (hr : L2H.RoomH k X.A) (hp : (a, oe) ∈ X.pn) (hz : Zc c d oe) (hf : ∃ ws, oe.data = .fields ws) (hg : Gl X x) (hm : X.mg x = some (.ref f)) (hk : PySem.W.keepIn X.K (.ref f) = true) (hb : Binds X.K fd ps [])
    (ha : PA X (e1 :: es) tr) (hdb : (x == ("__debug__" : Str)) = false := by decide) (hst : starEach (e1 :: es) X.env = (false, eval e1 X.env) :: starEach es X.env := by rfl) (hpl : (backTo pos (starEach es X.env)).any (·.1) = false := by rfl) :
    PE X (.Call (.Name x p) (e1 :: es) [] pos) (tCallE sp a c d tr) := by
  constructor
  intro pins s σ H Q I h
  refine wpAny_Call_Name_kw (ld_glob I hg hm ?_ hdb)
  refine PySem.W.callWith_K (h₀ := X.base) I.ok.mod.kin hk (thn (ha.run pos pins s σ H _ I h) fun us s1 hu => ?_) hst hpl
  obtain ⟨vs, H1, I1, r, q⟩ := hu
  refine ⟨I1.kIn, ?_⟩
  have hl : us.length = ps.length := by rw [← r.length]; exact F.len _ _ _ _ _ _ _ q
  have b := hb s1 us I1.kIn (by rw [List.append_nil]; exact hl)
  rw [List.append_nil] at b
  have P1 := I1.pin (a, oe) (List.mem_append_left _ hp)
  have hpin : L2H.PinOk X.stack H1 s1 (a, oe) := ⟨P1.1, P1.2.1, fun hm => (List.mem_cons.mp (I1.stkSub a hm)).elim P1.2.2.1 P1.2.2.2.1, P1.2.2.2.2⟩
  show wpAny _ _ (call (.ref f) us) _ _ _
  refine wpAny_call (codeAny_mono (F.run X.A X.stack s1 H1 ⟨us, []⟩ us vs Q _ (a, oe) c d hr hz hf hpin I1.env0 b r q) fun r s' hq => ?_)
  cases r with
  | error e => exact (show False from hq).elim
  | ok fl =>
    cases fl with
    | ret u => exact I1.after hq
    | next => exact False.elim hq
    | brk => exact False.elim hq
    | cont => exact False.elim hq
theorem x_callE {σ : L2.St} {H : Hp} {Q : VK} (q : tr σ H fun vs H1 => sp a c d vs H1 Q fun _ _ _ => False) : tCallE sp a c d tr σ H Q := q
/-- isinstance(e, c): e the pinned exception -/
theorem call_isP {D : Addr} {q : Addr × Obj} (C : ExcC X.K D) (hp : q ∈ X.pn) (hz : Zc (.ref D) none q.2) (hf : ∃ ws, q.2.data = .fields ws) : CallR X (.builtin "isinstance") (rIsE X.K D q.1) := by
  intro pins s σ H xs us Q I r h
  obtain ⟨c, cv, b, rfl, hcv, e, q1⟩ := h
  obtain ⟨u1, u2, rfl, r1, r2⟩ := vals2 r
  have e1 : u1 = Value.ref q.1 := r1
  have e2 := hcv _ r2
  subst e1 e2
  obtain ⟨hget, _⟩ := I.pin q (List.mem_append_left _ hp)
  obtain ⟨vs, hv⟩ := hf
  have J : PySem.W.InstAt s.heap q.1 q.2 D none := by
    obtain ⟨b1, oc, od, oda, osl⟩ := q
    obtain ⟨h1, h2⟩ := hz
    dsimp only at h1 h2 hv
    subst h1 h2 hv
    exact ⟨hget, rfl, rfl, trivial⟩
  exact PySem.W.kia_one (PySem.W.handS_kitx_exc C.hg C.hk C.hs C.hd C.ha C.hn C.ht C.hm) I.kIn J e (fun z => nomatch z) fun tk => ⟨.bl b, H, I.kept (t' := tk) fun _ _ z => z, rfl, q1⟩
end
theorem k_isP {X : Cx} {K : PySem.W.Frag} {D : Addr} {q : Addr × Obj} (e : X.K = K) (C : ExcC K D) (hp : q ∈ X.pn) (hz : Zc (.ref D) none q.2) (hf : ∃ ws, q.2.data = .fields ws) : CallR X (.builtin "isinstance") (rIsE K D q.1) := by
  subst e
  exact call_isP C hp hz hf
theorem x_isE {K : PySem.W.Frag} {D a C : Addr} {b : Bool} {H : Hp} {Q : VK} (e : PySem.W.kitOne K (.ref D) (.ref C) = some b) (q : Q (.bl b) H) : rIsE K D a [.ref a, .ref C] H Q := ⟨.ref C, .ref C, b, rfl, fun _ r => r, e, q⟩
theorem x_isET {K : PySem.W.Frag} {D a : Addr} {c : String} {b : Bool} {H : Hp} {Q : VK} (e : PySem.W.kitOne K (.ref D) (.type c) = some b) (q : Q (.bl b) H) : rIsE K D a [.ref a, .ty c] H Q := ⟨.ty c, .type c, b, rfl, fun _ r => r, e, q⟩
end Xk

/-! an own error whose __init__(self, why="", line=0) says super().__init__(why), then self.line = line -/
namespace Xk
open PySem PySem.Spec PyProof.Rows L2 PySem.HandSPX PySem.W PySem.Calls
abbrev initFn (st : Stmt) (dT : Addr) (kV doc pm : Value) (an : Option Addr) (cda : Addr) (ct : Value) (cc : Addr) : FuncData := ksFn "__init__" "Malformed.__init__" (defArgs st) (defBody st) (defScope st) (.ref dT) kV doc pm an (.ref cda) ct cc
/-- the text of __init__ -/
structure MalS (st : Stmt) : Prop where
  body : ∃ p0 p1 p2 p3 p4 p5 q1 q2 q3 q4 : Pos, defBody st = [.Expr (.Call (.Attribute (.Call (.Name "super" p0) [] [] p1) "__init__" p2) [.Name "why" p3] [] p4) p5, .Assign [.Attribute (.Name "self" q1) "line" q2] (.Name "line" q3) q4] ∧
    (∀ env : Env, ∃ pl : Sem Bool, eval (.Call (.Attribute (.Call (.Name "super" p0) [] [] p1) "__init__" p2) [.Name "why" p3] [] p4) env = (do let ov ← attributeBase (.Call (.Name "super" p0) [] [] p1) "__init__" env (eval (.Call (.Name "super" p0) [] [] p1) env); standAt p2.atName; let (f, first) ← holding [ov] (getMethod ov "__init__" pl); callWith p4 f first (backTo p4 (starEach [.Name "why" p3] env)) [])) ∧
    ∀ env : Env, swapsWith (.Call (.Attribute (.Call (.Name "super" p0) [] [] p1) "__init__" p2) [.Name "why" p3] [] p4) none p5.line env = pure false
  kind : (defScope st).kind = .function
  co : (defScope st).isCoroutine = false
  gen : (defScope st).isGenerator = false
  nos : (defScope st).names.lookup ("self" : Str) = some .local
  now_ : (defScope st).names.lookup ("why" : Str) = some .local
  nol : (defScope st).names.lookup ("line" : Str) = some .local
  nsu : (defScope st).names.lookup ("super" : Str) = some .globalImplicit
  ncl : (defScope st).names.lookup ("__class__" : Str) = some .free
  nce : ∀ x ∈ (defScope st).names, x.2 ≠ .cell
  head : ∃ ar, ((defArgs st).posonlyargs ++ (defArgs st).args).head? = some ar ∧ ar.arg = "self"
  b2 : ∀ (dT : Addr) (kV doc pm : Value) (an : Option Addr) (cda : Addr) (ct : Value) (cc : Addr) (u v i1 i2 : Value), ∃ k, bindArgs (initFn st dT kV doc pm an cda ct cc) ⟨[u, v], []⟩ = seqItems? (.ref dT) >>= k ∧ k (some #[i1, i2]) = pure [(("self" : Str), u), (("why" : Str), v), (("line" : Str), i2)]
  b3 : ∀ (dT : Addr) (kV doc pm : Value) (an : Option Addr) (cda : Addr) (ct : Value) (cc : Addr) (u v z i1 i2 : Value), ∃ k, bindArgs (initFn st dT kV doc pm an cda ct cc) ⟨[u, v, z], []⟩ = seqItems? (.ref dT) >>= k ∧ k (some #[i1, i2]) = pure [(("self" : Str), u), (("why" : Str), v), (("line" : Str), z)]
/-- what stands of the class and its __init__ -/
structure MalT (P : Program) (K : Frag) (mg : Str → Option Value) (st : Stmt) (C fI : Addr) : Prop where
  gC : mg "Malformed" = some (.ref C)
  kC : keepIn K (.ref C) = true
  cls : ∃ nm q N bs bm sn sub ab col dd k0 k1 k2 k3 k5, K.lookup C = some (excClassObj nm q C N bs bm true sn sub ab col dd k0 k1 k2 k3 k5 "ValueError.__new__") ∧ refsVE bm = true
  iC : findIn K (.ref C) "__init__" = some (some (.ref fI))
  tI : typeIn K (.ref fI) = some (.type "function")
  sa : findIn K (.ref C) "__setattr__" = some (some (.builtin "object.__setattr__"))
  noN : findIn K (.ref C) "line" = some none
  eb : subIn K (.ref C) (.type "BaseException") = some true
  ev : subIn K (.ref C) (.type "ValueError") = some true
  ty : typeIn K (.ref C) = some (.type "type")
  mr : mroIn K C (.ref C) = some true
  ow : nsIn K cStatics "thirdparty.any" = some none
  sm : ks_superIn K C C "__init__" = some (some (.builtin "ValueError.__init__"))
  sup : mg "super" = none
  top : (P.main.scope.names.lookup ("super" : Str)).isSome = false
  fn : ∃ (oc : Value) (od : Option Addr) (dT : Addr) (kV doc pm : Value) (an : Option Addr) (cda : Addr) (ct : Value) (cc : Addr) (osl : Array (Option Value)), K.lookup fI = some ⟨oc, od, .func (initFn st dT kV doc pm an cda ct cc), osl⟩ ∧
    codeIn K (.ref cda) "Malformed.__init__" = true ∧ (∃ (dn : Option Addr) (n : Nat) (sd : Array (Option Value)) (t1 t2 : Tok), K.lookup dT = some ⟨.type "tuple", dn, .seq #[.str "" t1, .int 0 t2] n, sd⟩) ∧
    (∃ (cl : Value) (cld : Option Addr) (csl : Array (Option Value)), K.lookup cc = some ⟨cl, cld, .cell (some (.ref C)), csl⟩) ∧
    ∃ (ccl : Value) (cdd : Option Addr) (vs : Array Value) (ccs : Array (Option Value)) (file : Str) (tf : Tok), K.lookup cda = some ⟨ccl, cdd, .fields vs, ccs⟩ ∧ vs[2]? = some (.str file tf) ∧ ((P.main.file : Str) == file) = true
/-- what __init__ leaves -/
structure InitM (h h' : Heap) (x C dx : Addr) (v : Value) : Prop where
  keep : ∀ b o, b ≠ x → h.get? b = some o → h'.get? b = some o
  obj : ∃ t1 : Addr, h'.get? x = some (excObj C t1 (some dx) .none)
  dbig : h.objs.size ≤ dx
  dne : dx ≠ x
  ns : h'.Ns1 dx (fun y => if y = "line" then some v else none)
section
variable {prog : Program} {w : World} {A : Around} {E : Value → Shared → Prop} {h : Heap} {g : Array GenState} {d : Drawn} {t : Nat} {os : OsState} {K : Frag} {mg : Str → Option Value} {st : Stmt} {C fI : Addr}
/-- the bound __init__ of the base is called -/
theorem mw_call {u x t0 : Addr} {v1 : Value} {Q : Value → Shared → Prop} (T : MalT prog K mg st C fI) (X : K.In h) (hu : h.get? u = some (kxs_mw "ValueError.__init__" x)) (he : h.get? x = some (excObj C t0 none .none))
    (fin : ∀ h', (∀ b o, b ≠ x → h.get? b = some o → h'.get? b = some o) → h'.get? x = some (excObj C h.objs.size none .none) → Q .none ⟨h', g, d, t, os⟩) :
    wpAny (model prog w) A (call (.ref u) [v1]) Q E ⟨h, g, d, t, os⟩ := by
  obtain ⟨nm, q, N, bs, bm, sn, sub, ab, col, dd, k0, k1, k2, k3, k5, hC, hbm⟩ := T.cls
  have FB := F.excBase_ValueError
  refine wpAny_call (codeAny_of_tree ?_)
  show wpAny _ _ (callAny (.ref u) _) _ _ _
  simp only [callAny]
  refine wpAny_bind (wpAny_load hu ?_)
  simp only [show (Value.type "method-wrapper" == Value.type "method" || Value.type "method-wrapper" == Value.type "builtin_function_or_method" || Value.type "method-wrapper" == Value.type "method-wrapper") = true from by decide, if_true]
  refine KFB.if_so rfl ?_
  refine wpAny_bind (check_bound_init FB.toExcCallFacts (X _ _ hC) he rfl (wpAny_bind (wpAny_pure (wpAny_pure ?_))))
  refine ⟨plainId_quiet FB.init.plain _, codeAny_builtin FB.initEntry ?_⟩
  exact exc_init_tree (cls := .ref C) (dv := none) (c2 := .none) (c3 := .none) (b4 := .bool false) he (by rw [sizeLine_eq]; exact (by decide : 1 ≤ 16777216)) fun h' k e _ => fin h' k e
/-- the globals as they stand -/
structure GlobAt (mg : Str → Option Value) (h : Heap) : Prop where
  g : h.Ns mainGlobals mg
  b : ∃ mb, h.Ns builtinsNs mb ∧ ∀ x : Str, x ≠ "__name__" → mb x = bootBuiltins x
theorem GlobAt.keeps {h' : Heap} (G : GlobAt mg h) (k : ∀ b o, h.get? b = some o → h'.get? b = some o) : GlobAt mg h' := by
  obtain ⟨mb, h1, h2⟩ := G.b
  exact ⟨G.g.keeps k, mb, h1.keeps k, h2⟩
theorem mal_init {s : Shared} {x t0 : Addr} {v1 v2 : Value} {R : Result → Shared → Prop} {args : List Value} (T : MalT prog K mg st C fI) (S : MalS st) (X : K.In s.heap) (G : GlobAt mg s.heap) (hlim : s.heap.NoLimit) (hx : s.heap.get? x = some (excObj C t0 none .none)) (hnx : K.lookup x = none)
    (hroom : A.depth < recursionLimit) {PV : Value → Prop} (ha : (args = [.ref x, v1, v2] ∧ PV v2) ∨ (args = [.ref x, v1] ∧ ∀ tk, PV (.int 0 tk)))
    (hq : ∀ h' tk dx u, PV u → InitM s.heap h' x C dx u → R (.ok (.ret .none)) { s with heap := h', toks := tk }) : codeAny (model prog w) A (.call (.ref fI) ⟨args, []⟩) R s := by
  obtain ⟨oc, od, dT, kV, doc, pm, an, cda, ct, cc, osl, hf, hcd, ⟨dn, n, sd, tk1, tk2, hdT⟩, ⟨cl, cld, csl, hcc⟩, ccl, cdd, vs, ccs, file, tf, hcda, hvs, hfile⟩ := T.fn
  obtain ⟨nm, q, N, bs, bm, sn, sub, ab, col, dd, k0, k1, k2, k3, k5, hC, hbm⟩ := T.cls
  obtain ⟨p0, p1, p2, p3, p4, p5, q1, q2, q3, q4, hbody, hcall, hsw⟩ := S.body
  obtain ⟨ar, har, harn⟩ := S.head
  obtain ⟨v2, hPV, bb⟩ : ∃ u, PV u ∧ BindsTo s (initFn st dT kV doc pm an cda ct cc) ⟨args, []⟩ [(("self" : Str), .ref x), (("why" : Str), v1), (("line" : Str), u)] := by
    rcases ha with ⟨rfl, hp⟩ | ⟨rfl, hp⟩
    · obtain ⟨k, e1, e2⟩ := S.b3 dT kV doc pm an cda ct cc (.ref x) v1 v2 (.str "" tk1) (.int 0 tk2)
      exact ⟨v2, hp, BindsTo.of_looks fun M => by rw [e1]; exact looks_items X hdT rfl (.of_pure e2)⟩
    · obtain ⟨k, e1, e2⟩ := S.b2 dT kV doc pm an cda ct cc (.ref x) v1 (.str "" tk1) (.int 0 tk2)
      exact ⟨_, hp tk2, BindsTo.of_looks fun M => by rw [e1]; exact looks_items X hdT rfl (.of_pure e2)⟩
  refine ks_codeAny_call_defAt (fd := initFn st dT kV doc pm an cda ct cc) (body := [.Expr (.Call (.Attribute (.Call (.Name "super" p0) [] [] p1) "__init__" p2) [.Name "why" p3] [] p4) p5, .Assign [.Attribute (.Name "self" q1) "line" q2] (.Name "line" q3) q4])
    (binds := [(("self" : Str), .ref x), (("why" : Str), v1), (("line" : Str), v2)]) hroom (X _ _ hf) rfl hlim (codeRec_of X hcd) (congrArg _ hbody) bb S.nce ?_ (fun h1 hns k1 => ?_) S.co S.gen S.kind
  · intro y hy
    simp only [List.mem_cons, List.not_mem_nil, or_false] at hy
    rcases hy with rfl | rfl | rfl
    · exact S.nos
    · exact S.now_
    · exact S.nol
  have X1 := X.keeps k1
  have G1 := G.keeps k1
  have hx1 := k1 _ _ hx
  obtain ⟨mb, hmb, hmb2⟩ := G1.b
  obtain ⟨cd, hcl, hcm, hch⟩ : ∃ cd, clsIn K C = some cd ∧ cd.mro = .ref C :: bm ∧ cd.hasDict = true := by
    refine ⟨_, by unfold clsIn; rw [hC], rfl, rfl⟩
  have hxC : x ≠ C := fun z => by rw [z, hC] at hnx; cases hnx
  obtain ⟨pl, hpl⟩ := hcall (callEnv (initFn st dT kV doc pm an cda ct cc) s.heap.objs.size fI)
  refine ks_wpAt_execs_cons (ks_wpAt_Expr_any (hi := by unfold interactive; simp [callEnv, newEnv, S.kind]) (hs := hsw _) (ks_wpAt_MethodCall (he := hpl) (ks_wpAt_super_base (env := ksEnv "Malformed.__init__" (defScope st) s.heap.objs.size fI (.ref cda) cc) S.nsu S.ncl rfl rfl (X1 _ _ hf) rfl har rfl (X1 _ _ hcda) rfl hvs hfile T.top ?_)))
  refine ks_loadName_global S.kind S.nsu (loadGlobal_builtin G1.g T.sup hmb ((hmb2 _ (by decide)).trans (by decide +kernel)) ⟨rfl, ?_⟩)
  refine wpAny_loadName_free S.kind S.ncl rfl ⟨_, X1 _ _ hcc, rfl⟩ ?_
  rw [harn]
  refine wpAny_loadName_local S.kind S.nos hns rfl ?_
  refine ks_wpAny_isType_cls (X1 _ _ hC) rfl ⟨rfl, ?_⟩
  refine ks_wpAny_call_super (X1 _ _ hC) rfl hx1 rfl (fun c e => by cases e) (looks_mroIn X1 T.mr) (fun h2 e2 k2 => ?_)
  have X2 := X1.keeps k2
  have hx2 := k2 _ _ hx1
  have hsm := T.sm
  unfold ks_superIn at hsm
  rw [hcl] at hsm
  have I2 : InstAt h2 x (excObj C t0 none .none) C none := ⟨hx2, rfl, rfl, trivial⟩
  refine kxs_getMethod kxs_ValueError (l₀ := cd.mro) e2 (looks_opaque X2 T.ow) (fun A Q E s k q => wpAny_bind ((looks_clsIn X2 hcl) A _ E s k (wpAny_pure q))) rfl X2 hsm (I2.type.andThen (looks_subIn X2 T.ev)) hxC (by decide) ?_
  have k3 : ∀ b o, h2.get? b = some o → (h2.push (kxs_mw "ValueError.__init__" x)).get? b = some o := fun b o e => Heap.get?_push_of_some _ e
  have hmw : (h2.push (kxs_mw "ValueError.__init__" x)).get? h2.objs.size = some (kxs_mw "ValueError.__init__" x) := Heap.get?_push_size _ rfl
  have k123 : ∀ b o, s.heap.get? b = some o → (h2.push (kxs_mw "ValueError.__init__" x)).get? b = some o := fun b o e => k3 _ _ (k2 _ _ (k1 _ _ e))
  have hns3 := (hns.keeps k2).keeps k3
  generalize h2.push (kxs_mw "ValueError.__init__" x) = h3 at k3 hmw k123 hns3
  refine kxs_callWith (i := "ValueError.__init__") (x := x) rfl ?_
  refine evalArgs_plain (Calls.spliced_cons ?_)
  show wpAny _ _ (eval (.Name "why" p3) _) _ _ _
  refine wpAny_Name (wpAny_loadName_local S.kind S.now_ hns3 rfl ?_)
  refine Calls.spliced_nil ⟨hmw, ?_⟩
  show wpAny _ _ (call (.ref h2.objs.size) [v1]) _ _ _
  refine mw_call T (X.keeps k123) hmw (k123 _ _ hx) fun h4 k4 e4 => ?_
  have hL : s.heap.objs.size ≠ x := Nat.ne_of_gt (Heap.lt_size hx)
  have X4 : K.In h4 := fun b o e => k4 b o (fun z => by rw [z, hnx] at e; cases e) (X.keeps k123 b o e)
  have hns4 := hns3.at (h' := h4) fun o e => k4 _ _ hL e
  show PySem.wpAt _ _ _ (execs _ _) _ _ _
  refine ks_wpAt_execs_cons (wpAt_of_wpAny (plainObj_wpAny_Assign_Attribute ?_))
  refine wpAny_Name (wpAny_loadName_local S.kind S.nol hns4 rfl ?_)
  refine wpAny_Name (wpAny_loadName_local S.kind S.nos hns4 rfl ?_)
  refine set_plain X4 (ox := excObj C h3.objs.size none .none) (od := none) ⟨e4, rfl, rfl, trivial⟩ T.sa ?_
  refine exc_osa X4 e4 hcl (by rw [hcm]; exact hbm) hch T.noN (fun h5 tk5 dx k5 dn dne hx5 hn5 => ?_)
  show PySem.wpAt _ _ _ (execs _ _) _ _ _
  refine wpAt_of_wpAny (wpAny_execs_nil (hq h5 tk5 dx _ hPV ⟨fun b o hb e => k5 b o hb (k4 b o hb (k123 b o e)), ⟨_, hx5⟩, ?_, dne, hn5⟩))
  exact Nat.le_of_lt (Nat.lt_of_lt_of_le hns4.lt dn)
/-- a made Malformed -/
structure MadeM (h h' : Heap) (e C d : Addr) (v : Value) : Prop where
  keep : ∀ b o, h.get? b = some o → h'.get? b = some o
  new : h.objs.size ≤ e
  obj : ∃ t1 : Addr, h'.get? e = some (excObj C t1 (some d) .none)
  dbig : h.objs.size ≤ d
  dne : d ≠ e
  ns : h'.Ns1 d (fun y => if y = "line" then some v else none)
theorem mal_made {s : Shared} {v1 v2 : Value} {rest : List Value} {R : Result → Shared → Prop} {PV : Value → Prop} (T : MalT prog K mg st C fI) (S : MalS st) (X : K.In s.heap) (G : GlobAt mg s.heap) (hlim : s.heap.NoLimit) (hroom : A.depth + 1 < recursionLimit)
    (ha : (rest = [v1, v2] ∧ PV v2) ∨ (rest = [v1] ∧ ∀ tk, PV (.int 0 tk))) (hq : ∀ h' tk e d u, PV u → MadeM s.heap h' e C d u → R (.ok (.ret (.ref e))) { s with heap := h', toks := tk }) : codeAny (model prog w) A (.call (.ref C) ⟨rest, []⟩) R s := by
  obtain ⟨nm, q, N, bs, bm, sn, sub, ab, col, dd, k0, k1, k2, k3, k5, hC, hbm⟩ := T.cls
  obtain ⟨hp, g, dr, tk, os⟩ := s
  have kk : ∀ b o, hp.get? b = some o → ((hp.push (kdv_tup rest)).push (HandSPX.excO C hp.objs.size)).get? b = some o := fun b o e => Heap.get?_push_of_some _ (Heap.get?_push_of_some _ e)
  have hget : ((hp.push (kdv_tup rest)).push (HandSPX.excO C hp.objs.size)).get? (hp.objs.size + 1) = some (HandSPX.excO C hp.objs.size) := by heap_get
  have hnx : K.lookup (hp.objs.size + 1) = none := by
    cases e : K.lookup (hp.objs.size + 1) with
    | none => rfl
    | some o => exact absurd (Nat.lt_of_succ_lt (Heap.lt_size (X _ _ e))) (Nat.lt_irrefl _)
  have hl : rest.length ≤ sizeLine := by
    rw [sizeLine_eq]
    rcases ha with ⟨rfl, _⟩ | ⟨rfl, _⟩
    · exact (by decide : 2 ≤ 16777216)
    · exact (by decide : 1 ≤ 16777216)
  refine HandSPX.call_own F.excBase_ValueError (fun Y => HandSPX.refsVE_contains Y bm hbm) (X _ _ hC) (looks_findIn X T.iC) (fun self => bind_fn X self T.tI) hl ?_
  refine mal_init (s := ⟨(hp.push (kdv_tup rest)).push (HandSPX.excO C hp.objs.size), g, dr, tk, os⟩) (v1 := v1) (v2 := v2) (PV := PV) T S (X.keeps kk) (G.keeps kk) (hlim.keeps kk) hget hnx hroom ?_ fun h' tk' dx u hu M => ?_
  · rcases ha with ⟨rfl, hp⟩ | ⟨rfl, hp⟩
    · exact .inl ⟨rfl, hp⟩
    · exact .inr ⟨rfl, hp⟩
  · have old : ∀ b o, hp.get? b = some o → h'.get? b = some o := fun b o e => M.keep b o (Nat.ne_of_lt (Nat.lt_succ_of_lt (Heap.lt_size e))) (kk b o e)
    have z : hp.objs.size + 1 + 1 ≤ dx := by
      have y := M.dbig
      rw [Heap.size_push, Heap.size_push] at y
      exact y
    exact ⟨rfl, hq h' tk' (hp.objs.size + 1) dx u hu ⟨old, Nat.le_succ _, M.obj, Nat.le_trans (Nat.le_trans (Nat.le_succ _) (Nat.le_succ _)) z, M.dne, M.ns⟩⟩
end
theorem relO_line {v : V} {u : Value} (r : RelV v u) (f : Str) : RelO (List.lookup f [(("line" : Str), v)]) (if f = "line" then some u else none) := by
  by_cases h : f = "line"
  · subst h
    rw [if_pos rfl]
    show RelO (List.lookup ("line" : Str) [(("line" : Str), v)]) _
    rw [show List.lookup ("line" : Str) [(("line" : Str), v)] = some v from by simp [List.lookup]]
    exact r
  · rw [if_neg h, show List.lookup f [(("line" : Str), v)] = none from by simp [List.lookup, show (f == ("line" : Str)) = false from by simpa using h]]
    trivial
/-- Malformed(e), Malformed(e, n) -/
def tMkM (C : Addr) (ta : TA) : L2.St → Hp → XK → Prop := fun σ H Q => ta σ H fun vs H1 => ∃ v1 y, (vs = [v1, y] ∨ (vs = [v1] ∧ y = .int 0)) ∧ ∀ d, H1 d = none → Q (.ref C) (some d) (upd H1 d (.xd [(("line" : Str), y)]))
section
variable {X : Cx} {st : Stmt} {C fI : Addr} {e1 : Expr} {es : List Expr} {ta : TA} {p pos : Pos} {k : Nat}
theorem pmk_mal (T : MalT X.prog X.K X.mg st C fI) (S : MalS st) (hr : Room k X.A) (ha : PA X (e1 :: es) ta) (hg : Gl X "Malformed" := by rfl)
    (hst : starEach (e1 :: es) X.env = (false, eval e1 X.env) :: starEach es X.env := by rfl) (hpl : (backTo pos (starEach es X.env)).any (·.1) = false := by rfl) :
    PMk X (.Call (.Name "Malformed" p) (e1 :: es) [] pos) (tMkM C ta) := by
  intro pins s σ H Q I hh
  refine wpAny_Call_Name_kw (ld_glob I hg T.gC ?_)
  refine PySem.W.callWith_K (h₀ := X.base) I.ok.mod.kin T.kC (thn (ha.run pos pins s σ H _ I hh) fun us s1 hu => ?_) hst hpl
  obtain ⟨vs, H1, I1, r1, v1, y, hv, q1⟩ := hu
  refine ⟨I1.kIn, ?_⟩
  have hlim := I1.nolimit
  have hG : GlobAt X.mg s1.heap := by
    obtain ⟨mb, b1, b2⟩ := I1.mod.blt
    exact ⟨I1.mod.glob.keeps I1.bk, mb, b1.keeps I1.bk, b2⟩
  show wpAny _ _ (call (.ref C) us) _ _ _
  obtain ⟨hp, g, dr, tk, os⟩ := s1
  obtain ⟨u1, u2, hus⟩ : ∃ u1 u2, (us = [u1, u2] ∧ RelV y u2) ∨ (us = [u1] ∧ ∀ tk, RelV y (.int 0 tk)) := by
    rcases hv with rfl | ⟨rfl, rfl⟩
    · obtain ⟨u1, u2, rfl, ra, rb⟩ := vals2 r1
      exact ⟨u1, u2, .inl ⟨rfl, rb⟩⟩
    · obtain ⟨u1, rfl, ra⟩ := vals1 r1
      exact ⟨u1, .none, .inr ⟨rfl, fun tk => ⟨tk, rfl⟩⟩⟩
  refine wpAny_call (mal_made (PV := fun u => RelV y u) T S I1.kIn hG hlim (by have := hr.dp; omega) hus fun h' tk' e d u hu M => ?_)
  show MkP X pins σ Q (.ref e) ⟨h', g, dr, tk', os⟩
  obtain ⟨t1, hoe⟩ := M.obj
  obtain ⟨G', g1, g2⟩ := restrict h' fun b => decide (b ≠ e)
  have gk : ∀ b, b ≠ e → G'.get? b = h'.get? b := fun b hb => g1 b (decide_eq_true hb)
  have ge : G'.get? e = none := g2 e (by simp)
  have old : ∀ b o, hp.get? b = some o → G'.get? b = some o := fun b o q => (gk b (Nat.ne_of_lt (Nat.lt_of_lt_of_le (Heap.lt_size q) M.new))).trans (M.keep b o q)
  have ob : ObjOk X.prog X.w (upd H1 d (.xd [(("line" : Str), y)])) G' d (.xd [(("line" : Str), y)]) := ⟨_, M.ns.at (fun o q => (gk d M.dne).trans q), fun f => relO_line hu f⟩
  have J : Inv X pins σ (upd H1 d (.xd [(("line" : Str), y)])) ⟨G', g, dr, tk', os⟩ := I1.laid (t' := tk') old M.dbig ob
  refine ⟨e, _, _, ⟨G', g, dr, tk', os⟩, _, .ref C, some d, rfl, J, fun b o q => ?_, ge, hoe, ⟨rfl, rfl⟩, rfl, rfl, ?_, rfl, I1.bare, raises_own T.eb T.ty, q1 d (I1.hok.fresh M.dbig)⟩
  · by_cases hb : b = e
    · have q' : G'.get? b = some o := q
      rw [hb, ge] at q'
      cases q'
    · exact (gk b hb).symm.trans q
  · rw [upd_ne (Ne.symm M.dne)]
    exact I1.hok.fresh M.new
/-- raise Malformed(..) -/
def sRaiseM (W : WX) (C : Addr) (ta : TA) : TS := fun _ σ H => tMkM C ta σ H fun cls d H' => W cls d σ H'
theorem ps_raiseM {W : WX} {pos2 : Pos} (hc : X.calm = true) (T : MalT X.prog X.K X.mg st C fI) (S : MalS st) (hr : Room k X.A) (tk : Takes X W) (ha : PA X (e1 :: es) ta) (hg : Gl X "Malformed" := by rfl)
    (hst : starEach (e1 :: es) X.env = (false, eval e1 X.env) :: starEach es X.env := by rfl) (hpl : (backTo pos (starEach es X.env)).any (·.1) = false := by rfl) :
    PS X (.Raise (some (.Call (.Name "Malformed" p) (e1 :: es) [] pos)) none pos2) (sRaiseM W C ta) := ps_raise hc tk (pmk_mal T S hr ha hg hst hpl)
end
section
variable {W : WX} {C : Addr} {ta : TA} {D : Ends} {σ : L2.St} {H : Hp}
def rMkM (W : WX) (C : Addr) (σ : L2.St) : List V → Hp → Prop := fun vs H1 => ∃ v1 y, (vs = [v1, y] ∨ (vs = [v1] ∧ y = .int 0)) ∧ ∀ d, H1 d = none → W (.ref C) (some d) σ (upd H1 d (.xd [(("line" : Str), y)]))
theorem x_raiseM (q : ta σ H (rMkM W C σ)) : sRaiseM W C ta D σ H := q
theorem x_rMkM {v : V} (q : ∀ d H2, Fr d H → Same H H2 → H2 d = some (.xd [(("line" : Str), .int 0)]) → W (.ref C) (some d) σ H2) : rMkM W C σ [v] H := ⟨v, .int 0, .inr ⟨rfl, rfl⟩, fun d hd => q d _ ⟨hd⟩ (same_new hd) upd_same⟩
theorem x_rMkM2 {v y : V} (q : ∀ d H2, Fr d H → Same H H2 → H2 d = some (.xd [(("line" : Str), y)]) → W (.ref C) (some d) σ H2) : rMkM W C σ [v, y] H := ⟨v, y, .inl rfl, fun d hd => q d _ ⟨hd⟩ (same_new hd) upd_same⟩
end

/-! ### isinstance of an error with a dict, e.line -/
theorem kit_ref2 {K : Frag} {D C : Addr} {b : Bool} (hs : subIn K (.ref D) (.ref D) = some true) (N : ClsX K C) (h : subIn K (.ref D) (.ref C) = some b) : kitOne K (.ref D) (.ref C) = some b := by
  unfold kitOne
  by_cases e : D = C
  · subst e
    rw [if_pos (by simp), ← h, hs]
  · rw [if_neg (by simpa using e)]
    obtain ⟨cd, hc, _⟩ := any_some N.d
    have e2 : ((clsIn K C).isSome && typeIn K (.ref C) == some (.type "type")) = true := by rw [hc, N.t] <;> rfl
    show (if ((clsIn K C).isSome && typeIn K (.ref C) == some (.type "type")) = true then subIn K (.ref D) (.ref C) else none) = some b
    rw [if_pos e2, h]
def rIsD (K : Frag) (a : Addr) (cls : Value) (d : Option Addr) : List V → Hp → VK → Prop := fun xs H Q => ∃ (D dd : Addr) (fs : List (Str × V)) (b : Bool), cls = .ref D ∧ ExcC K D ∧ d = some dd ∧ H dd = some (.xd fs) ∧ Q (.bl b) H ∧
  ((∃ (c : V) (cv : Value), xs = [.ref a, c] ∧ (∀ u, RelV c u → u = cv) ∧ kitOne K (.ref D) cv = some b) ∨ ∃ (tp : Addr) (cs : List Addr), xs = [.ref a, .ref tp] ∧ H tp = some (.tup (cs.map V.ref)) ∧ kitAny K (.ref D) (cs.map Value.ref) = some b)
theorem vals_ref : ∀ {cs : List Addr} {us : List Value}, Vals (cs.map V.ref) us → us = cs.map Value.ref
  | [], _, r => by
    cases r
    rfl
  | c :: cs, _, r => by
    cases r with
    | cons h t =>
      have e : _ = Value.ref c := h
      rw [e, vals_ref t]
      rfl
theorem call_isD {X : Cx} {a : Addr} {oe : Obj} {cls : Value} {d : Option Addr} (hp : (a, oe) ∈ X.pn) (hz : Zc cls d oe) (hf : ∃ ws, oe.data = .fields ws) : CallR X (.builtin "isinstance") (rIsD X.K a cls d) := by
  intro pins s σ H xs us Q I r h
  obtain ⟨D, dd, fs, b, rfl, C, rfl, hd, q1, h⟩ := h
  obtain ⟨hget, _⟩ := I.pin (a, oe) (List.mem_append_left _ hp)
  obtain ⟨vs, hv⟩ := hf
  have hx : ObjOk X.prog X.w H s.heap dd (.xd fs) := I.hok dd _ hd
  obtain ⟨mA, hns, hr⟩ := hx
  obtain ⟨od, ho, hl⟩ := lookIn_ns hns
  have J : InstAt s.heap a oe D (some od) := ⟨hget, hz.1, by unfold notCls; rw [hv] <;> rfl, by rw [hz.2]; exact ho⟩
  obtain ⟨cd, hcd, _⟩ := any_some C.hd
  have Z := kitx_exc (x := a) (ox := oe) (od := some od) (by rw [hcd]; rfl) C.hg C.hk C.hs C.ha C.hn C.ht C.hm
  rcases h with ⟨c, cv, rfl, hcv, e⟩ | ⟨tp, cs, rfl, ht, e⟩
  · obtain ⟨u1, u2, rfl, r1, r2⟩ := vals2 r
    have e1 : u1 = Value.ref a := r1
    have e2 := hcv _ r2
    subst e1 e2
    exact kia_one Z I.kIn J e (fun z => nomatch z) fun tk => ⟨.bl b, H, I.kept (t' := tk) fun _ _ z => z, rfl, q1⟩
  · obtain ⟨u1, u2, rfl, r1, r2⟩ := vals2 r
    have e1 : u1 = Value.ref a := r1
    have e2 : u2 = Value.ref tp := r2
    subst e1 e2
    obtain ⟨_, its, rv, o, h1, h2, n, h3⟩ := (show ObjOk X.prog X.w H s.heap tp (.tup (cs.map V.ref)) from I.hok _ _ ht)
    have ei := vals_ref rv
    subst ei
    obtain ⟨oc, od2, oda, osl⟩ := o
    dsimp only at h2 h3
    subst h2 h3
    exact kia_tup Z I.kIn J h1 e (fun z => nomatch z) fun tk => ⟨.bl b, H, I.kept (t' := tk) fun _ _ z => z, rfl, q1⟩
theorem k_isD {X : Cx} {K : Frag} {a : Addr} {oe : Obj} {cls : Value} {d : Option Addr} (e : X.K = K) (hp : (a, oe) ∈ X.pn) (hz : Zc cls d oe) (hf : ∃ ws, oe.data = .fields ws) : CallR X (.builtin "isinstance") (rIsD K a cls d) := by
  subst e
  exact call_isD hp hz hf
theorem k_xf {X : Cx} {a C : Addr} {oe : Obj} {cls : Value} {d : Option Addr} {pn : List (Addr × Obj)} {e : Expr} {te : TE} {pos : Pos} {n : Str} (T : XfC X.K C) (hno : findIn X.K (.ref C) n = some none)
    (hz : Zc cls d oe) (hf : ∃ vs, oe.data = .fields vs) (he : PE (X.suite a ((a, oe) :: pn)) e te) (hb : attributeBase e n X.env (eval e X.env) = eval e X.env := by rfl) : PE (X.suite a ((a, oe) :: pn)) (.Attribute e n pos) (tXf a cls d C n te) := pe_xf T hno hz hf he hb
section
variable {K : Frag} {D a dd : Addr} {fs : List (Str × V)} {b : Bool} {H : Hp} {Q : VK}
theorem x_isD {C : Addr} (E : ExcC K D) (hd : H dd = some (.xd fs)) (e : kitOne K (.ref D) (.ref C) = some b) (q : Q (.bl b) H) : rIsD K a (.ref D) (some dd) [.ref a, .ref C] H Q := ⟨D, dd, fs, b, rfl, E, rfl, hd, q, .inl ⟨.ref C, .ref C, rfl, fun _ r => r, e⟩⟩
theorem x_isDT {c : String} (E : ExcC K D) (hd : H dd = some (.xd fs)) (e : kitOne K (.ref D) (.type c) = some b) (q : Q (.bl b) H) : rIsD K a (.ref D) (some dd) [.ref a, .ty c] H Q := ⟨D, dd, fs, b, rfl, E, rfl, hd, q, .inl ⟨.ty c, .type c, rfl, fun _ r => r, e⟩⟩
theorem x_isDtup {tp : Addr} {cs : List Addr} (E : ExcC K D) (hd : H dd = some (.xd fs)) (ht : H tp = some (.tup (cs.map V.ref))) (e : kitAny K (.ref D) (cs.map Value.ref) = some b) (q : Q (.bl b) H) : rIsD K a (.ref D) (some dd) [.ref a, .ref tp] H Q :=
  ⟨D, dd, fs, b, rfl, E, rfl, hd, q, .inr ⟨tp, cs, rfl, ht, e⟩⟩
theorem kit_two {C1 C2 : Addr} (h1 : kitOne K (.ref D) (.ref C1) = some false) (h2 : kitOne K (.ref D) (.ref C2) = some b) : kitAny K (.ref D) ([C1, C2].map Value.ref) = some b := by
  show kitAny K (.ref D) [Value.ref C1, Value.ref C2] = some b
  unfold kitAny
  rw [h1]
  show kitAny K (.ref D) [Value.ref C2] = some b
  unfold kitAny
  rw [h2]
  cases b <;> rfl
theorem x_xf {f : Str} {i : Nat} {v : V} {σ : L2.St} (hi : σ[i]? = some (some (.ref a))) (hd : H dd = some (.xd fs)) (hl : fs.lookup f = some v) (q : Q v H) : tXf a (.ref D) (some dd) D f (tVar i) σ H Q := ⟨.ref a, hi, rfl, rfl, dd, fs, v, rfl, hd, hl, q⟩
end
end Xk

/-! range(n), n however great -/
namespace Xk
open PySem PySem.Spec PyProof.Rows L2
theorem turn_long {P : Program} {w : World} {K : PySem.W.Frag} {tg : Expr} (it : Addr) (lo : Int) (n : Nat) : Turn P w K tg (Itr lo n) [it] it (fun i h => IsLongIter h it (lo + (i : Nat) * 1) ((n : Int) - (i : Nat)) 1) where
  mem := by simp
  obj := fun i h st b hb => by
    have e : b = it := by simpa using hb
    subst e
    exact ⟨_, st, fun v z => by
      have z' : Data.fields _ = Data.cell v := z
      cases z'⟩
  keep := fun i h h' st k => k it (by simp) _ st
  item := by
    intro X hP hw hK hc i pins s σ H E I hf st hg
    subst hP hw hK
    obtain ⟨f0, f1, f2, f3, f4, f5⟩ := hf it (by simp)
    have W := Walks.longrange (prog := X.prog) (w := X.w) (I.ok.hd hc) it lo 1 n
    refine W.item i s _ _ hg st fun v h' tk hv st' kk => ?_
    obtain ⟨t, rfl⟩ := hv
    have I1 : Inv X pins σ H { s with heap := h', toks := tk } := I.turned (fun b o hb e => kk b o (by simpa using hb) e) f0 f1 f3 f4 f5
    refine ⟨_, rfl, go_of (s := { s with heap := h', toks := tk }) (n := "longrange_iterator") st' rfl rfl (by decide) ⟨.int (lo + i), H, I1, ⟨t, ?_⟩, ⟨rfl, rfl⟩, st', fun b hb => (hf b hb).1⟩⟩
    rw [Int.mul_one]
  done := by
    intro X hP hw hK hc i pins s σ H E I hf st hg
    subst hP hw hK
    obtain ⟨f0, f1, f2, f3, f4, f5⟩ := hf it (by simp)
    exact wpAny_pyNext_long_end (I.ok.hd hc) st (by have : n ≤ i := hg; omega) fun h' eb => ⟨rfl, I.turned (t' := s.toks) (fun b o hb e => eb b o hb e) f0 f1 f3 f4 f5⟩
  self := fun _ _ _ _ _ st h => wpAny_pyIter_longiter st h
section
variable {X : Cx} {tg : Expr}
theorem range_itL {pins : List (Addr × Obj)} {σ : L2.St} {H : Hp} {s : Shared} {R : It → Hp → Prop} {E : Value → Shared → Prop} {lo hi : Int} {t u v : Tok} {tk : Nat} (I : Inv X pins σ H s) (hb : Builtin.Range.small lo hi 1 = false)
    (q : R (Itr lo (hi - lo).toNat) H) : wpAny (model X.prog X.w) X.A (pyIter (.ref s.heap.objs.size)) (PIE X pins σ tg R) E { s with heap := s.heap.push { cls := .type "range", data := .fields #[.int lo t, .int hi u, .int 1 v] }, toks := tk } := by
  refine wpAny_pyIter_longrange (IsRange.new ..) hb ?_
  have I1 : Inv X pins σ H { s with heap := s.heap.push { cls := .type "range", data := .fields #[.int lo t, .int hi u, .int 1 v] }, toks := tk } := I.kept fun b o e => Heap.get?_push_of_some _ e
  refine ⟨(s.heap.push { cls := .type "range", data := .fields #[.int lo t, .int hi u, .int 1 v] }).objs.size, [(s.heap.push { cls := .type "range", data := .fields #[.int lo t, .int hi u, .int 1 v] }).objs.size], _, _, H, rfl,
    I1.kept (t' := tk) fun b o e => Heap.get?_push_of_some _ e, turn_long _ lo (hi - lo).toNat, ?_, fun b hb => ?_, q⟩
  · have e1 : lo + ((0 : Nat) : Int) * 1 = lo := by simp
    have e2 : (((hi - lo).toNat : Nat) : Int) - ((0 : Nat) : Int) = Builtin.Range.rangeSize lo hi 1 := by rw [rangeSize_one]; split <;> omega
    show IsLongIter _ _ (lo + ((0 : Nat) : Int) * 1) ((((hi - lo).toNat : Nat) : Int) - ((0 : Nat) : Int)) 1
    rw [e1, e2]
    exact Heap.get?_push_size _ rfl
  · have e : b = (s.heap.push { cls := .type "range", data := .fields #[.int lo t, .int hi u, .int 1 v] }).objs.size := by simpa using hb
    subst e
    exact I1.fpOk (Nat.le_refl _) (I1.hok.fresh (Nat.le_refl _))
theorem range_itS {pins : List (Addr × Obj)} {σ : L2.St} {H : Hp} {s : Shared} {R : It → Hp → Prop} {E : Value → Shared → Prop} {lo hi : Int} {t u v : Tok} {tk : Nat} (I : Inv X pins σ H s) (hs : Builtin.Range.small lo hi 1 = true)
    (q : R (Itr lo (hi - lo).toNat) H) : wpAny (model X.prog X.w) X.A (pyIter (.ref s.heap.objs.size)) (PIE X pins σ tg R) E { s with heap := s.heap.push { cls := .type "range", data := .fields #[.int lo t, .int hi u, .int 1 v] }, toks := tk } := by
  refine wpAny_pyIter_range (IsRange.new ..) hs ?_
  have I1 : Inv X pins σ H { s with heap := s.heap.push { cls := .type "range", data := .fields #[.int lo t, .int hi u, .int 1 v] }, toks := tk } := I.kept fun b o e => Heap.get?_push_of_some _ e
  refine ⟨(s.heap.push { cls := .type "range", data := .fields #[.int lo t, .int hi u, .int 1 v] }).objs.size, [(s.heap.push { cls := .type "range", data := .fields #[.int lo t, .int hi u, .int 1 v] }).objs.size], _, _, H, rfl,
    I1.kept (t' := tk) fun b o e => Heap.get?_push_of_some _ e, turn_range _ lo (hi - lo).toNat, ?_, fun b hb => ?_, q⟩
  · have e1 : lo + ((0 : Nat) : Int) * 1 = lo := by simp
    have e2 : (((hi - lo).toNat : Nat) : Int) - ((0 : Nat) : Int) = Builtin.Range.rangeSize lo hi 1 := by rw [rangeSize_one]; split <;> omega
    show IsRangeIter _ _ (lo + ((0 : Nat) : Int) * 1) ((((hi - lo).toNat : Nat) : Int) - ((0 : Nat) : Int)) 1
    rw [e1, e2]
    exact Heap.get?_push_size _ rfl
  · have e : b = (s.heap.push { cls := .type "range", data := .fields #[.int lo t, .int hi u, .int 1 v] }).objs.size := by simpa using hb
    subst e
    exact I1.fpOk (Nat.le_refl _) (I1.hok.fresh (Nat.le_refl _))
def iRngW (ta : TA) : TI := fun σ H R => ta σ H fun vs H1 => ∃ j : Int, vs = [.int j] ∧ R (Itr 0 j.toNat) H1
theorem pi_range1W {a : Expr} {ta : TA} {p pos : Pos} (hg : Gl X "range") (hm : X.mg "range" = none) (ha : PA X [a] ta) (hs : starEach [a] X.env = [(false, eval a X.env)] := by rfl) : PI X tg (.Call (.Name "range" p) [a] [] pos) (iRngW ta) := by
  refine ⟨fun pins s σ H R I h => ?_⟩
  refine Call_ (ld_blt I hg hm boot_range (PyProof.Rows.callWith_type1 (thn (ha.run pos pins s σ H _ I h) fun us s1 ⟨vs, H1, I1, r1, q1⟩ => ?_) hs rfl))
  obtain ⟨j, e, q⟩ := q1
  subst e
  cases r1 with
  | cons r rr =>
    cases rr
    obtain ⟨t, rfl⟩ := r
    cases h2 : Builtin.Range.small 0 j 1 with
    | true => exact call_range_1 (range_itS I1 h2 (by simpa using q))
    | false => exact call_range_1 (range_itL I1 h2 (by simpa using q))
end
variable {tu : TS} {D : Ends} {σ : L2.St} {H : Hp}
def rRangeW (n : Nat) (tu : TS) (D : Ends) (σ : L2.St) : List V → Hp → Prop := fun vs H => ∃ j : Int, vs = [.int j] ∧ ∃ W : Nat → Nat → L2.St → Hp → Prop, (∃ m, W 0 m σ H) ∧ ∀ i m σ H, W i m σ H →
  ((Itr 0 j.toNat).stop i H ∧ D.nx σ H) ∨ ((Itr 0 j.toNat).go i H ∧ ∃ N : L2.St → Hp → Prop, (∀ σ' H', N σ' H' → ∃ m', m' < m ∧ W (i + 1) m' σ' H') ∧ ∀ x H', (Itr 0 j.toNat).yld i H x H' → gName n x σ H' fun σ2 H2 => tu { D with nx := N, ct := N, bk := D.nx } σ2 H2)
theorem x_forRW1 {n : Nat} {tr : TA} (q : tr σ H (rRangeW n tu D σ)) : tFor (iRngW tr) (gName n) tu D σ H := q
theorem x_rangeW {n : Nat} {m : Int} (Pv : Nat → L2.St → Hp → Prop) (hm : 0 ≤ m) (p0 : Pv 0 σ H)
    (ps : ∀ (i : Nat) σ' H', (i : Int) < m → Pv i σ' H' → tu { D with nx := Pv (i + 1), ct := Pv (i + 1), bk := D.nx } (σ'.set n (some (.int (i : Int)))) H') (pd : ∀ σ' H', Pv m.toNat σ' H' → D.nx σ' H') : rRangeW n tu D σ [.int m] H := by
  refine ⟨m, rfl, for_range (lo := 0) (n := m.toNat) Pv p0 (fun i σ' H' hi p => ?_) pd⟩
  have e0 : (0 : Int) + (i : Int) = (i : Int) := Int.zero_add _
  show tu { D with nx := Pv (i + 1), ct := Pv (i + 1), bk := D.nx } (σ'.set n (some (.int ((0 : Int) + (i : Int))))) H'
  rw [e0]
  exact ps i σ' H' (by omega) p
end Xk


local macro_rules | `(tactic| wtm_at "key") => `(tactic| (first | assumption | exact rfl | fail "key"))
local macro_rules | `(tactic| wtm_at "few") => `(tactic| (first | assumption | exact Nat.le_of_ble_eq_true rfl | fail "few"))
local macro_rules | `(tactic| wtm_at "cls") => `(tactic| (first | assumption | fail "cls"))
local macro_rules | `(tactic| wtm_at "neq") => `(tactic| (first | assumption | exact Ne.symm (by assumption) | exact Xk.ne_new (by assumption) (by wtm_at "hx") | exact (Xk.ne_new (by assumption) (by wtm_at "hx")).symm | fail "neq"))
local macro_rules | `(tactic| wtm_at "hx") => `(tactic| (first | assumption | exact L2.upd_same | ((refine' (L2.upd_ne ?un).trans ?uh); (case un => wtm_at "neq"); (case uh => wtm_at "hx")) | ((refine' Xk.same_at ?ue ?uh); (case ue => assumption); (case uh => wtm_at "hx")) | ((refine' Xk.but_at ?ue ?un ?uh); (case ue => assumption); (case un => wtm_at "neq"); (case uh => wtm_at "hx")) | fail "hx"))
local macro_rules | `(tactic| wtm_at "free") => `(tactic| (first | assumption | ((refine' Xk.free_back ?uh ?ue); (case uh => assumption); (case ue => wtm_at "sm")) | ((refine' Xk.free_back ?uh ?ue); (case uh => (refine' Xk.fr_upd ?uf; case uf => assumption)); (case ue => wtm_at "sm")) | fail "free"))
local macro_rules | `(tactic| wtm_at "sm") => `(tactic| (first | assumption | exact L2.Same.refl _ | ((refine' Xk.same_mut ?ue ?uh); (case ue => wtm_at "sm"); (case uh => wtm_at "free")) | ((refine' L2.Same.trans ?ue ?uh); (case uh => assumption); (case ue => wtm_at "sm")) | ((refine' Xk.same_but ?ue ?uh ?us); (case ue => assumption); (case uh => wtm_at "free"); (case us => wtm_at "sm")) | fail "sm"))
local macro_rules | `(tactic| wtm_at "bm") => `(tactic| (first | assumption | exact Xk.But.refl _ _ | ((refine' Xk.but_mut ?ue); (case ue => wtm_at "bm")) | ((refine' Xk.but_new ?ue ?uh); (case ue => wtm_at "bm"); (case uh => wtm_at "free")) | ((refine' Xk.but_trans ?ue ?uh); (case uh => assumption); (case ue => wtm_at "bm")) | ((refine' Xk.but_trans ?ue (Xk.but_same ?uh)); (case uh => assumption); (case ue => wtm_at "bm")) | fail "bm"))
local macro_rules | `(tactic| wtm_at "sq") => `(tactic| (first | assumption | exact Xk.sq_of (by wtm_at "hx") | ((refine' Xk.sq_same ?uh ?ue); (case uh => assumption); (case ue => wtm_at "sm")) | fail "sq"))
local macro_rules | `(tactic| wtm_at "st") => `(tactic| (first | assumption | exact Xk.st_of (by wtm_at "hx") | ((refine' Xk.st_same ?uh ?ue); (case uh => assumption); (case ue => wtm_at "sm")) | fail "st"))
local macro_rules | `(tactic| wtm_at "side") => `(tactic| (first | assumption | decide | omega | (refine Or.inr ?_; omega) | (refine Or.inl ?_; omega) | (refine ⟨?_, ?_⟩ <;> omega) | (refine ⟨?_, ?_, ?_⟩ <;> first | omega | decide) | fail "side"))
local macro_rules | `(tactic| wtm_at "len") => `(tactic| (first | omega | (simp only [List.length_map, List.length_append, List.length_cons, List.length_nil, List.length_set, List.length_replicate] at *; omega) | exact Nat.le_of_ble_eq_true rfl | fail "len"))
local macro_rules | `(tactic| wtm_at "x") => `(tactic| (first
  | ((with_reducible refine' Xk.x_var ?a1 ?_); (case a1 => exact rfl))
  | (with_reducible refine Xk.x_c ?_)
  | (with_reducible refine Xk.x_op ?_)
  | (with_reducible refine Xk.x_I0 ?_)
  | ((with_reducible refine' Xk.x_I ?a1 ?_); (case a1 => wtm_at "side"))
  | (with_reducible refine Xk.x_cons ?_)
  | (with_reducible refine Xk.x_nil ?_)
  | (with_reducible refine Xk.x_cb ?_)
  | (with_reducible refine Xk.x_call ?_)
  | (with_reducible refine Xk.x_sasg ?_)
  | (with_reducible refine Xk.x_asg ?_)
  | (with_reducible refine Xk.x_ret ?_)
  | (with_reducible refine Xk.x_test ?_)
  | (with_reducible refine Xk.x_bl ?_)
  | (with_reducible refine Xk.x_isI ?_)
  | (with_reducible refine Xk.x_sif ?_)
  | (with_reducible refine Xk.x_ifS ?_)
  | (with_reducible refine Xk.x_and ?_)
  | (with_reducible refine Xk.x_or ?_)
  | (with_reducible refine Xk.x_not ?_)
  | (with_reducible refine Xk.x_B ?_)
  | (with_reducible refine Xk.x_nInt ?_)
  | (with_reducible refine Xk.x_nIntB ?_)
  | ((with_reducible refine' Xk.x_lenL ?a1 ?_); (case a1 => wtm_at "sq"))
  | ((with_reducible refine' Xk.x_lenT ?a1 ?_); (case a1 => wtm_at "st"))
  | (with_reducible refine Xk.x_un ?_)
  | (with_reducible refine Xk.x_U ?_)
  | ((with_reducible refine' Xk.x_eq ?a1 ?_); (case a1 => exact rfl))
  | ((with_reducible refine' Xk.x_ne ?a1 ?_); (case a1 => exact rfl))
  | ((with_reducible refine' Xk.x_ixL ?a1 ?a2 ?_); (case a1 => wtm_at "sq"); (case a2 => first | exact rfl | assumption | exact Xk.at_nat rfl (Xk.map_at (by assumption)) | exact Xk.at_nat rfl (by assumption)))
  | ((with_reducible refine' Xk.x_ixT ?a1 ?a2 ?_); (case a1 => wtm_at "st"); (case a2 => first | exact rfl | assumption | exact Xk.at_nat rfl (Xk.map_at (by assumption)) | exact Xk.at_nat rfl (by assumption)))
  | (with_reducible refine Xk.x_lst ?_)
  | (with_reducible refine Xk.x_tup ?_)
  | ((with_reducible refine' Xk.x_new ?a1 ?_); (case a1 => wtm_at "len"))
  | ((with_reducible refine' Xk.x_listL ?a1 ?_); (case a1 => wtm_at "sq"))
  | ((with_reducible refine' Xk.x_listT ?a1 ?_); (case a1 => wtm_at "st"))
  | ((with_reducible refine' Xk.x_tupleL ?a1 ?_); (case a1 => wtm_at "sq"))
  | ((with_reducible refine' Xk.x_tupleT ?a1 ?_); (case a1 => wtm_at "st"))
  | (with_reducible refine Xk.x_seq ?_)
  | (with_reducible refine Xk.x_next ?_)
  | (with_reducible refine Xk.x_sdrop ?_)
  | (with_reducible refine Xk.x_drop ?_)
  | (with_reducible refine Xk.x_bm ?_)
  | (with_reducible refine Xk.x_bm0 ?_)
  | ((with_reducible refine' Xk.x_tyL ?a1 ?_); (case a1 => wtm_at "sq"))
  | ((with_reducible refine' Xk.x_app ?a1 ?a2 ?_); (case a1 => wtm_at "hx"); (case a2 => wtm_at "len"))
  | (with_reducible refine Xk.x_sasgG ?_)
  | (with_reducible refine Xk.x_asgG ?_)
  | (with_reducible refine Xk.x_gName ?_)
  | ((with_reducible refine' Xk.x_gTup ?a1 ?a2 ?_); (case a1 => wtm_at "st"); (case a2 => exact rfl))
  | ((with_reducible refine' Xk.x_gLst ?a1 ?a2 ?_); (case a1 => wtm_at "sq"); (case a2 => exact rfl))
  | (with_reducible refine Xk.x_gCons ?_)
  | (with_reducible refine Xk.x_gNil ?_)
  | (with_reducible refine Xk.x_gSub ?_)
  | (with_reducible refine Xk.x_if ?_)
  | (with_reducible refine Xk.x_andV ?_)
  | (with_reducible refine Xk.x_orV ?_)
  | (with_reducible refine Xk.x_notV ?_)
  | (with_reducible refine Xk.x_chain ?_)
  | (with_reducible refine Xk.x_yes ?_)
  | (with_reducible refine Xk.x_sl ?_)
  | (with_reducible refine Xk.x_nopart ?_)
  | (with_reducible refine Xk.x_part ?_)
  | ((with_reducible refine' Xk.x_slL ?a1 ?_); (case a1 => wtm_at "sq"))
  | ((with_reducible refine' Xk.x_saug ?a1 ?_); (case a1 => exact rfl))
  | ((with_reducible refine' Xk.x_aug ?a1 ?_); (case a1 => exact rfl))
  | (with_reducible refine Xk.x_ipI ?_)
  | ((with_reducible refine' Xk.x_isiInt ?a1 ?_); (case a1 => first | exact Xk.kit_T (by decide +kernel) | exact Xk.kit_F (by decide +kernel)))
  | ((with_reducible refine' Xk.x_isiBl ?a1 ?_); (case a1 => first | exact Xk.kit_T (by decide +kernel) | exact Xk.kit_F (by decide +kernel)))
  | ((with_reducible refine' Xk.x_isiStr ?a1 ?_); (case a1 => first | exact Xk.kit_T (by decide +kernel) | exact Xk.kit_F (by decide +kernel)))
  | ((with_reducible refine' Xk.x_isiNon ?a1 ?_); (case a1 => first | exact Xk.kit_T (by decide +kernel) | exact Xk.kit_F (by decide +kernel)))
  | ((with_reducible refine' Xk.x_isiLst ?a1 ?a2 ?_); (case a1 => wtm_at "hx"); (case a2 => first | exact Xk.kit_T (by decide +kernel) | exact Xk.kit_F (by decide +kernel)))
  | ((with_reducible refine' Xk.x_isiTup ?a1 ?a2 ?_); (case a1 => wtm_at "hx"); (case a2 => first | exact Xk.kit_T (by decide +kernel) | exact Xk.kit_F (by decide +kernel)))
  | (with_reducible refine Xk.x_forR1 ?_)
  | (with_reducible refine Xk.x_forL1 ?_)
  | (with_reducible refine Xk.x_forT1 ?_)
  | (with_reducible refine Xk.x_brk ?_)
  | (with_reducible refine Xk.x_ct ?_)
  | (with_reducible refine Xk.x_retN ?_)
  | (with_reducible refine Xk.x_lcL1 ?_)
  | (with_reducible refine Xk.x_lcT1 ?_)
  | (with_reducible refine Xk.x_lcR1 ?_)
  | (with_reducible refine Xk.x_lcE1 ?_)
  | (with_reducible refine Xk.x_nocutW ?_)
  | (with_reducible refine Xk.x_nIsN ?_)
  | (with_reducible refine Xk.x_nNotN ?_)
  | (with_reducible refine Xk.x_and255 ?_)
  | (with_reducible refine Xk.x_wT ?_)
  | (with_reducible refine Xk.x_wF ?_)
  | (with_reducible refine Xk.x_lstRg ?_)
  | (with_reducible refine Xk.x_rg1 ?_)
  | ((with_reducible refine' Xk.x_nRg ?a1 ?_); (case a1 => omega))
  | (with_reducible refine L2.iteT ?_)
  | (with_reducible refine L2.iteF ?_)
  | (with_reducible refine Xk.x_nT ?_)
  | (with_reducible refine Xk.x_nF ?_)
  | ((with_reducible refine' Xk.x_dY ?a1 ?_); (case a1 => first | exact rfl | assumption | omega))
  | ((with_reducible refine' Xk.x_dN ?a1 ?_); (case a1 => first | assumption | omega | (intro z; cases z; done)))
  | ((with_reducible refine' Xk.x_ndY ?a1 ?_); (case a1 => first | exact rfl | assumption | omega))
  | ((with_reducible refine' Xk.x_ndN ?a1 ?_); (case a1 => first | assumption | omega | (intro z; cases z; done)))
  | (with_reducible refine Xk.x_lc2 ?_)
  | (with_reducible refine Xk.x_fld1 ?_)
  | ((with_reducible refine' Xk.x_rFld ?a1 ?a2 ?a3 ?a4 ?_); (case a1 => wtm_at "hx"); (case a2 => wtm_at "cls"); (case a3 => wtm_at "cls"); (case a4 => exact rfl))
  | (with_reducible refine Xk.x_ssfld ?_)
  | (with_reducible refine Xk.x_sfld ?_)
  | ((with_reducible refine' Xk.x_rSetF ?a1 ?a2 ?a3 ?a4 ?_); (case a1 => wtm_at "hx"); (case a2 => wtm_at "cls"); (case a3 => wtm_at "cls"); (case a4 => exact Nat.le_of_ble_eq_true rfl))
  | (with_reducible refine Xk.x_prop ?_)
  | ((with_reducible refine' Xk.x_rProp ?a1 ?_); (case a1 => wtm_at "hx"))
  | (with_reducible refine Xk.x_meth ?_)
  | ((with_reducible refine' Xk.x_rMeth ?a1 ?a2 ?_); (case a1 => wtm_at "hx"); (case a2 => exact rfl))
  | (with_reducible refine Xk.x_make ?_)
  | (with_reducible refine Xk.x_sdelT ?_)
  | (with_reducible refine Xk.x_delT ?_)
  | (with_reducible refine Xk.x_nMax2 ?_)
  | (with_reducible refine Xk.x_nMin2 ?_)
  | ((with_reducible refine' Xk.x_nRepS ?a1 ?a2 ?_); (case a1 => wtm_at "side"); (case a2 => decide))
  | (with_reducible refine Xk.x_inS ?_)
  | (with_reducible refine Xk.x_notInS ?_)
  | ((with_reducible refine' Xk.x_nAddS ?a1 ?_); (case a1 => wtm_at "len"))
  | ((with_reducible refine' Xk.x_nLenS ?a1 ?_); (case a1 => wtm_at "len"))
  | ((with_reducible refine' Xk.x_slS ?a1 ?_); (case a1 => wtm_at "len"))
  | (with_reducible refine Xk.x_lcS1 ?_)
  | (with_reducible refine Xk.x_forS1 ?_)
  | (with_reducible refine Xk.x_ord ?_)
  | (with_reducible refine Xk.x_dget1 ?_)
  | ((with_reducible refine' Xk.x_rGetD ?a1 ?_); (case a1 => wtm_at "hx"))
  | ((with_reducible refine' Xk.x_rGet1 ?a1 ?_); (case a1 => wtm_at "hx"))
  | (with_reducible refine Xk.x_dget2 ?_)
  | ((with_reducible refine' Xk.x_rGetE ?a1 ?_); (case a1 => wtm_at "hx"))
  | ((with_reducible refine' Xk.x_rGet2 ?a1 ?_); (case a1 => wtm_at "hx"))
  | (with_reducible refine Xk.x_dpop1 ?_)
  | ((with_reducible refine' Xk.x_rPopD ?a1 ?_); (case a1 => wtm_at "hx"))
  | (with_reducible refine Xk.x_dpop2 ?_)
  | ((with_reducible refine' Xk.x_rPopE ?a1 ?_); (case a1 => wtm_at "hx"))
  | (with_reducible refine Xk.x_din ?_)
  | ((with_reducible refine' Xk.x_rDInK ?a1 ?_); (case a1 => wtm_at "hx"))
  | (with_reducible refine Xk.x_dnew ?_)
  | (with_reducible refine Xk.x_notBl ?_)
  | (with_reducible refine Xk.x_isBl ?_)
  | (with_reducible refine Xk.x_dget ?_)
  | ((with_reducible refine' Xk.x_rDG ?a1 ?a2 ?_); (case a1 => wtm_at "hx"); (case a2 => wtm_at "key"))
  | (with_reducible refine Xk.x_sdput ?_)
  | (with_reducible refine Xk.x_dput ?_)
  | ((with_reducible refine' Xk.x_rDP ?a1 ?a2 ?a3 ?_); (case a1 => wtm_at "hx"); (case a2 => wtm_at "few"); (case a3 => wtm_at "key"))
  | (with_reducible refine Xk.x_pcons ?_)
  | (with_reducible refine Xk.x_pnil ?_)
  | (with_reducible refine Xk.x_forRev1 ?_)
  | (with_reducible refine Xk.x_forR2 ?_)
  | ((with_reducible refine' Xk.x_geP ?a1 ?a2 ?_); (case a1 => wtm_at "st"); (case a2 => wtm_at "st"))
  | ((with_reducible refine' Xk.x_ltP ?a1 ?a2 ?_); (case a1 => wtm_at "st"); (case a2 => wtm_at "st"))
  | (with_reducible refine Xk.x_lcZ1 ?_)
  | (with_reducible refine Xk.x_lcET1 ?_)
  | (with_reducible refine Xk.x_dcT1 ?_)
  | (with_reducible refine Xk.x_nLtS ?_)
  | (with_reducible refine Xk.x_nLeS ?_)
  | (with_reducible refine Xk.x_nGeS ?_)
  | (with_reducible refine Xk.x_spar ?_)
  | (with_reducible refine Xk.x_par ?_)
  | (with_reducible refine Xk.x_rPar ?_)
  | (with_reducible refine Xk.x_gSubSl ?_)
  | fail "x"))
local macro_rules | `(tactic| wtm_at "xs") => `(tactic| ((repeat wtm_at "x"); try dsimp only [L2.wipe, List.set, List.append_nil, List.cons_append, List.nil_append]))
local macro_rules | `(tactic| wtm_at "x0") => `(tactic| (dsimp only [L2.cxOf, L2.start, List.map, List.length, List.replicate, Nat.reduceAdd, Nat.reduceSub, List.cons_append, List.nil_append]))
local macro_rules | `(tactic| wtm_at "xc") => `(tactic| (dsimp only [L2.wipe, List.set, List.append_nil, List.cons_append, List.nil_append]))

local macro_rules | `(tactic| wtm_at "x") => `(tactic| (first
  | (with_reducible refine Xk.x_raise ?_)
  | (with_reducible refine Xk.x_raiseM ?_)
  | (with_reducible refine Xk.x_callS ?_)
  | (with_reducible refine Xk.x_tryE ?_)
  | (with_reducible refine Xk.x_ip128 ?_)
  | (with_reducible refine Xk.x_forRW1 ?_)
  | fail "x"))
namespace K08
open PySem PySem.Spec PyProof.Rows L2
def topS (i : Nat) : Stmt := PySem.Challenge.pw_crosskeep_k08_malformed_octets.main.body.getD i (.Pass ⟨0, 0, 0, 0⟩)
abbrev s_sign_of : Stmt := topS 3
abbrev N_sign_of : List Str := ["code"]
theorem sc_sign_of : FnScope ["code"] ["code"] (defScope s_sign_of) := ⟨rfl, rfl, rfl, by decide +kernel, rfl, by decide +kernel, by decide +kernel⟩
abbrev s_unpack : Stmt := topS 17
abbrev N_unpack : List Str := ["octets", "data"]
theorem sc_unpack : FnScope ["octets", "data"] ["octets"] (defScope s_unpack) := ⟨rfl, rfl, rfl, by decide +kernel, rfl, by decide +kernel, by decide +kernel⟩
abbrev s__read_whole : Stmt := topS 18
abbrev N__read_whole : List Str := ["octets", "room", "data", "end"]
theorem sc__read_whole : FnScope ["octets", "room", "data", "end"] ["octets", "room"] (defScope s__read_whole) := ⟨rfl, rfl, rfl, by decide +kernel, rfl, by decide +kernel, by decide +kernel⟩
abbrev s__has_great_integer : Stmt := topS 19
abbrev N__has_great_integer : List Str := ["data", "item"]
theorem sc__has_great_integer : FnScope ["data", "item"] ["data"] (defScope s__has_great_integer) := ⟨rfl, rfl, rfl, by decide +kernel, rfl, by decide +kernel, by decide +kernel⟩
abbrev s__read_data : Stmt := topS 20
abbrev N__read_data : List Str := ["octets", "at", "room", "kind"]
theorem sc__read_data : FnScope ["octets", "at", "room", "kind"] ["octets", "at", "room"] (defScope s__read_data) := ⟨rfl, rfl, rfl, by decide +kernel, rfl, by decide +kernel, by decide +kernel⟩
abbrev s__read_integer : Stmt := topS 21
abbrev N__read_integer : List Str := ["octets", "at", "number", "end"]
theorem sc__read_integer : FnScope ["octets", "at", "number", "end"] ["octets", "at"] (defScope s__read_integer) := ⟨rfl, rfl, rfl, by decide +kernel, rfl, by decide +kernel, by decide +kernel⟩
abbrev s__read_text : Stmt := topS 22
abbrev N__read_text : List Str := ["octets", "at", "length", "start", "end", "signs", "code"]
theorem sc__read_text : FnScope ["octets", "at", "length", "start", "end", "signs", "code"] ["octets", "at"] (defScope s__read_text) := ⟨rfl, rfl, rfl, by decide +kernel, rfl, by decide +kernel, by decide +kernel⟩
abbrev s__read_tuple : Stmt := topS 23
abbrev N__read_tuple : List Str := ["octets", "at", "room", "length", "end", "items", "_", "item"]
theorem sc__read_tuple : FnScope ["octets", "at", "room", "length", "end", "items", "_", "item"] ["octets", "at", "room"] (defScope s__read_tuple) := ⟨rfl, rfl, rfl, by decide +kernel, rfl, by decide +kernel, by decide +kernel⟩
abbrev s__read_sevens : Stmt := topS 24
abbrev N__read_sevens : List Str := ["octets", "at", "number", "scale", "end"]
theorem sc__read_sevens : FnScope ["octets", "at", "number", "scale", "end"] ["octets", "at"] (defScope s__read_sevens) := ⟨rfl, rfl, rfl, by decide +kernel, rfl, by decide +kernel, by decide +kernel⟩
abbrev s__octet_at : Stmt := topS 25
abbrev N__octet_at : List Str := ["octets", "at"]
theorem sc__octet_at : FnScope ["octets", "at"] ["octets", "at"] (defScope s__octet_at) := ⟨rfl, rfl, rfl, by decide +kernel, rfl, by decide +kernel, by decide +kernel⟩
abbrev s__law_row : Stmt := topS 27
abbrev N__law_row : List Str := ["script", "k", "cell", "first", "second"]
theorem sc__law_row : FnScope ["script", "k", "cell", "first", "second"] ["script", "k"] (defScope s__law_row) := ⟨rfl, rfl, rfl, by decide +kernel, rfl, by decide +kernel, by decide +kernel⟩
abbrev s__law_sign : Stmt := topS 28
abbrev N__law_sign : List Str := ["number", "signs"]
theorem sc__law_sign : FnScope ["number", "signs"] ["number"] (defScope s__law_sign) := ⟨rfl, rfl, rfl, by decide +kernel, rfl, by decide +kernel, by decide +kernel⟩
abbrev s__law_text : Stmt := topS 29
abbrev N__law_text : List Str := ["row", "count", "text", "rest", "k"]
theorem sc__law_text : FnScope ["row", "count", "text", "rest", "k"] ["row", "count"] (defScope s__law_text) := ⟨rfl, rfl, rfl, by decide +kernel, rfl, by decide +kernel, by decide +kernel⟩
abbrev s__law_take : Stmt := topS 30
abbrev N__law_take : List Str := ["box", "size", "digit"]
theorem sc__law_take : FnScope ["box", "size", "digit"] ["box", "size"] (defScope s__law_take) := ⟨rfl, rfl, rfl, by decide +kernel, rfl, by decide +kernel, by decide +kernel⟩
abbrev s__law_integer : Stmt := topS 31
abbrev N__law_integer : List Str := ["box", "kind", "number"]
theorem sc__law_integer : FnScope ["box", "kind", "number"] ["box"] (defScope s__law_integer) := ⟨rfl, rfl, rfl, by decide +kernel, rfl, by decide +kernel, by decide +kernel⟩
abbrev s__law_data : Stmt := topS 32
abbrev N__law_data : List Str := ["box", "depth", "kind", "items", "k"]
theorem sc__law_data : FnScope ["box", "depth", "kind", "items", "k"] ["box", "depth"] (defScope s__law_data) := ⟨rfl, rfl, rfl, by decide +kernel, rfl, by decide +kernel, by decide +kernel⟩
abbrev s__law_drawn : Stmt := topS 33
abbrev N__law_drawn : List Str := ["row", "box", "kind", "data", "k"]
theorem sc__law_drawn : FnScope ["row", "box", "kind", "data", "k"] ["row"] (defScope s__law_drawn) := ⟨rfl, rfl, rfl, by decide +kernel, rfl, by decide +kernel, by decide +kernel⟩
abbrev s__law_sevens : Stmt := topS 34
abbrev N__law_sevens : List Str := ["number", "octets"]
theorem sc__law_sevens : FnScope ["number", "octets"] ["number"] (defScope s__law_sevens) := ⟨rfl, rfl, rfl, by decide +kernel, rfl, by decide +kernel, by decide +kernel⟩
abbrev s__law_pack : Stmt := topS 35
abbrev N__law_pack : List Str := ["data", "octets", "item", "sign"]
theorem sc__law_pack : FnScope ["data", "octets", "item", "sign"] ["data"] (defScope s__law_pack) := ⟨rfl, rfl, rfl, by decide +kernel, rfl, by decide +kernel, by decide +kernel⟩
abbrev s__law_alike : Stmt := topS 36
abbrev N__law_alike : List Str := ["actual", "due", "k"]
theorem sc__law_alike : FnScope ["actual", "due", "k"] ["actual", "due"] (defScope s__law_alike) := ⟨rfl, rfl, rfl, by decide +kernel, rfl, by decide +kernel, by decide +kernel⟩
abbrev s__law_read_sevens : Stmt := topS 37
abbrev N__law_read_sevens : List Str := ["octets", "at", "number", "weight", "place"]
theorem sc__law_read_sevens : FnScope ["octets", "at", "number", "weight", "place"] ["octets", "at"] (defScope s__law_read_sevens) := ⟨rfl, rfl, rfl, by decide +kernel, rfl, by decide +kernel, by decide +kernel⟩
abbrev s__law_read : Stmt := topS 38
abbrev N__law_read : List Str := ["octets", "at", "depth", "mark", "pair", "codes", "code", "items", "k", "item"]
theorem sc__law_read : FnScope ["octets", "at", "depth", "mark", "pair", "codes", "code", "items", "k", "item"] ["octets", "at", "depth"] (defScope s__law_read) := ⟨rfl, rfl, rfl, by decide +kernel, rfl, by decide +kernel, by decide +kernel⟩
abbrev s__law_char : Stmt := topS 39
abbrev N__law_char : List Str := ["code", "low", "high"]
theorem sc__law_char : FnScope ["code", "low", "high"] ["code"] (defScope s__law_char) := ⟨rfl, rfl, rfl, by decide +kernel, rfl, by decide +kernel, by decide +kernel⟩
abbrev s__law_spoilt : Stmt := topS 40
abbrev N__law_spoilt : List Str := ["octets", "box", "kind", "at", "octet", "k"]
theorem sc__law_spoilt : FnScope ["octets", "box", "kind", "at", "octet", "k"] ["octets", "box"] (defScope s__law_spoilt) := ⟨rfl, rfl, rfl, by decide +kernel, rfl, by decide +kernel, by decide +kernel⟩
abbrev s__law_told : Stmt := topS 41
abbrev N__law_told : List Str := ["octets", "e"]
theorem sc__law_told : FnScope ["octets", "e"] ["octets"] (defScope s__law_told) := ⟨rfl, rfl, rfl, by decide +kernel, rfl, by decide +kernel, by decide +kernel⟩
abbrev s_law : Stmt := topS 42
abbrev N_law : List Str := ["script", "k", "octets", "turn", "due", "passed", "told"]
theorem sc_law : FnScope ["script", "k", "octets", "turn", "due", "passed", "told"] ["script"] (defScope s_law) := ⟨rfl, rfl, rfl, by decide +kernel, rfl, by decide +kernel, by decide +kernel⟩
abbrev s_Mal : Stmt := inClass (topS 6) 0
theorem mal_text : Xk.MalS s_Mal := ⟨⟨_, _, _, _, _, _, _, _, _, _, rfl, fun _ => ⟨_, rfl⟩, fun _ => rfl⟩, rfl, rfl, rfl, by decide +kernel, by decide +kernel, by decide +kernel, by decide +kernel, by decide +kernel, by decide +kernel, ⟨_, rfl, rfl⟩, fun _ _ _ _ _ _ _ _ _ _ _ _ => ⟨_, rfl, rfl⟩, fun _ _ _ _ _ _ _ _ _ _ _ _ _ => ⟨_, rfl, rfl⟩⟩
structure Txt (K : PySem.W.Frag) (mg : Str → Option Value) where
  C_CrossError : Addr
  g_CrossError : mg "CrossError" = some (.ref C_CrossError)
  N_CrossError : Xk.ClsX K C_CrossError
  C_Malformed : Addr
  g_Malformed : mg "Malformed" = some (.ref C_Malformed)
  N_Malformed : Xk.ClsX K C_Malformed
  C_NoMessage : Addr
  g_NoMessage : mg "NoMessage" = some (.ref C_NoMessage)
  N_NoMessage : Xk.ClsX K C_NoMessage
  C_LinkCut : Addr
  g_LinkCut : mg "LinkCut" = some (.ref C_LinkCut)
  N_LinkCut : Xk.ClsX K C_LinkCut
  f_Mal : Addr
  X_Mal : XfC K C_Malformed
  E_Mal : ExcC K C_Malformed
  S_Mal : PySem.W.subIn K (.ref C_Malformed) (.ref C_Malformed) = some true
  V_Mal : PySem.W.subIn K (.ref C_Malformed) (.type "ValueError") = some true
  s_Malformed_CrossError : PySem.W.subIn K (.ref C_Malformed) (.ref C_CrossError) = some true
  s_Malformed_NoMessage : PySem.W.subIn K (.ref C_Malformed) (.ref C_NoMessage) = some false
  s_Malformed_LinkCut : PySem.W.subIn K (.ref C_Malformed) (.ref C_LinkCut) = some false
  R_NoMessage : Xk.ExR K C_NoMessage
  s_NoMessage_CrossError : PySem.W.subIn K (.ref C_NoMessage) (.ref C_CrossError) = some true
  s_NoMessage_Malformed : PySem.W.subIn K (.ref C_NoMessage) (.ref C_Malformed) = some false
  s_NoMessage_LinkCut : PySem.W.subIn K (.ref C_NoMessage) (.ref C_LinkCut) = some false
  v_NoMessage : PySem.W.subIn K (.ref C_NoMessage) (.type "ValueError") = some true
  R_LinkCut : Xk.ExR K C_LinkCut
  s_LinkCut_CrossError : PySem.W.subIn K (.ref C_LinkCut) (.ref C_CrossError) = some true
  s_LinkCut_Malformed : PySem.W.subIn K (.ref C_LinkCut) (.ref C_Malformed) = some false
  s_LinkCut_NoMessage : PySem.W.subIn K (.ref C_LinkCut) (.ref C_NoMessage) = some false
  v_LinkCut : PySem.W.subIn K (.ref C_LinkCut) (.type "ValueError") = some true
  t_BELOW_ZERO : Tok
  g_BELOW_ZERO : mg "BELOW_ZERO" = some (.int 2 t_BELOW_ZERO)
  t_FROM_ZERO : Tok
  g_FROM_ZERO : mg "FROM_ZERO" = some (.int 1 t_FROM_ZERO)
  t_HIGH_SIGNS : Tok
  g_HIGH_SIGNS : mg "HIGH_SIGNS" = some (.str "&'()*+,-./0123456789:;<=>?@ABCDEFGHIJKLMNOPQRSTUVWXYZ[\\]^_`abcdefghijklmnopqrstuvwxyz{|}~" t_HIGH_SIGNS)
  t_LOW_SIGNS : Tok
  g_LOW_SIGNS : mg "LOW_SIGNS" = some (.str " !\"#$" t_LOW_SIGNS)
  t_MOST_DEPTH : Tok
  g_MOST_DEPTH : mg "MOST_DEPTH" = some (.int 40 t_MOST_DEPTH)
  t_MOST_INTEGER : Tok
  g_MOST_INTEGER : mg "MOST_INTEGER" = some (.int 1000000000000000000 t_MOST_INTEGER)
  t_NOTHING : Tok
  g_NOTHING : mg "NOTHING" = some (.int 0 t_NOTHING)
  t_TEXT : Tok
  g_TEXT : mg "TEXT" = some (.int 3 t_TEXT)
  t_TUPLE : Tok
  g_TUPLE : mg "TUPLE" = some (.int 4 t_TUPLE)
  f_sign_of : Addr
  d_sign_of : FuncData
  F_sign_of : Fun K "sign_of" "sign_of" s_sign_of f_sign_of d_sign_of
  b_sign_of : Binds K d_sign_of ["code"] []
  g_sign_of : mg "sign_of" = some (.ref f_sign_of)
  f_unpack : Addr
  d_unpack : FuncData
  F_unpack : Fun K "unpack" "unpack" s_unpack f_unpack d_unpack
  b_unpack : Binds K d_unpack ["octets"] []
  g_unpack : mg "unpack" = some (.ref f_unpack)
  f__read_whole : Addr
  d__read_whole : FuncData
  F__read_whole : Fun K "_read_whole" "_read_whole" s__read_whole f__read_whole d__read_whole
  b__read_whole : Binds K d__read_whole ["octets", "room"] []
  g__read_whole : mg "_read_whole" = some (.ref f__read_whole)
  f__has_great_integer : Addr
  d__has_great_integer : FuncData
  F__has_great_integer : Fun K "_has_great_integer" "_has_great_integer" s__has_great_integer f__has_great_integer d__has_great_integer
  b__has_great_integer : Binds K d__has_great_integer ["data"] []
  g__has_great_integer : mg "_has_great_integer" = some (.ref f__has_great_integer)
  f__read_data : Addr
  d__read_data : FuncData
  F__read_data : Fun K "_read_data" "_read_data" s__read_data f__read_data d__read_data
  b__read_data : Binds K d__read_data ["octets", "at", "room"] []
  g__read_data : mg "_read_data" = some (.ref f__read_data)
  f__read_integer : Addr
  d__read_integer : FuncData
  F__read_integer : Fun K "_read_integer" "_read_integer" s__read_integer f__read_integer d__read_integer
  b__read_integer : Binds K d__read_integer ["octets", "at"] []
  g__read_integer : mg "_read_integer" = some (.ref f__read_integer)
  f__read_text : Addr
  d__read_text : FuncData
  F__read_text : Fun K "_read_text" "_read_text" s__read_text f__read_text d__read_text
  b__read_text : Binds K d__read_text ["octets", "at"] []
  g__read_text : mg "_read_text" = some (.ref f__read_text)
  f__read_tuple : Addr
  d__read_tuple : FuncData
  F__read_tuple : Fun K "_read_tuple" "_read_tuple" s__read_tuple f__read_tuple d__read_tuple
  b__read_tuple : Binds K d__read_tuple ["octets", "at", "room"] []
  g__read_tuple : mg "_read_tuple" = some (.ref f__read_tuple)
  f__read_sevens : Addr
  d__read_sevens : FuncData
  F__read_sevens : Fun K "_read_sevens" "_read_sevens" s__read_sevens f__read_sevens d__read_sevens
  b__read_sevens : Binds K d__read_sevens ["octets", "at"] []
  g__read_sevens : mg "_read_sevens" = some (.ref f__read_sevens)
  f__octet_at : Addr
  d__octet_at : FuncData
  F__octet_at : Fun K "_octet_at" "_octet_at" s__octet_at f__octet_at d__octet_at
  b__octet_at : Binds K d__octet_at ["octets", "at"] []
  g__octet_at : mg "_octet_at" = some (.ref f__octet_at)
  f__law_row : Addr
  d__law_row : FuncData
  F__law_row : Fun K "_law_row" "_law_row" s__law_row f__law_row d__law_row
  b__law_row : Binds K d__law_row ["script", "k"] []
  g__law_row : mg "_law_row" = some (.ref f__law_row)
  f__law_sign : Addr
  d__law_sign : FuncData
  F__law_sign : Fun K "_law_sign" "_law_sign" s__law_sign f__law_sign d__law_sign
  b__law_sign : Binds K d__law_sign ["number"] []
  g__law_sign : mg "_law_sign" = some (.ref f__law_sign)
  f__law_text : Addr
  d__law_text : FuncData
  F__law_text : Fun K "_law_text" "_law_text" s__law_text f__law_text d__law_text
  b__law_text : Binds K d__law_text ["row", "count"] []
  g__law_text : mg "_law_text" = some (.ref f__law_text)
  f__law_take : Addr
  d__law_take : FuncData
  F__law_take : Fun K "_law_take" "_law_take" s__law_take f__law_take d__law_take
  b__law_take : Binds K d__law_take ["box", "size"] []
  g__law_take : mg "_law_take" = some (.ref f__law_take)
  f__law_integer : Addr
  d__law_integer : FuncData
  F__law_integer : Fun K "_law_integer" "_law_integer" s__law_integer f__law_integer d__law_integer
  b__law_integer : Binds K d__law_integer ["box"] []
  g__law_integer : mg "_law_integer" = some (.ref f__law_integer)
  f__law_data : Addr
  d__law_data : FuncData
  F__law_data : Fun K "_law_data" "_law_data" s__law_data f__law_data d__law_data
  b__law_data : Binds K d__law_data ["box", "depth"] []
  g__law_data : mg "_law_data" = some (.ref f__law_data)
  f__law_drawn : Addr
  d__law_drawn : FuncData
  F__law_drawn : Fun K "_law_drawn" "_law_drawn" s__law_drawn f__law_drawn d__law_drawn
  b__law_drawn : Binds K d__law_drawn ["row"] []
  g__law_drawn : mg "_law_drawn" = some (.ref f__law_drawn)
  f__law_sevens : Addr
  d__law_sevens : FuncData
  F__law_sevens : Fun K "_law_sevens" "_law_sevens" s__law_sevens f__law_sevens d__law_sevens
  b__law_sevens : Binds K d__law_sevens ["number"] []
  g__law_sevens : mg "_law_sevens" = some (.ref f__law_sevens)
  f__law_pack : Addr
  d__law_pack : FuncData
  F__law_pack : Fun K "_law_pack" "_law_pack" s__law_pack f__law_pack d__law_pack
  b__law_pack : Binds K d__law_pack ["data"] []
  g__law_pack : mg "_law_pack" = some (.ref f__law_pack)
  f__law_alike : Addr
  d__law_alike : FuncData
  F__law_alike : Fun K "_law_alike" "_law_alike" s__law_alike f__law_alike d__law_alike
  b__law_alike : Binds K d__law_alike ["actual", "due"] []
  g__law_alike : mg "_law_alike" = some (.ref f__law_alike)
  f__law_read_sevens : Addr
  d__law_read_sevens : FuncData
  F__law_read_sevens : Fun K "_law_read_sevens" "_law_read_sevens" s__law_read_sevens f__law_read_sevens d__law_read_sevens
  b__law_read_sevens : Binds K d__law_read_sevens ["octets", "at"] []
  g__law_read_sevens : mg "_law_read_sevens" = some (.ref f__law_read_sevens)
  f__law_read : Addr
  d__law_read : FuncData
  F__law_read : Fun K "_law_read" "_law_read" s__law_read f__law_read d__law_read
  b__law_read : Binds K d__law_read ["octets", "at", "depth"] []
  g__law_read : mg "_law_read" = some (.ref f__law_read)
  f__law_char : Addr
  d__law_char : FuncData
  F__law_char : Fun K "_law_char" "_law_char" s__law_char f__law_char d__law_char
  b__law_char : Binds K d__law_char ["code"] []
  g__law_char : mg "_law_char" = some (.ref f__law_char)
  f__law_spoilt : Addr
  d__law_spoilt : FuncData
  F__law_spoilt : Fun K "_law_spoilt" "_law_spoilt" s__law_spoilt f__law_spoilt d__law_spoilt
  b__law_spoilt : Binds K d__law_spoilt ["octets", "box"] []
  g__law_spoilt : mg "_law_spoilt" = some (.ref f__law_spoilt)
  f__law_told : Addr
  d__law_told : FuncData
  F__law_told : Fun K "_law_told" "_law_told" s__law_told f__law_told d__law_told
  b__law_told : Binds K d__law_told ["octets"] []
  g__law_told : mg "_law_told" = some (.ref f__law_told)
  f_law : Addr
  d_law : FuncData
  F_law : Fun K "law" "law" s_law f_law d_law
  b_law : Binds K d_law ["script"] []
  g_law : mg "law" = some (.ref f_law)
  m_ValueError : mg "ValueError" = none
  m_any : mg "any" = none
  m_bool : mg "bool" = none
  m_int : mg "int" = none
  m_isinstance : mg "isinstance" = none
  m_len : mg "len" = none
  m_list : mg "list" = none
  m_ord : mg "ord" = none
  m_range : mg "range" = none
  m_str : mg "str" = none
  m_tuple : mg "tuple" = none
section
variable {P : Program} {w : World} {K : PySem.W.Frag} {mg : Str → Option Value} {base : Heap}
def sp__law_row (K : PySem.W.Frag) : Sp := fun vs H Q _ => ∃ (a : Addr) (k : Int) (ns : List Int), vs = [.ref a, .int k] ∧ SqL K H a (ns.map V.int) ∧ ns.length ≤ 63 ∧ 0 ≤ k ∧ k ≤ 1000 ∧ ∀ n : Int, 0 ≤ n → Q (.int n) H
theorem ok__law_row (T : Txt K mg) : FnOk P w K mg base CX0 1 T.f__law_row T.d__law_row ["script", "k"] (sp__law_row K) := by
  refine T.F__law_row.ok sc__law_row (fun vs H Q E h => ?_) (fun cdv A outer s H vs Q E hr h => ?_)
  · obtain ⟨a, k, ns, rfl, _⟩ := h
    rfl
  obtain ⟨a, k, ns, rfl, hS, hl, hk, hk2, q⟩ := h
  refine ⟨_, (pss_cons (ps_set (i := 2) sc__law_row.nd rfl (Or.inl rfl) (pe_int))
      (Evl.pss_cut (ps_if (pt_cmpR op_gt (pe_callB (Xk.k_len (K := K) (by rfl)) (by rfl) T.m_len PySem.boot_len (pa_cons (pv 0) pa_nil)) (pe_int) (nomark _)) (pss_one (ps_set (i := 2) sc__law_row.nd rfl (Or.inl rfl) (pe_ix (Xk.k_ixL (K := K) (by rfl)) (pv 0) (pe_op op_mod (pe_callTy Xk.call_nInt (by rfl) T.m_int (by decide +kernel) (pa_cons (pv 1) pa_nil)) (pe_callB (Xk.k_len (K := K) (by rfl)) (by rfl) T.m_len PySem.boot_len (pa_cons (pv 0) pa_nil))) (fun _ _ => rfl)))) pss_nil)
      (Evl.pss_cut (ps_if (pt_cmpR op_lt (pv 2) (pe_int) (nomark _)) (pss_one (ps_set (i := 2) sc__law_row.nd rfl (Or.inl rfl) (pe_op op_sub (pe_int) (pe_op op_mul (pe_int) (pv 2))))) pss_nil)
      (Evl.pss_cut (ps_if (PW.pt (pw_and (pt_cmpR op_ge (pv 2) (pe_op op_pow (pe_int) (pe_int)) (nomark _)) (pw_and1 (pt_cmpR op_lt (pv 1) (pe_callB (Xk.k_len (K := K) (by rfl)) (by rfl) T.m_len PySem.boot_len (pa_cons (pv 0) pa_nil)) (nomark _))))) (pss_one (ps_ret (pv 2))) pss_nil)
      (pss_cons (ps_set (i := 3) sc__law_row.nd rfl (Or.inl rfl) (pe_op op_mod (pe_callTy Xk.call_nInt (by rfl) T.m_int (by decide +kernel) (pa_cons (pe_op op_add (pe_op op_add (pe_op op_mul (pv 2) (pe_int)) (pe_op op_mul (pe_op op_add (pv 1) (pe_int)) (pe_int))) (pe_callB (Xk.k_len (K := K) (by rfl)) (by rfl) T.m_len PySem.boot_len (pa_cons (pv 0) pa_nil))) pa_nil)) (pe_int)))
      (pss_cons (ps_set (i := 4) sc__law_row.nd rfl (Or.inl rfl) (pe_op op_mod (pe_callTy Xk.call_nInt (by rfl) T.m_int (by decide +kernel) (pa_cons (pe_op op_add (pe_op op_add (pe_op op_mul (pv 3) (pv 3)) (pe_op op_mul (pv 2) (pe_int))) (pv 1)) pa_nil)) (pe_int)))
      (pss_one (ps_ret (pe_op op_add (pe_op op_mul (pv 4) (pe_int)) (pe_op op_mod (pe_callTy Xk.call_nInt (by rfl) T.m_int (by decide +kernel) (pa_cons (pe_op op_mul (pv 3) (pe_int)) pa_nil)) (pe_int))))))))))), ?_⟩
  wtm_at "x0"
  wtm_at "xs"
  refine Xk.x_cut (fun σ' H' => H = H' ∧ ∃ c : Int, σ' = [some (.ref a), some (.int k), some (.int c), none, none]) ?_ ?_
  · wtm_at "xs"
    refine Xk.x_itd (fun h => ?_) (fun h => ?_)
    · wtm_at "xs"
      rw [List.length_map] at h ⊢
      have h1 : k % (ns.length : Int) < ns.length := Int.emod_lt_of_pos _ h
      have h2 : 0 ≤ k % (ns.length : Int) := Int.emod_nonneg _ (by omega)
      obtain ⟨j, hj⟩ := Int.eq_ofNat_of_zero_le h2
      rw [hj] at h1 ⊢
      have h3 : j < ns.length := by omega
      refine Xk.x_ixL hS (atI_nat (j := j) (by rw [List.getElem?_map, List.getElem?_eq_getElem h3]; rfl)) ?_
      exact ⟨rfl, _, rfl⟩
    · wtm_at "xs"
      exact ⟨rfl, _, rfl⟩
  rintro σ' H' ⟨rfl, c, rfl⟩
  refine Xk.x_cut (fun σ' H' => H = H' ∧ ∃ c : Int, 0 ≤ c ∧ σ' = [some (.ref a), some (.int k), some (.int c), none, none]) ?_ ?_
  · wtm_at "xs"
    refine Xk.x_itd (fun h => ?_) (fun h => ?_)
    · wtm_at "xs"
      exact ⟨rfl, _, by omega, rfl⟩
    · wtm_at "xs"
      exact ⟨rfl, _, by omega, rfl⟩
  rintro σ' H' ⟨rfl, c, hc, rfl⟩
  refine Xk.x_cut (fun σ' H' => H = H' ∧ σ' = [some (.ref a), some (.int k), some (.int c), none, none]) ?_ ?_
  · wtm_at "xs"
    refine Xk.x_itd (fun h => ?_) (fun h => ?_)
    · wtm_at "xs"
      refine Xk.x_itd (fun h => ?_) (fun h => ?_)
      · wtm_at "xs"
        exact q _ hc
      · wtm_at "xs"
        exact ⟨rfl, rfl⟩
    · wtm_at "xs"
      exact ⟨rfl, rfl⟩
  rintro σ' H' ⟨rfl, rfl⟩
  wtm_at "xs"
  exact q _ (by omega)
--CUT--
def lowS : Str := " !\"#$"
def highS : Str := "&'()*+,-./0123456789:;<=>?@ABCDEFGHIJKLMNOPQRSTUVWXYZ[\\]^_`abcdefghijklmnopqrstuvwxyz{|}~"
def tx (c : Nat) : Bool := decide (c ∈ lowS.cps.toList) || decide (c ∈ highS.cps.toList)
def signS : Str := " !\"#$&'()*+,-./0123456789:;<=>?@ABCDEFGHIJKLMNOPQRSTUVWXYZ[\\]^_`abcdefghijklmnopqrstuvwxyz{|}~"
def sp__law_sign (K : PySem.W.Frag) : Sp := fun vs H Q _ => ∃ n : Int, vs = [.int n] ∧ 0 ≤ n ∧ ∀ c, tx c = true → Q (.str ⟨#[c]⟩) H
theorem ok__law_sign (T : Txt K mg) : FnOk P w K mg base CX0 1 T.f__law_sign T.d__law_sign ["number"] (sp__law_sign K) := by
  refine T.F__law_sign.ok sc__law_sign (fun vs H Q E h => ?_) (fun cdv A outer s H vs Q E hr h => ?_)
  · obtain ⟨n, rfl, _⟩ := h
    rfl
  obtain ⟨n, rfl, hn, q⟩ := h
  refine ⟨_, (pss_cons (ps_set (i := 1) sc__law_sign.nd rfl (Or.inl rfl) (pe_str))
      (pss_one (ps_ret (pe_ix ix_str (pv 1) (pe_op op_mod (pe_callTy Xk.call_nInt (by rfl) T.m_int (by decide +kernel) (pa_cons (pv 0) pa_nil)) (pe_int)) (fun _ _ => rfl))))), ?_⟩
  wtm_at "x0"
  wtm_at "xs"
  obtain ⟨j, hj⟩ := Int.eq_ofNat_of_zero_le (Int.emod_nonneg n (show (94 : Int) ≠ 0 by decide))
  have hj2 := Int.emod_lt_of_pos n (show (0 : Int) < 94 by decide)
  obtain ⟨c, hc⟩ := Xk.lt_at (xs := signS.cps.toList) (j := j) (by rw [show signS.cps.toList.length = 94 by decide +kernel]; omega)
  refine Xk.x_ixS (c := c) (by decide +kernel) (show atI signS.cps.toList _ = some c from Xk.at_nat hj hc) ?_
  exact q c (List.all_eq_true.mp (show signS.cps.toList.all tx = true by decide +kernel) c (List.mem_of_getElem? hc))
theorem one_len (c : Nat) : (⟨#[c]⟩ : Str).length = 1 := rfl
theorem one_all {p : Nat → Bool} {c : Nat} (h : p c = true) : Xk.AllC p ⟨#[c]⟩ = true := by
  unfold Xk.AllC
  simp [h]
theorem nil_all (p : Nat → Bool) : Xk.AllC p "" = true := rfl
def sp__law_text (K : PySem.W.Frag) : Sp := fun vs H Q _ => ∃ n c : Int, vs = [.int n, .int c] ∧ 0 ≤ n ∧ 0 ≤ c ∧ c ≤ 100 ∧ ∀ s, Xk.AllC tx s = true → (s.length : Int) = c → Q (.str s) H
theorem ok__law_text (T : Txt K mg) : FnOk P w K mg base CX0 2 T.f__law_text T.d__law_text ["row", "count"] (sp__law_text K) := by
  refine T.F__law_text.ok sc__law_text (fun vs H Q E h => ?_) (fun cdv A outer s H vs Q E hr h => ?_)
  · obtain ⟨n, c, rfl, _⟩ := h
    rfl
  obtain ⟨n, c, rfl, hn, h0, h1, q⟩ := h
  refine ⟨_, (pss_cons (ps_set (i := 2) sc__law_text.nd rfl (Or.inl rfl) (pe_str))
      (pss_cons (ps_set (i := 3) sc__law_text.nd rfl (Or.inl rfl) (pe_callTy Xk.call_nInt (by rfl) T.m_int (by decide +kernel) (pa_cons (pv 0) pa_nil)))
      (pss_cons (ps_for PassesOwn.never rfl (pi_range1 (by rfl) T.m_range (pa_cons (pv 1) pa_nil)) (pg_name (i := 4) sc__law_text.nd rfl (Or.inl rfl)) (pss_cons (ps_set (i := 2) sc__law_text.nd rfl (Or.inl rfl) (pe_op Xk.op_nAddS (pv 2) (pe_call (ok__law_sign T) (hr.mono (by decide)) (by rfl) T.g__law_sign T.F__law_sign.kp T.b__law_sign .nil pass0 (pa_cons (pe_op op_fdiv (pv 3) (pe_int)) pa_nil))))
      (pss_one (ps_set (i := 3) sc__law_text.nd rfl (Or.inl rfl) (pe_op op_add (pe_op op_add (pe_op op_fdiv (pv 3) (pe_int)) (pe_op op_mul (pe_op op_mod (pv 3) (pe_int)) (pe_int))) (pv 4))))))
      (pss_one (ps_ret (pv 2)))))), ?_⟩
  wtm_at "x0"
  wtm_at "xs"
  refine Xk.x_range (fun i σ' H' => ∃ (s : Str) (r : Int) (y : Option V), σ' = [some (.int n), some (.int c), some (.str s), some (.int r), y] ∧ H = H' ∧ Xk.AllC tx s = true ∧ s.length = i ∧ 0 ≤ r) ⟨by omega, by omega⟩ ⟨_, _, _, rfl, rfl, nil_all _, rfl, hn⟩ ?_ ?_
  · rintro i σ' H' hi ⟨s', r, y, rfl, rfl, hs, hl, hr0⟩
    wtm_at "xs"
    refine ⟨_, rfl, by omega, fun ch hch => ?_⟩
    refine Xk.x_nAddS (by rw [one_len]; omega) ?_
    wtm_at "xs"
    exact ⟨_, _, _, rfl, rfl, Xk.allC_add hs (one_all hch), by rw [Xk.len_add, one_len, hl], by omega⟩
  · rintro σ' H' ⟨s', r, y, rfl, rfl, hs, hl, hr0⟩
    wtm_at "xs"
    exact q s' hs (by omega)
def sp__law_take (K : PySem.W.Frag) : Sp := fun vs H Q _ => ∃ (a : Addr) (z n : Int), vs = [.ref a, .int z] ∧ H a = some (.lst [.int n]) ∧ 0 < z ∧ z ≤ 1000000000000000001 ∧ (0 ≤ n % z → n % z < z → Q (.int (n % z)) (upd H a (.lst [.int (n / z)])))
theorem ok__law_take (T : Txt K mg) : FnOk P w K mg base CX0 1 T.f__law_take T.d__law_take ["box", "size"] (sp__law_take K) := by
  refine T.F__law_take.ok sc__law_take (fun vs H Q E h => ?_) (fun cdv A outer s H vs Q E hr h => ?_)
  · obtain ⟨a, z, n, rfl, _⟩ := h
    rfl
  obtain ⟨a, z, n, rfl, hb, h0, h1, q⟩ := h
  refine ⟨_, (pss_cons (ps_set (i := 2) sc__law_take.nd rfl (Or.inl rfl) (pe_op op_mod (pe_callTy Xk.call_nInt (by rfl) T.m_int (by decide +kernel) (pa_cons (pe_ix (Xk.k_ixL (K := K) (by rfl)) (pv 0) (pe_int) (fun _ _ => rfl)) pa_nil)) (pv 1)))
      (pss_cons (ps_asg (pe_op op_fdivW (pe_ix (Xk.k_ixL (K := K) (by rfl)) (pv 0) (pe_int) (fun _ _ => rfl)) (pv 1)) (pg_sub (pv 0) (pe_int) set_list))
      (pss_one (ps_ret (pv 2))))), ?_⟩
  have cw : CDivW n z := ⟨h0, by have h2 : z.natAbs < 2 ^ 62 := by omega
                                 have h3 : z.natAbs ≠ 0 := by omega
                                 have := (Nat.log2_lt h3).mpr h2
                                 omega⟩
  wtm_at "x0"
  wtm_at "xs"
  refine Xk.x_setL (j := 0) hb rfl ?_
  wtm_at "xs"
  exact q (Int.emod_nonneg _ (by omega)) (Int.emod_lt_of_pos _ h0)
--CUT--
/-- a draw from a box, said so that it goes on -/
theorem draw {K : PySem.W.Frag} {H : Hp} {Q : VK} {E : XK} {a : Addr} {z n : Int} (hb : H a = some (.lst [.int n])) (hz : 0 < z ∧ z ≤ 1000000000000000001)
    (q : ∀ (j : Nat) (m : Int) H', (j : Int) < z → Xk.But a H H' → H' a = some (.lst [.int m]) → Q (.int j) H') : sp__law_take K [.ref a, .int z] H Q E := by
  refine ⟨a, z, n, rfl, hb, hz.1, hz.2, fun h1 h2 => ?_⟩
  obtain ⟨j, hj⟩ := Int.eq_ofNat_of_zero_le h1
  rw [hj] at h2 ⊢
  exact q j (n / z) _ h2 (Xk.but_mut (Xk.But.refl _ _)) upd_same
--CUT--
/-! ### sevens -/
def sevens (n : Nat) : List Int := if h : n < 128 then [(n : Int)] else (((n % 128 : Nat) : Int) + 128) :: sevens (n / 128)
  termination_by n
  decreasing_by omega
theorem sevens_lt {n : Nat} (h : n < 128) : sevens n = [(n : Int)] := by
  rw [sevens]
  exact dif_pos h
theorem sevens_ge {n : Nat} (h : ¬ n < 128) : sevens n = (((n % 128 : Nat) : Int) + 128) :: sevens (n / 128) := by
  rw [sevens]
  exact dif_neg h
theorem sevens_len {k : Nat} : ∀ {n : Nat}, n < 128 ^ (k + 1) → (sevens n).length ≤ k + 1 := by
  induction k with
  | zero =>
    intro n h
    rw [sevens_lt (by omega)]
    exact Nat.le_refl _
  | succ k ih =>
    intro n h
    by_cases c : n < 128
    · rw [sevens_lt c]
      show 1 ≤ k + 1 + 1
      omega
    · rw [sevens_ge c]
      have h2 : n / 128 < 128 ^ (k + 1) := by
        rw [Nat.div_lt_iff_lt_mul (by decide)]
        rw [Nat.pow_succ] at h
        exact h
      have h3 := ih h2
      show (sevens (n / 128)).length + 1 ≤ k + 1 + 1
      omega
theorem sevens_pos (n : Nat) : 1 ≤ (sevens n).length := by
  by_cases c : n < 128
  · rw [sevens_lt c]
    exact Nat.le_refl _
  · rw [sevens_ge c]
    exact Nat.succ_le_succ (Nat.zero_le _)
theorem map_snoc (xs : List Int) (i : Int) : xs.map V.int ++ [V.int i] = (xs ++ [i]).map V.int := by
  rw [List.map_append]
  rfl
/-- an integer's octets -/
def intD (i : Int) : List Int := if 0 ≤ i then 1 :: sevens i.toNat else 2 :: sevens (-i - 1).toNat
theorem intD_pos {i : Int} (h : 0 ≤ i) : intD i = 1 :: sevens i.toNat := if_pos h
theorem intD_neg {i : Int} (h : ¬ 0 ≤ i) : intD i = 2 :: sevens (-i - 1).toNat := if_neg h
mutual
/-- the octets of data -/
def packD : PyData → List Int
  | .none => [0]
  | .int i => intD i
  | .str s => 3 :: (sevens s.length ++ s.cps.toList.map fun c : Nat => (c : Int))
  | .tuple ds => 4 :: (sevens ds.length ++ packAll ds)
  | _ => []
def packAll : List PyData → List Int
  | [] => []
  | d :: ds => packD d ++ packAll ds
end
mutual
/-- data that the law draws -/
def Gd : PyData → Prop
  | .none => True
  | .int i => -1000000000000000000 ≤ i ∧ i ≤ 1000000000000000000
  | .str s => s.length ≤ 1000 ∧ Xk.AllC tx s = true
  | .tuple ds => ds.length ≤ 1000 ∧ GdAll ds
  | _ => False
def GdAll : List PyData → Prop
  | [] => True
  | d :: ds => Gd d ∧ GdAll ds
end
theorem packAll_snoc (d : PyData) : ∀ ds : List PyData, packAll (ds ++ [d]) = packAll ds ++ packD d
  | [] => by rw [List.nil_append, packAll, packAll, packAll, List.append_nil]; rfl
  | e :: ds => by rw [List.cons_append, packAll, packAll_snoc d ds, packAll, List.append_assoc]
theorem gdAll_at : ∀ {ds : List PyData} {i : Nat} {d : PyData}, GdAll ds → ds[i]? = some d → Gd d
  | [], _, _, _, h => by cases h
  | e :: ds, 0, d, h, z => by
    cases z
    rw [GdAll] at h
    exact h.1
  | e :: ds, i + 1, d, h, z => by
    rw [GdAll] at h
    exact gdAll_at (ds := ds) (i := i) h.2 z
theorem packAll_take_le (ds : List PyData) (i : Nat) : (packAll (ds.take i)).length ≤ (packAll ds).length := by
  induction ds generalizing i with
  | nil => rw [List.take_nil]; exact Nat.le_refl _
  | cons d ds ih =>
    cases i with
    | zero => exact Nat.zero_le _
    | succ i =>
      rw [List.take_succ_cons, packAll, packAll, List.length_append, List.length_append]
      have := ih i
      omega
theorem tyx_st {a : Addr} {H : Hp} {xs : List V} (h : SqT K H a xs) : TyX K H (.ref a) (.type "tuple") := by
  rcases h with (h | ⟨u, h⟩) | h
  · exact .base (.tup h)
  · exact .fTuple h
  · obtain ⟨o, _, _, e, c, _⟩ := h
    exact .kTuple e c
theorem cut_ints (xs : List Int) (i j : Nat) : cutV (xs.map V.int) (some (i : Int)) (some (j : Int)) = ((xs.drop i).take (j - i)).map V.int := by
  unfold cutV
  rw [HT.sIx_nat, HT.sIx_nat, List.length_map, ← List.map_drop, ← List.map_take]
  congr 1
  by_cases h : i ≤ xs.length
  · rw [show min i xs.length = i by omega]
    by_cases h2 : j ≤ xs.length
    · rw [show min j xs.length = j by omega]
    · rw [show min j xs.length = xs.length by omega, List.take_of_length_le (by rw [List.length_drop]; omega), List.take_of_length_le (by rw [List.length_drop]; omega)]
  · rw [List.drop_eq_nil_of_le (show xs.length ≤ min i xs.length by omega), List.drop_eq_nil_of_le (show xs.length ≤ i by omega)]
    simp
theorem cut_by {xs : List Int} {x y : Int} {i j : Nat} (hx : x = (i : Int)) (hy : y = (j : Int)) : cutV (xs.map V.int) (some x) (some y) = ((xs.drop i).take (j - i)).map V.int := by
  rw [hx, hy]
  exact cut_ints xs i j

theorem tx_where : ∀ c, tx c = true → (32 ≤ c ∧ c < 37 ∧ lowS.cps.toList[c - 32]? = some c) ∨ (38 ≤ c ∧ c ≤ 126 ∧ highS.cps.toList[c - 38]? = some c) := by
  intro c h
  have h2 : c ∈ lowS.cps.toList ∨ c ∈ highS.cps.toList := by
    unfold tx at h
    rw [Bool.or_eq_true, decide_eq_true_eq, decide_eq_true_eq] at h
    exact h
  rcases h2 with h2 | h2
  · exact .inl (by simpa using List.all_eq_true.mp (show lowS.cps.toList.all (fun c => decide (32 ≤ c ∧ c < 37 ∧ lowS.cps.toList[c - 32]? = some c)) = true by decide +kernel) c h2)
  · exact .inr (by simpa using List.all_eq_true.mp (show highS.cps.toList.all (fun c => decide (38 ≤ c ∧ c ≤ 126 ∧ highS.cps.toList[c - 38]? = some c)) = true by decide +kernel) c h2)
theorem okC_tx {z : Str} (h : Xk.AllC tx z = true) : Xk.AllC Xk.okC z = true := Xk.allC_mono h fun c hc => by
  rcases tx_where c hc with ⟨h1, h2, _⟩ | ⟨h1, h2, _⟩
  · exact decide_eq_true (by omega)
  · exact decide_eq_true (by omega)
theorem joinL_one : ∀ cs : List Nat, TL.joinL [] (cs.map fun c => [c]) = cs
  | [] => rfl
  | [c] => rfl
  | c :: d :: r => by
    show [c] ++ ([] ++ TL.joinL [] ((d :: r).map fun c => [c])) = c :: d :: r
    rw [joinL_one (d :: r)]
    rfl
theorem join_one (cs : List Nat) : Txt.join "" (cs.map fun c => (⟨#[c]⟩ : Str)) = ⟨cs.toArray⟩ := by
  have h : (Txt.join "" (cs.map fun c => (⟨#[c]⟩ : Str))).cps.toList = cs := by
    rw [TL.join_eq]
    refine (TL.tl_join "" _).trans ?_
    rw [List.map_map]
    exact joinL_one cs
  show (⟨(Txt.join "" (cs.map fun c => (⟨#[c]⟩ : Str))).cps⟩ : Str) = _
  rw [← Array.toArray_toList (xs := (Txt.join "" (cs.map fun c => (⟨#[c]⟩ : Str))).cps), h]
theorem pk_signs {K : PySem.W.Frag} {H : Hp} : ∀ cs : List Nat, cs.all tx = true → Xk.PkAll K H 0 (cs.map fun c => V.str ⟨#[c]⟩) (cs.map fun c => PyData.str ⟨#[c]⟩)
  | [], _ => Xk.pk_nil
  | c :: cs, h => by
    rw [List.all_cons, Bool.and_eq_true] at h
    exact Xk.pk_cons (Xk.pk_str (Xk.lay_str (okC_tx (one_all h.1)))) (pk_signs cs h.2)
theorem no_none (cs : List Nat) : Xk.inD .none (cs.map fun c => PyData.str ⟨#[c]⟩) = false := by
  unfold Xk.inD
  rw [List.any_map, List.any_eq_false]
  intro c _
  exact Bool.false_ne_true
theorem sum_ones (cs : List Nat) : ((cs.map fun c => (⟨#[c]⟩ : Str)).map (·.length)).sum = cs.length := by
  induction cs with
  | nil => rfl
  | cons c cs ih =>
    rw [List.map_cons, List.map_cons, List.sum_cons, ih, one_len, List.length_cons]
    omega
theorem fall {t u : TS} {D : Ends} {σ : L2.St} {H : Hp} (h1 : t { D with nx := fun σ2 H2 => H2 = H ∧ σ2 = σ } σ H) (h2 : u D σ H) : Evl.tCut t u D σ H := by
  refine Xk.x_cut (fun σ2 H2 => H2 = H ∧ σ2 = σ) h1 ?_
  rintro σ2 H2 ⟨rfl, rfl⟩
  exact h2
theorem packAll_app (ys : List PyData) : ∀ xs : List PyData, packAll (xs ++ ys) = packAll xs ++ packAll ys
  | [] => by rw [packAll]; rfl
  | x :: xs => by rw [List.cons_append, packAll, packAll, packAll_app ys xs, List.append_assoc]
theorem depth_at : ∀ {ds : List PyData} {i : Nat} {d : PyData}, ds[i]? = some d → d.depth ≤ PyData.depthAll ds
  | [], _, _, h => by cases h
  | e :: ds, 0, d, h => by
    cases h
    exact Nat.le_max_left _ _
  | e :: ds, i + 1, d, h => Nat.le_trans (depth_at (ds := ds) (i := i) h) (Nat.le_max_right _ _)
--CUT--
def sp__law_integer (K : PySem.W.Frag) : Sp := fun vs H Q _ => ∃ (a : Addr) (n : Int), vs = [.ref a] ∧ H a = some (.lst [.int n]) ∧ ∀ H' i m, -1000000000000000000 ≤ i → i ≤ 1000000000000000000 → Xk.But a H H' → H' a = some (.lst [.int m]) → Q (.int i) H'
theorem ok__law_integer (T : Txt K mg) : FnOk P w K mg base CX0 2 T.f__law_integer T.d__law_integer ["box"] (sp__law_integer K) := by
  refine T.F__law_integer.ok sc__law_integer (fun vs H Q E h => ?_) (fun cdv A outer s H vs Q E hr h => ?_)
  · obtain ⟨a, n, rfl, _⟩ := h
    rfl
  obtain ⟨a, n, rfl, ha, q⟩ := h
  refine ⟨_, (pss_cons (ps_set (i := 1) sc__law_integer.nd rfl (Or.inl rfl) (pe_call (ok__law_take T) (hr.mono (by decide)) (by rfl) T.g__law_take T.F__law_take.kp T.b__law_take .nil pass0 (pa_cons (pv 0) (pa_cons (pe_int) pa_nil))))
      (pss_cons (ps_set (i := 2) sc__law_integer.nd rfl (Or.inl rfl) (pe_ix (Xk.k_ixL (K := K) (by rfl)) (pe_lst (pa_cons (pe_int) (pa_cons (pe_int) (pa_cons (pe_op op_add (pe_int) (pe_call (ok__law_take T) (hr.mono (by decide)) (by rfl) T.g__law_take T.F__law_take.kp T.b__law_take .nil pass0 (pa_cons (pv 0) (pa_cons (pe_int) pa_nil)))) (pa_cons (pe_call (ok__law_take T) (hr.mono (by decide)) (by rfl) T.g__law_take T.F__law_take.kp T.b__law_take .nil pass0 (pa_cons (pv 0) (pa_cons (pe_int) pa_nil))) (pa_cons (pe_call (ok__law_take T) (hr.mono (by decide)) (by rfl) T.g__law_take T.F__law_take.kp T.b__law_take .nil pass0 (pa_cons (pv 0) (pa_cons (pe_op op_add (pe_op op_pow (pe_int) (pe_int)) (pe_int)) pa_nil))) (pa_cons (pe_op op_pow (pe_int) (pe_int)) pa_nil))))))) (pv 1) (fun _ _ => rfl)))
      (Evl.pss_cut (ps_if (pt_cmpR op_eq (pe_call (ok__law_take T) (hr.mono (by decide)) (by rfl) T.g__law_take T.F__law_take.kp T.b__law_take .nil pass0 (pa_cons (pv 0) (pa_cons (pe_int) pa_nil))) (pe_int) (nomark _)) (pss_one (ps_ret (pe_un un_neg (pv 2)))) pss_nil)
      (pss_one (ps_ret (pv 2)))))), ?_⟩
  wtm_at "x0"
  wtm_at "xs"
  refine draw ha (by decide) fun j m1 H1 hj b1 h1 => ?_
  wtm_at "xs"
  refine draw h1 (by decide) fun j2 m2 H2 hj2 b2 h2 => ?_
  wtm_at "xs"
  refine draw h2 (by decide) fun j3 m3 H3 hj3 b3 h3 => ?_
  wtm_at "xs"
  refine draw h3 (by decide) fun j4 m4 H4 hj4 b4 h4 => ?_
  wtm_at "xs"
  intro p H5 hp5 s5 h5
  have e18 : (10 : Int) ^ Int.toNat 18 = 1000000000000000000 := by decide
  rw [e18] at hj4
  obtain ⟨i, hi, hi1, hi2⟩ : ∃ i : Int, [V.int 0, V.int 1, V.int (127 + (j2 : Int)), V.int (j3 : Int), V.int (j4 : Int), V.int (10 ^ Int.toNat 18)][j]? = some (.int i) ∧ 0 ≤ i ∧ i ≤ 1000000000000000000 := by
    rcases (show j = 0 ∨ j = 1 ∨ j = 2 ∨ j = 3 ∨ j = 4 ∨ j = 5 by omega) with rfl | rfl | rfl | rfl | rfl | rfl
    all_goals
      refine ⟨_, rfl, ?_, ?_⟩
      all_goals first | omega | decide
  wtm_at "xs"
  have b5 : Xk.But a H H5 := Xk.but_trans (Xk.but_trans (Xk.but_trans (Xk.but_trans b1 b2) b3) b4) (Xk.but_same s5)
  have h6 := s5 _ _ h4
  refine Xk.x_cut (fun σ2 H2 => ∃ m, Xk.But a H H2 ∧ H2 a = some (.lst [.int m]) ∧ σ2 = [some (.ref a), some (.int j), some (.int i)]) ?_ ?_
  · wtm_at "xs"
    refine draw h6 (by decide) fun j5 m5 H6 hj5 b6 h7 => ?_
    rcases (show j5 = 0 ∨ j5 = 1 by omega) with rfl | rfl
    · wtm_at "xs"
      exact ⟨m5, Xk.but_trans b5 b6, h7, rfl⟩
    · wtm_at "xs"
      exact q H6 (-i) m5 (by omega) (by omega) (Xk.but_trans b5 b6) h7
  · rintro σ2 H2 ⟨m, b6, h7, rfl⟩
    wtm_at "xs"
    exact q H2 i m (by omega) (by omega) b6 h7
theorem intD_len {i : Int} (h1 : -1000000000000000000 ≤ i) (h2 : i ≤ 1000000000000000000) : (intD i).length ≤ 11 := by
  have big : (1000000000000000001 : Nat) < 128 ^ 10 := by decide
  by_cases c : 0 ≤ i
  · rw [intD_pos c, List.length_cons]
    have := sevens_len (k := 9) (n := i.toNat) (by omega)
    omega
  · rw [intD_neg c, List.length_cons]
    have := sevens_len (k := 9) (n := (-i - 1).toNat) (by omega)
    omega
theorem gdAll_snoc {d : PyData} (h : Gd d) : ∀ {ds : List PyData}, GdAll ds → GdAll (ds ++ [d])
  | [], _ => by
    rw [List.nil_append, GdAll]
    exact ⟨h, by rw [GdAll]; trivial⟩
  | e :: ds, h2 => by
    rw [GdAll] at h2
    rw [List.cons_append, GdAll]
    exact ⟨h2.1, gdAll_snoc h h2.2⟩
theorem str_len {z : Str} (h : z.length ≤ 1000) : (packD (.str z)).length ≤ 3 + z.length := by
  have h2 := sevens_len (k := 1) (n := z.length) (by omega)
  have h3 : z.cps.toList.length = z.length := rfl
  rw [packD, List.length_cons, List.length_append, List.length_map, h3]
  omega
theorem str_len1 {z : Str} (h : z.length < 128) : (packD (.str z)).length = 2 + z.length := by
  have h3 : z.cps.toList.length = z.length := rfl
  rw [packD, List.length_cons, List.length_append, List.length_map, h3, sevens_lt h, List.length_singleton]
  omega
theorem tup_len {ds : List PyData} (h : ds.length < 128) : (packD (.tuple ds)).length = 2 + (packAll ds).length := by
  rw [packD, List.length_cons, List.length_append, sevens_lt h, List.length_singleton]
  omega
def sp__law_data (K : PySem.W.Frag) (m : Nat) : Sp := fun vs H Q _ => ∃ k, k + 1 ≤ m ∧ ∃ (a : Addr) (z : Int), vs = [.ref a, .int (k : Int)] ∧ H a = some (.lst [.int z]) ∧ ∀ H' v d z', Xk.Pk K H' k v d → Gd d → (packD d).length ≤ 11 * 5 ^ k → Xk.But a H H' → H' a = some (.lst [.int z']) → Q v H'
theorem okr__law_data (T : Txt K mg) : ∀ m : Nat, FnOk P w K mg base CX0 (3 + m) T.f__law_data T.d__law_data ["box", "depth"] (sp__law_data K m)
  | 0 => by
    have no : ∀ vs H Q E, ¬ sp__law_data K 0 vs H Q E := fun vs H Q E h => by
      obtain ⟨k, e, _⟩ := h
      omega
    exact ⟨fun vs H Q E h => absurd h (no vs H Q E), fun A outer s H args us vs Q E _ _ _ _ h => absurd h (no vs H Q E)⟩
  | m + 1 => by
    have ih := okr__law_data T m
    refine T.F__law_data.ok sc__law_data (fun vs H Q E h => ?_) (fun cdv A outer s H vs Q E hr h => ?_)
    · obtain ⟨k, _, a, z, rfl, _⟩ := h
      rfl
    obtain ⟨k, hk, a, z, rfl, ha, q⟩ := h
    refine ⟨_, (pss_cons (ps_set (i := 2) sc__law_data.nd rfl (Or.inl rfl) (pe_call (ok__law_take T) (hr.mono (by first | exact Nat.le_refl _ | (simp only [Nat.add_eq]; omega) | omega | decide)) (by rfl) T.g__law_take T.F__law_take.kp T.b__law_take .nil pass0 (pa_cons (pv 0) (pa_cons (pe_int) pa_nil))))
      (Evl.pss_cut (ps_if (pt_cmpR op_eq (pv 2) (pe_int) (nomark _)) (pss_one (ps_ret (pe_non))) pss_nil)
      (Evl.pss_cut (ps_if (pt_cmpR op_lt (pv 2) (pe_int) (nomark _)) (pss_one (ps_ret (pe_call (ok__law_integer T) (hr.mono (by first | exact Nat.le_refl _ | (simp only [Nat.add_eq]; omega) | omega | decide)) (by rfl) T.g__law_integer T.F__law_integer.kp T.b__law_integer .nil pass0 (pa_cons (pv 0) pa_nil)))) pss_nil)
      (Evl.pss_cut (ps_if (PW.pt (pw_or (pt_cmpR op_eq (pv 2) (pe_int) (nomark _)) (pw_or1 (pt_cmpR op_eq (pv 1) (pe_int) (nomark _))))) (pss_one (ps_ret (pe_call (ok__law_text T) (hr.mono (by first | exact Nat.le_refl _ | (simp only [Nat.add_eq]; omega) | omega | decide)) (by rfl) T.g__law_text T.F__law_text.kp T.b__law_text .nil pass0 (pa_cons (pe_call (ok__law_take T) (hr.mono (by first | exact Nat.le_refl _ | (simp only [Nat.add_eq]; omega) | omega | decide)) (by rfl) T.g__law_take T.F__law_take.kp T.b__law_take .nil pass0 (pa_cons (pv 0) (pa_cons (pe_op op_pow (pe_int) (pe_int)) pa_nil))) (pa_cons (pe_call (ok__law_take T) (hr.mono (by first | exact Nat.le_refl _ | (simp only [Nat.add_eq]; omega) | omega | decide)) (by rfl) T.g__law_take T.F__law_take.kp T.b__law_take .nil pass0 (pa_cons (pv 0) (pa_cons (pe_int) pa_nil))) pa_nil))))) pss_nil)
      (pss_cons (ps_set (i := 3) sc__law_data.nd rfl (Or.inl rfl) (pe_lst pa_nil))
      (pss_cons (ps_for PassesOwn.never rfl (pi_range1 (by rfl) T.m_range (pa_cons (pe_call (ok__law_take T) (hr.mono (by first | exact Nat.le_refl _ | (simp only [Nat.add_eq]; omega) | omega | decide)) (by rfl) T.g__law_take T.F__law_take.kp T.b__law_take .nil pass0 (pa_cons (pv 0) (pa_cons (pe_int) pa_nil))) pa_nil)) (pg_name (i := 4) sc__law_data.nd rfl (Or.inl rfl)) (pss_one (ps_expr (pe_bm PySem.F.plainAttrs_list PySem.F.slot_list_append PySem.F.type_list_append mt_append (pv 3) (pa_cons (pe_call ih (hr.mono (by first | exact Nat.le_refl _ | (simp only [Nat.add_eq]; omega) | omega | decide)) (by rfl) T.g__law_data T.F__law_data.kp T.b__law_data .nil pass0 (pa_cons (pv 0) (pa_cons (pe_op op_sub (pv 1) (pe_int)) pa_nil))) pa_nil)))))
      (pss_one (ps_ret (pe_callTy (Xk.k_tuple (K := K) (by rfl)) (by rfl) T.m_tuple (by decide +kernel) (pa_cons (pv 3) pa_nil)))))))))), ?_⟩
    wtm_at "x0"
    wtm_at "xs"
    refine draw ha (by decide) fun j m1 H1 hj b1 h1 => ?_
    wtm_at "xs"
    have h5 : 1 ≤ 5 ^ k := Nat.one_le_pow _ _ (by decide)
    rcases (show j = 0 ∨ j = 1 ∨ j = 2 ∨ (j = 3 ∨ (4 ≤ j ∧ j < 7)) by omega) with rfl | hj2
    · refine Xk.x_cut (fun _ _ => False) ?_ (fun _ _ h => h.elim)
      wtm_at "xs"
      exact q H1 .non .none m1 Xk.pk_non (by rw [Gd]; trivial) (by show 1 ≤ _; omega) b1 h1
    have hn0 : ¬ (V.int (j : Int) = V.int 0) := fun z => by
      injection z with z
      omega
    refine fall ?_ ?_
    · wtm_at "xs"
      exact ⟨rfl, rfl⟩
    by_cases hj3 : j < 3
    · refine Xk.x_cut (fun _ _ => False) ?_ (fun _ _ h => h.elim)
      wtm_at "xs"
      refine ⟨a, m1, rfl, h1, fun H2 i m2 hi1 hi2 b2 h2 => ?_⟩
      wtm_at "xs"
      refine q H2 _ (.int i) m2 Xk.pk_int (by rw [Gd]; exact ⟨hi1, hi2⟩) ?_ (Xk.but_trans b1 b2) h2
      have := intD_len hi1 hi2
      rw [packD]
      omega
    refine fall ?_ ?_
    · wtm_at "xs"
      exact ⟨rfl, rfl⟩
    by_cases hjk : j = 3 ∨ k = 0
    · refine Xk.x_cut (fun _ _ => False) ?_ (fun _ _ h => h.elim)
      rcases (show j = 3 ∨ (j ≠ 3 ∧ k = 0) by omega) with rfl | ⟨hj33, rfl⟩
      · wtm_at "xs"
        refine draw h1 (by decide) fun j3 m3 H3 hj3 b3 h3 => ?_
        wtm_at "xs"
        refine draw h3 (by decide) fun j4 m4 H4 hj4 b4 h4 => ?_
        wtm_at "xs"
        refine ⟨_, _, rfl, by omega, by omega, by omega, fun z hz hl => ?_⟩
        wtm_at "xs"
        refine q H4 _ (.str z) m4 (Xk.pk_str (Xk.lay_str (okC_tx hz))) (by rw [Gd]; exact ⟨by omega, hz⟩) ?_ (Xk.but_trans (Xk.but_trans b1 b3) b4) h4
        have h6 := str_len1 (z := z) (by omega)
        rw [h6]
        omega
      · have hn3 : ¬ (V.int (j : Int) = V.int 3) := fun z => by
          injection z with z
          omega
        wtm_at "xs"
        refine draw h1 (by decide) fun j3 m3 H3 hj3 b3 h3 => ?_
        wtm_at "xs"
        refine draw h3 (by decide) fun j4 m4 H4 hj4 b4 h4 => ?_
        wtm_at "xs"
        refine ⟨_, _, rfl, by omega, by omega, by omega, fun z hz hl => ?_⟩
        wtm_at "xs"
        refine q H4 _ (.str z) m4 (Xk.pk_str (Xk.lay_str (okC_tx hz))) (by rw [Gd]; exact ⟨by omega, hz⟩) ?_ (Xk.but_trans (Xk.but_trans b1 b3) b4) h4
        have h6 := str_len1 (z := z) (by omega)
        rw [h6]
        omega
    · have hn3 : ¬ (V.int (j : Int) = V.int 3) := fun z => by
        injection z with z
        omega
      have hk0 : ¬ (V.int (k : Int) = V.int 0) := fun z => by
        injection z with z
        omega
      refine fall ?_ ?_
      · wtm_at "xs"
        exact ⟨rfl, rfl⟩
      wtm_at "xs"
      intro p H2 hp s2 e2
      wtm_at "xs"
      refine draw (s2 _ _ h1) (by decide) fun j5 m5 H3 hj5 b3 h3 => ?_
      wtm_at "xs"
      obtain ⟨k2, rfl⟩ : ∃ k2, k = k2 + 1 := ⟨k - 1, by omega⟩
      have hap : a ≠ p := ne_of_none h1 hp.is
      refine Xk.x_range (fun i σ' H' => ∃ y4 vs ds m', σ' = [some (.ref a), some (.int ((k2 + 1 : Nat) : Int)), some (.int (j : Int)), some (.ref p), y4] ∧ Xk.But a H1 H' ∧ H' a = some (.lst [.int m']) ∧ H' p = some (.lst vs) ∧ vs.length = i ∧ Xk.PkAll K H' k2 vs ds ∧ GdAll ds ∧ (packAll ds).length ≤ i * (11 * 5 ^ k2)) ⟨by omega, by omega⟩ ?_ ?_ ?_
      · exact ⟨_, [], [], m5, rfl, Xk.but_trans (Xk.but_same s2) b3, h3, b3 _ _ hap.symm e2, rfl, Xk.pk_nil, by rw [GdAll]; trivial, Nat.zero_le _⟩
      · rintro i σ' H' hi ⟨y4, vs, ds, m', rfl, hb, hva, hvp, hvl, hpk, hgd, hln⟩
        have hz2 : vs.length < 100000 := by omega
        wtm_at "xs"
        refine ⟨k2, by omega, a, m', by rw [show ((k2 + 1 : Nat) : Int) - 1 = (k2 : Int) by omega], hva, fun H4 v d m4 hv hg hl b4 h4 => ?_⟩
        have e4 := b4 _ _ hap.symm hvp
        wtm_at "xs"
        refine ⟨_, vs ++ [v], ds ++ [d], m4, rfl, Xk.but_new (Xk.but_trans hb b4) hp, (upd_ne hap).trans h4, upd_same, by rw [List.length_append, hvl]; rfl, Xk.pk_snoc ((hpk.st (Xk.tt_butL (K := K) hva b4)).st (Xk.tt_mutL (K := K) e4)) (hv.st (Xk.tt_mutL (K := K) e4)), gdAll_snoc hg hgd, ?_⟩
        rw [packAll_snoc, List.length_append, Nat.succ_mul]
        omega
      · rintro σ' H' ⟨y4, vs, ds, m', rfl, hb, hva, hvp, hvl, hpk, hgd, hln⟩
        wtm_at "xs"
        intro p6 H6 hp6 s6 e6
        wtm_at "xs"
        have hdl := hpk.len
        rw [Int.toNat_natCast] at hvl hln
        refine q H6 (.ref p6) (.tuple ds) m' (Xk.pk_tup (Xk.st_of e6) (hpk.same s6)) (by rw [Gd]; exact ⟨by omega, hgd⟩) ?_ (Xk.but_trans b1 (Xk.but_trans hb (Xk.but_same s6))) (s6 _ _ hva)
        rw [tup_len (by omega), Nat.pow_succ]
        have h7 : 1 ≤ 5 ^ k2 := Nat.one_le_pow _ _ (by decide)
        have h8 : j5 * (11 * 5 ^ k2) ≤ 4 * (11 * 5 ^ k2) := Nat.mul_le_mul_right _ (by omega)
        omega
theorem ok__law_data (T : Txt K mg) : FnOk P w K mg base CX0 7 T.f__law_data T.d__law_data ["box", "depth"] (sp__law_data K 4) := okr__law_data T 4
theorem rep_pk {K : PySem.W.Frag} {H : Hp} (i : Int) : ∀ n : Nat, Xk.PkAll K H 0 (List.replicate n (V.int i)) (List.replicate n (PyData.int i))
  | 0 => Xk.pk_nil
  | n + 1 => Xk.pk_cons Xk.pk_int (rep_pk i n)
theorem rep_gd {i : Int} (h1 : -1000000000000000000 ≤ i) (h2 : i ≤ 1000000000000000000) : ∀ n : Nat, GdAll (List.replicate n (PyData.int i))
  | 0 => by
    rw [List.replicate, GdAll]
    trivial
  | n + 1 => by
    rw [List.replicate, GdAll, Gd]
    exact ⟨⟨h1, h2⟩, rep_gd h1 h2 n⟩
theorem rep_len {i : Int} (h1 : -1000000000000000000 ≤ i) (h2 : i ≤ 1000000000000000000) : ∀ n : Nat, (packAll (List.replicate n (PyData.int i))).length ≤ n * 11
  | 0 => by
    rw [List.replicate, packAll]
    exact Nat.le_refl _
  | n + 1 => by
    have h3 := rep_len h1 h2 n
    have h4 := intD_len h1 h2
    rw [List.replicate, packAll, packD, List.length_append, Nat.succ_mul]
    omega
theorem reps_list (x : Array Nat) : ∀ (n : Nat) (acc : Array Nat), ((List.replicate n x).foldl (· ++ ·) acc).toList = acc.toList ++ (List.replicate n x.toList).flatten
  | 0, acc => by simp
  | n + 1, acc => by
    rw [List.replicate_succ, List.foldl_cons, reps_list x n, Array.toList_append, List.replicate_succ, List.flatten_cons, List.append_assoc]
theorem repS_all {p : Nat → Bool} {z : Str} {n : Int} (h : Xk.AllC p z = true) : Xk.AllC p (Xk.repS z n) = true := by
  have hz : z.cps.toList.all p = true := by
    have hq := h
    unfold Xk.AllC at hq
    simpa using hq
  unfold Xk.repS
  split
  · exact nil_all p
  split
  · exact h
  · unfold Xk.AllC
    have h2 : ((List.replicate n.toNat z.cps).foldl (· ++ ·) #[]).toList.all p = true := by
      rw [reps_list, List.all_eq_true]
      intro c hc
      rw [List.mem_append, List.mem_flatten] at hc
      rcases hc with hc | ⟨l, hl, hc⟩
      · cases hc
      · rw [List.mem_replicate] at hl
        rw [hl.2] at hc
        exact List.all_eq_true.mp hz c hc
    simpa using h2
theorem repS_le {z : Str} {n : Int} : (Xk.repS z n).length ≤ n.toNat * z.length := by
  by_cases h : 2 ≤ n ∧ 1 ≤ z.length
  · rw [Xk.repS_len h.1 h.2]
    exact Nat.le_refl _
  unfold Xk.repS
  split
  · exact Nat.zero_le _
  split
  · have : 1 ≤ n.toNat := by omega
    exact Nat.le_trans (by omega) (Nat.mul_le_mul_right z.length this)
  · rename_i h1 h2
    rw [Bool.or_eq_true, beq_iff_eq, beq_iff_eq] at h2
    omega
def sp__law_drawn (K : PySem.W.Frag) : Sp := fun vs H Q _ => ∃ row : Int, vs = [.int row] ∧ ∀ H' v d, Same H H' → Xk.Pk K H' 41 v d → Gd d → d.depth ≤ 40 → (packD d).length ≤ 40000 → Q v H'
theorem ok__law_drawn (T : Txt K mg) : FnOk P w K mg base CX0 8 T.f__law_drawn T.d__law_drawn ["row"] (sp__law_drawn K) := by
  refine T.F__law_drawn.ok sc__law_drawn (fun vs H Q E h => ?_) (fun cdv A outer s H vs Q E hr h => ?_)
  · obtain ⟨row, rfl, _⟩ := h
    rfl
  obtain ⟨row, rfl, q⟩ := h
  refine ⟨_, (pss_cons (ps_set (i := 1) sc__law_drawn.nd rfl (Or.inl rfl) (pe_lst (pa_cons (pv 0) pa_nil)))
      (pss_cons (ps_set (i := 2) sc__law_drawn.nd rfl (Or.inl rfl) (pe_call (ok__law_take T) (hr.mono (by decide)) (by rfl) T.g__law_take T.F__law_take.kp T.b__law_take .nil pass0 (pa_cons (pv 1) (pa_cons (pe_int) pa_nil))))
      (Evl.pss_cut (ps_if (pt_cmpR op_eq (pv 2) (pe_int) (nomark _)) (pss_cons (ps_set (i := 3) sc__law_drawn.nd rfl (Or.inl rfl) (pe_call (ok__law_integer T) (hr.mono (by decide)) (by rfl) T.g__law_integer T.F__law_integer.kp T.b__law_integer .nil pass0 (pa_cons (pv 1) pa_nil)))
      (pss_cons (ps_for PassesOwn.never rfl (pi_range1 (by rfl) T.m_range (pa_cons (pe_call (ok__law_take T) (hr.mono (by decide)) (by rfl) T.g__law_take T.F__law_take.kp T.b__law_take .nil pass0 (pa_cons (pv 1) (pa_cons (pe_int) pa_nil))) pa_nil)) (pg_name (i := 4) sc__law_drawn.nd rfl (Or.inl rfl)) (pss_one (ps_set (i := 3) sc__law_drawn.nd rfl (Or.inl rfl) (pe_tup (pa_cons (pv 3) pa_nil)))))
      (pss_one (ps_ret (pv 3))))) pss_nil)
      (Evl.pss_cut (ps_if (pt_cmpR op_eq (pv 2) (pe_int) (nomark _)) (pss_one (ps_ret (pe_callTy (Xk.k_tuple (K := K) (by rfl)) (by rfl) T.m_tuple (by decide +kernel) (pa_cons (pe_op op_rep (pe_lst (pa_cons (pe_call (ok__law_take T) (hr.mono (by decide)) (by rfl) T.g__law_take T.F__law_take.kp T.b__law_take .nil pass0 (pa_cons (pv 1) (pa_cons (pe_int) pa_nil))) pa_nil)) (pe_call (ok__law_take T) (hr.mono (by decide)) (by rfl) T.g__law_take T.F__law_take.kp T.b__law_take .nil pass0 (pa_cons (pv 1) (pa_cons (pe_int) pa_nil)))) pa_nil)))) pss_nil)
      (Evl.pss_cut (ps_if (pt_cmpR op_eq (pv 2) (pe_int) (nomark _)) (pss_one (ps_ret (pe_op Xk.op_nRepS (pe_call (ok__law_text T) (hr.mono (by decide)) (by rfl) T.g__law_text T.F__law_text.kp T.b__law_text .nil pass0 (pa_cons (pe_call (ok__law_take T) (hr.mono (by decide)) (by rfl) T.g__law_take T.F__law_take.kp T.b__law_take .nil pass0 (pa_cons (pv 1) (pa_cons (pe_op op_pow (pe_int) (pe_int)) pa_nil))) (pa_cons (pe_int) pa_nil))) (pe_call (ok__law_take T) (hr.mono (by decide)) (by rfl) T.g__law_take T.F__law_take.kp T.b__law_take .nil pass0 (pa_cons (pv 1) (pa_cons (pe_int) pa_nil)))))) pss_nil)
      (pss_one (ps_ret (pe_tup (pa_cons (pe_call (ok__law_data T) (hr.mono (by decide)) (by rfl) T.g__law_data T.F__law_data.kp T.b__law_data .nil pass0 (pa_cons (pv 1) (pa_cons (pe_int) pa_nil))) (pa_cons (pe_call (ok__law_data T) (hr.mono (by decide)) (by rfl) T.g__law_data T.F__law_data.kp T.b__law_data .nil pass0 (pa_cons (pv 1) (pa_cons (pe_int) pa_nil))) (pa_cons (pe_call (ok__law_data T) (hr.mono (by decide)) (by rfl) T.g__law_data T.F__law_data.kp T.b__law_data .nil pass0 (pa_cons (pv 1) (pa_cons (pe_int) pa_nil))) pa_nil))))))))))), ?_⟩
  wtm_at "x0"
  wtm_at "xs"
  intro p H1 hp s1 h1
  wtm_at "xs"
  refine draw h1 (by decide) fun j m1 H2 hj b2 h2 => ?_
  wtm_at "xs"
  have sH2 : Same H H2 := Xk.same_but b2 hp s1
  rcases (show j = 0 ∨ j ≠ 0 by omega) with rfl | hj0
  · refine Xk.x_cut (fun _ _ => False) ?_ (fun _ _ h => h.elim)
    wtm_at "xs"
    refine ⟨p, m1, rfl, h2, fun H3 i m3 hi1 hi2 b3 h3 => ?_⟩
    wtm_at "xs"
    refine draw h3 (by decide) fun j4 m4 H4 hj4 b4 h4 => ?_
    wtm_at "xs"
    refine Xk.x_range (fun i σ' H' => ∃ v y4 d, σ' = [some (.int row), some (.ref p), some (.int ((0 : Nat) : Int)), some v, y4] ∧ Same H4 H' ∧ Xk.Pk K H' i v d ∧ Gd d ∧ (packD d).length ≤ 11 + 2 * i) ⟨by omega, by omega⟩ ?_ ?_ ?_
    · exact ⟨_, _, .int i, rfl, Same.refl _, Xk.pk_int, by rw [Gd]; exact ⟨hi1, hi2⟩, by rw [packD]; exact intD_len hi1 hi2⟩
    · rintro i σ' H' hi ⟨v, y4, d, rfl, s5, hv, hg, hl⟩
      wtm_at "xs"
      intro p6 H6 hp6 s6 e6
      wtm_at "xs"
      refine ⟨.ref p6, _, .tuple [d], rfl, s5.trans s6, Xk.pk_tup1 (Xk.st_of e6) (hv.same s6), ?_, ?_⟩
      · rw [Gd, GdAll, GdAll]
        exact ⟨by show 1 ≤ 1000; decide, hg, trivial⟩
      · rw [tup_len (by show 1 < 128; decide), packAll, packAll, List.append_nil]
        omega
    · rintro σ' H' ⟨v, y4, d, rfl, s5, hv, hg, hl⟩
      wtm_at "xs"
      rw [Int.toNat_natCast] at hv hl
      exact q H' v d ((Xk.same_but b4 hp (Xk.same_but b3 hp sH2)).trans s5) (hv.mono (by omega)) hg (Nat.le_trans hv.2.2 (by omega)) (by omega)
  have hn0 : ¬ (V.int (j : Int) = V.int 0) := fun z => by
    injection z with z
    omega
  refine fall ?_ ?_
  · wtm_at "xs"
    exact ⟨rfl, rfl⟩
  rcases (show j = 1 ∨ j ≠ 1 by omega) with rfl | hj1
  · refine Xk.x_cut (fun _ _ => False) ?_ (fun _ _ h => h.elim)
    wtm_at "xs"
    refine draw h2 (by decide) fun j3 m3 H3 hj3 b3 h3 => ?_
    wtm_at "xs"
    intro p4 H4 hp4 s4 e4
    wtm_at "xs"
    refine draw (s4 _ _ h3) (by decide) fun j5 m5 H5 hj5 b5 h5 => ?_
    have hp45 : p4 ≠ p := Ne.symm (ne_of_none h3 hp4.is)
    have e5 := b5 _ _ hp45 e4
    wtm_at "xs"
    refine ⟨p4, _, _, rfl, rfl, e5, by omega, by omega, Xk.size_ok (by rw [Int.toNat_natCast]; show 1 * j5 ≤ 100000; omega), fun p7 hp7 => ?_⟩
    rw [Int.toNat_natCast, List.flatten_replicate_singleton]
    have hf7 : Xk.Fr p7 H5 := ⟨hp7⟩
    have s7 : Same H5 (upd H5 p7 (.lst (List.replicate j5 (V.int (j3 : Int))))) := Xk.same_new hp7
    have e7 : upd H5 p7 (.lst (List.replicate j5 (V.int (j3 : Int)))) p7 = some (.lst (List.replicate j5 (V.int (j3 : Int)))) := upd_same
    generalize upd H5 p7 (.lst (List.replicate j5 (V.int (j3 : Int)))) = H7 at s7 e7 ⊢
    wtm_at "xs"
    intro p8 H8 hp8 s8 e8
    wtm_at "xs"
    have i1 : (-1000000000000000000 : Int) ≤ (j3 : Int) := by omega
    have i2 : (j3 : Int) ≤ 1000000000000000000 := by omega
    have k8 : Xk.Pk K H8 1 (.ref p8) (.tuple (List.replicate j5 (.int (j3 : Int)))) := Xk.pk_tup (Xk.st_of e8) (rep_pk (j3 : Int) j5)
    refine q H8 (.ref p8) (.tuple (List.replicate j5 (.int (j3 : Int)))) ?_ (k8.mono (by decide)) ?_ (Nat.le_trans k8.2.2 (by decide)) ?_
    · exact (((Xk.same_but b5 hp ((Xk.same_but b3 hp sH2).trans s4)).trans s7).trans s8)
    · rw [Gd, List.length_replicate]
      exact ⟨by omega, rep_gd i1 i2 j5⟩
    · have h7 := rep_len i1 i2 j5
      have h8 := sevens_len (k := 1) (n := j5) (by omega)
      rw [packD, List.length_cons, List.length_append, List.length_replicate]
      omega
  have hn1 : ¬ (V.int (j : Int) = V.int 1) := fun z => by
    injection z with z
    omega
  refine fall ?_ ?_
  · wtm_at "xs"
    exact ⟨rfl, rfl⟩
  rcases (show j = 2 ∨ j ≠ 2 by omega) with rfl | hj22
  · refine Xk.x_cut (fun _ _ => False) ?_ (fun _ _ h => h.elim)
    wtm_at "xs"
    refine draw h2 (by decide) fun j3 m3 H3 hj3 b3 h3 => ?_
    wtm_at "xs"
    refine ⟨_, _, rfl, by omega, by omega, by omega, fun z hz hl => ?_⟩
    wtm_at "xs"
    refine draw h3 (by decide) fun j5 m5 H5 hj5 b5 h5 => ?_
    wtm_at "xs"
    refine Xk.x_nRepS ⟨by omega, by omega⟩ (by omega) ?_
    have h6 := repS_le (z := z) (n := (j5 : Int))
    rw [Int.toNat_natCast] at h6
    have h7 : j5 * z.length ≤ 19 * 20 := Nat.mul_le_mul (by omega) (by omega)
    have h8 := repS_all (n := (j5 : Int)) hz
    have h9 := str_len (z := Xk.repS z (j5 : Int)) (by omega)
    exact q H5 _ (.str (Xk.repS z (j5 : Int))) (Xk.same_but b5 hp (Xk.same_but b3 hp sH2)) (Xk.pk_str (Xk.lay_str (okC_tx h8))) (by rw [Gd]; exact ⟨by omega, h8⟩) (Nat.zero_le _) (by omega)
  have hn2 : ¬ (V.int (j : Int) = V.int 2) := fun z => by
    injection z with z
    omega
  refine fall ?_ ?_
  · wtm_at "xs"
    exact ⟨rfl, rfl⟩
  wtm_at "xs"
  refine ⟨3, by decide, p, m1, rfl, h2, fun H3 v1 d1 m3 hv1 hg1 hl1 b3 h3 => ?_⟩
  wtm_at "xs"
  refine ⟨3, by decide, p, m3, rfl, h3, fun H4 v2 d2 m4 hv2 hg2 hl2 b4 h4 => ?_⟩
  wtm_at "xs"
  refine ⟨2, by decide, p, m4, rfl, h4, fun H5 v3 d3 m5 hv3 hg3 hl3 b5 h5 => ?_⟩
  wtm_at "xs"
  intro p6 H6 hp6 s6 e6
  have k1 := (hv1.st (Xk.tt_butL (K := K) h3 b4)).st (Xk.tt_butL (K := K) h4 b5)
  have k2 := hv2.st (Xk.tt_butL (K := K) h4 b5)
  have k3 : Xk.Pk K H6 4 (.ref p6) (.tuple [d1, d2, d3]) := Xk.pk_tup3 (Xk.st_of e6) (k1.same s6) (k2.same s6) ((hv3.mono (by decide)).same s6)
  refine q H6 (.ref p6) (.tuple [d1, d2, d3]) ((Xk.same_but b5 hp (Xk.same_but b4 hp (Xk.same_but b3 hp sH2))).trans s6) (k3.mono (by decide)) ?_ (Nat.le_trans k3.2.2 (by decide)) ?_
  · rw [Gd, GdAll, GdAll, GdAll, GdAll]
    exact ⟨by show 3 ≤ 1000; decide, hg1, hg2, hg3, trivial⟩
  · have l3 : (11 * 5 ^ 3 : Nat) = 1375 := by decide
    have l2 : (11 * 5 ^ 2 : Nat) = 275 := by decide
    rw [l3] at hl1 hl2
    rw [l2] at hl3
    rw [tup_len (by show 3 < 128; decide), packAll, packAll, packAll, packAll, List.append_nil, List.length_append, List.length_append]
    omega
--CUT--
theorem ix_last {α : Type} (ys : List α) (x : α) : ixN (ys ++ [x]).length (-1) = some ys.length := by
  unfold ixN
  rw [if_neg (by decide), List.length_append, List.length_singleton]
  rw [if_pos (by omega)]
  congr 1
  omega
theorem at_last {α : Type} (ys : List α) (x : α) : atI (ys ++ [x]) (-1) = some x := by
  unfold atI
  rw [ix_last]
  show (ys ++ [x])[ys.length]? = some x
  rw [List.getElem?_append_right (Nat.le_refl _), Nat.sub_self]
  rfl
def sp__law_sevens (K : PySem.W.Frag) : Sp := fun vs H Q _ => ∃ n : Nat, vs = [.int n] ∧ n < 128 ^ 10 ∧ ∀ H' p, Xk.Fr p H → Same H H' → H' p = some (.lst ((sevens n).map V.int)) → Q (.ref p) H'
theorem ok__law_sevens (T : Txt K mg) : FnOk P w K mg base CX0 1 T.f__law_sevens T.d__law_sevens ["number"] (sp__law_sevens K) := by
  refine T.F__law_sevens.ok sc__law_sevens (fun vs H Q E h => ?_) (fun cdv A outer s H vs Q E hr h => ?_)
  · obtain ⟨n, rfl, _⟩ := h
    rfl
  obtain ⟨n, rfl, hn, q⟩ := h
  refine ⟨_, (pss_cons (ps_set (i := 1) sc__law_sevens.nd rfl (Or.inl rfl) (pe_lst (pa_cons (pe_op op_mod (pv 0) (pe_int)) pa_nil)))
      (pss_cons (ps_set (i := 0) sc__law_sevens.nd rfl (Or.inl rfl) (pe_op op_fdiv (pv 0) (pe_int)))
      (Evl.pss_cut (ps_while PassesOwn.never (pt_cmpR op_gt (pv 0) (pe_int) (nomark _)) (pss_cons (ps_asg (pe_op op_add (pe_ix (Xk.k_ixL (K := K) (by rfl)) (pv 1) (pe_un un_neg (pe_int)) (fun _ _ => rfl)) (pe_int)) (pg_sub (pv 1) (pe_un un_neg (pe_int)) set_list))
      (pss_cons (ps_expr (pe_bm PySem.F.plainAttrs_list PySem.F.slot_list_append PySem.F.type_list_append mt_append (pv 1) (pa_cons (pe_op op_mod (pv 0) (pe_int)) pa_nil)))
      (pss_one (ps_set (i := 0) sc__law_sevens.nd rfl (Or.inl rfl) (pe_op op_fdiv (pv 0) (pe_int)))))))
      (pss_one (ps_ret (pv 1)))))), ?_⟩
  have hsl := sevens_len hn
  wtm_at "x0"
  wtm_at "xs"
  intro p H1 hp s1 h1
  wtm_at "xs"
  refine Xk.x_while1 (fun m σ' H' => ∃ (n' : Nat) (ys : List Int) (l : Nat), σ' = [some (.int ((n' / 128 : Nat) : Int)), some (.ref p)] ∧ Same H H' ∧ H' p = some (.lst ((ys ++ [((n' % 128 : Nat) : Int)]).map V.int)) ∧ ys ++ sevens n' = sevens n ∧ n' = m) n ⟨n, [], 0, rfl, by wtm_at "sm", h1, rfl, rfl⟩ ?_
  rintro m σ' H' ⟨n', ys, l, rfl, s2, h2, e2, rfl⟩
  have hyl : ys.length ≤ 10 := by
    have z := congrArg List.length e2
    rw [List.length_append] at z
    omega
  wtm_at "xs"
  refine Xk.x_wd (fun c => ?_) (fun c => ?_)
  · refine Xk.x_wT ?_
    have c128 : ¬ n' < 128 := by omega
    rw [List.map_append] at h2
    wtm_at "xs"
    refine Xk.x_ixL (Xk.sq_of h2) (at_last _ _) ?_
    wtm_at "xs"
    refine Xk.x_setL h2 (ix_last _ _) ?_
    rw [List.set_append_right _ _ (Nat.le_refl _), Nat.sub_self]
    wtm_at "xs"
    refine ⟨n' / 128, by omega, n' / 128, ys ++ [((n' % 128 : Nat) : Int) + 128], 0, by rfl, Xk.same_mut (Xk.same_mut s2 hp) hp, ?_, ?_, rfl⟩
    · rw [upd_same, List.map_append, List.map_append]
      rfl
    · rw [List.append_assoc, ← e2, sevens_ge c128]
      rfl
  · refine Xk.x_wF ?_
    wtm_at "xs"
    refine q H' p hp s2 ?_
    rw [h2, ← e2, sevens_lt (by omega), Nat.mod_eq_of_lt (by omega)]
def sp__law_pack (K : PySem.W.Frag) (m : Nat) : Sp := fun vs H Q _ => ∃ n, m = n + 1 ∧ ∃ (v : V) (d : PyData), vs = [v] ∧ Xk.Pk K H n v d ∧ Gd d ∧ (packD d).length ≤ 40000 ∧ ∀ H' p, Xk.Fr p H → Same H H' → H' p = some (.lst ((packD d).map V.int)) → Q (.ref p) H'
theorem okr__law_pack (T : Txt K mg) : ∀ m : Nat, FnOk P w K mg base CX0 (2 + m) T.f__law_pack T.d__law_pack ["data"] (sp__law_pack K m)
  | 0 => by
    have no : ∀ vs H Q E, ¬ sp__law_pack K 0 vs H Q E := fun vs H Q E h => by
      obtain ⟨n, e, _⟩ := h
      cases e
    exact ⟨fun vs H Q E h => absurd h (no vs H Q E), fun A outer s H args us vs Q E _ _ _ _ h => absurd h (no vs H Q E)⟩
  | m + 1 => by
    have ih := okr__law_pack T m
    refine T.F__law_pack.ok sc__law_pack (fun vs H Q E h => ?_) (fun cdv A outer s H vs Q E hr h => ?_)
    · obtain ⟨n, _, v, d, rfl, _⟩ := h
      rfl
    obtain ⟨n, en, v, d, rfl, hv, hg, hl, q⟩ := h
    obtain rfl : n = m := by omega
    refine ⟨_, (Evl.pss_cut (ps_if (pt_cmpR Xk.op_nIsN (pv 0) (pe_non) (nomark _)) (pss_one (ps_ret (pe_lst (pa_cons (pe_int) pa_nil)))) pss_nil)
      (Evl.pss_cut (ps_if (pt_val (pe_callB (Xk.k_isi (K := K) (by rfl)) (by rfl) T.m_isinstance (by decide +kernel) (pa_cons (pv 0) (pa_cons (pe_bltn (v := .ty "int") (u := .type "int") (by rfl) T.m_int (by decide +kernel) Xk.rel_ty) pa_nil)))) (Evl.pss_cut (ps_if (pt_cmpR op_ge (pv 0) (pe_int) (nomark _)) (pss_one (ps_ret (pe_op op_cat (pe_lst (pa_cons (pe_int) pa_nil)) (pe_call (ok__law_sevens T) (hr.mono (by first | exact Nat.le_refl _ | (simp only [Nat.add_eq]; omega) | omega | decide)) (by rfl) T.g__law_sevens T.F__law_sevens.kp T.b__law_sevens .nil pass0 (pa_cons (pv 0) pa_nil))))) pss_nil)
      (pss_one (ps_ret (pe_op op_cat (pe_lst (pa_cons (pe_int) pa_nil)) (pe_call (ok__law_sevens T) (hr.mono (by first | exact Nat.le_refl _ | (simp only [Nat.add_eq]; omega) | omega | decide)) (by rfl) T.g__law_sevens T.F__law_sevens.kp T.b__law_sevens .nil pass0 (pa_cons (pe_op op_sub (pe_un un_neg (pv 0)) (pe_int)) pa_nil)))))) pss_nil)
      (Evl.pss_cut (ps_if (pt_val (pe_callB (Xk.k_isi (K := K) (by rfl)) (by rfl) T.m_isinstance (by decide +kernel) (pa_cons (pv 0) (pa_cons (pe_bltn (v := .ty "str") (u := .type "str") (by rfl) T.m_str (by decide +kernel) Xk.rel_ty) pa_nil)))) (pss_one (ps_ret (pe_op op_cat (pe_op op_cat (pe_lst (pa_cons (pe_int) pa_nil)) (pe_call (ok__law_sevens T) (hr.mono (by first | exact Nat.le_refl _ | (simp only [Nat.add_eq]; omega) | omega | decide)) (by rfl) T.g__law_sevens T.F__law_sevens.kp T.b__law_sevens .nil pass0 (pa_cons (pe_callB (Xk.k_lenX (K := K) (by rfl)) (by rfl) T.m_len PySem.boot_len (pa_cons (pv 0) pa_nil)) pa_nil))) (pe_lc (own := [("sign", 3)]) (g := gName 3) (tt := tYes) rfl sc__law_pack.nd  (pi_str (pv 0)) (blkOk_by (N := N__law_pack) (sc := defScope s__law_pack) (own := [("sign", 3)]) (by decide +kernel)) (fun _ _ _ _ _ => pg_name (i := 3) sc__law_pack.nd rfl (Or.inl rfl)) (fun _ _ _ _ _ => pts_nil) (fun _ _ _ _ _ => (pe_callB Xk.k_ord (by rfl) T.m_ord (by decide +kernel) (pa_cons (pv 3) pa_nil))))))) pss_nil)
      (pss_cons (ps_set (i := 1) sc__law_pack.nd rfl (Or.inl rfl) (pe_op op_cat (pe_lst (pa_cons (pe_int) pa_nil)) (pe_call (ok__law_sevens T) (hr.mono (by first | exact Nat.le_refl _ | (simp only [Nat.add_eq]; omega) | omega | decide)) (by rfl) T.g__law_sevens T.F__law_sevens.kp T.b__law_sevens .nil pass0 (pa_cons (pe_callB (Xk.k_lenX (K := K) (by rfl)) (by rfl) T.m_len PySem.boot_len (pa_cons (pv 0) pa_nil)) pa_nil))))
      (pss_cons (ps_for PassesOwn.never rfl (pi_tup (pv 0)) (pg_name (i := 2) sc__law_pack.nd rfl (Or.inl rfl)) (pss_one (ps_set (i := 1) sc__law_pack.nd rfl (Or.inl rfl) (pe_op op_cat (pv 1) (pe_call ih (hr.mono (by first | exact Nat.le_refl _ | (simp only [Nat.add_eq]; omega) | omega | decide)) (by rfl) T.g__law_pack T.F__law_pack.kp T.b__law_pack .nil pass0 (pa_cons (pv 2) pa_nil))))))
      (pss_one (ps_ret (pv 1)))))))), ?_⟩
    have big : (1000000000000000001 : Nat) < 128 ^ 10 := by decide
    obtain ⟨h1, h2, h3⟩ := hv
    wtm_at "x0"
    cases d with
    | bool b => simp only [Gd] at hg
    | list ds => simp only [Gd] at hg
    | dict ds => simp only [Gd] at hg
    | none =>
      cases h1
      refine Xk.x_cut (fun _ _ => False) ?_ (fun _ _ h => h.elim)
      wtm_at "xs"
      intro p H1 hp s1 h1
      wtm_at "xs"
      exact q H1 p hp s1 h1
    | int i =>
      cases h1
      simp only [Gd] at hg
      simp only [packD] at hl q
      refine fall ?_ ?_
      · wtm_at "xs"
        exact ⟨rfl, rfl⟩
      refine Xk.x_cut (fun _ _ => False) ?_ (fun _ _ h => h.elim)
      wtm_at "xs"
      by_cases c : 0 ≤ i
      · refine Xk.x_cut (fun _ _ => False) ?_ (fun _ _ h => h.elim)
        wtm_at "xs"
        intro p H1 hp s1 e1
        wtm_at "xs"
        refine ⟨i.toNat, by rw [Int.toNat_of_nonneg c], by omega, fun H2 p2 hp2 s2 e2 => ?_⟩
        have hsl := sevens_len (k := 9) (n := i.toNat) (by omega)
        wtm_at "xs"
        refine Xk.x_cat (s2 _ _ e1) e2 (by simp only [List.length_map, List.length_cons, List.length_nil]; omega) fun p3 H3 hp3 s3 e3 => ?_
        wtm_at "xs"
        refine q H3 p3 (by wtm_at "free") (by wtm_at "sm") ?_
        rw [e3, intD_pos c]
        rfl
      · refine fall ?_ ?_
        · wtm_at "xs"
          exact ⟨rfl, rfl⟩
        wtm_at "xs"
        intro p H1 hp s1 e1
        wtm_at "xs"
        refine ⟨(-i - 1).toNat, by rw [Int.toNat_of_nonneg (by omega)], by omega, fun H2 p2 hp2 s2 e2 => ?_⟩
        have hsl := sevens_len (k := 9) (n := (-i - 1).toNat) (by omega)
        wtm_at "xs"
        refine Xk.x_cat (s2 _ _ e1) e2 (by simp only [List.length_map, List.length_cons, List.length_nil]; omega) fun p3 H3 hp3 s3 e3 => ?_
        wtm_at "xs"
        refine q H3 p3 (by wtm_at "free") (by wtm_at "sm") ?_
        rw [e3, intD_neg c]
        rfl
    | str z =>
      cases h1
      simp only [Gd] at hg
      simp only [packD] at hl q
      refine fall ?_ ?_
      · wtm_at "xs"
        exact ⟨rfl, rfl⟩
      refine fall ?_ ?_
      · wtm_at "xs"
        exact ⟨rfl, rfl⟩
      refine Xk.x_cut (fun _ _ => False) ?_ (fun _ _ h => h.elim)
      wtm_at "xs"
      intro p H1 hp s1 e1
      wtm_at "xs"
      refine Xk.x_lenXS (by omega) ?_
      wtm_at "xs"
      refine ⟨z.length, rfl, by omega, fun H2 p2 hp2 s2 e2 => ?_⟩
      have hsl := sevens_len (k := 1) (n := z.length) (by omega)
      have hzl : z.cps.toList.length = z.length := rfl
      wtm_at "xs"
      refine Xk.x_cat (s2 _ _ e1) e2 (by simp only [List.length_map, List.length_cons, List.length_nil]; omega) fun p3 H3 hp3 s3 e3 => ?_
      wtm_at "xs"
      refine Xk.x_lcS (fun Dl i H' => Same H3 H' ∧ H' Dl = some (.lst (((z.cps.toList.take i).map fun c : Nat => (c : Int)).map V.int))) ?_ ?_ ?_
      · intro Dl hD
        exact ⟨Xk.same_fr hD, upd_same⟩
      · rintro Dl hD i c H' hi ⟨s4, e4⟩
        have hi2 := Xk.at_lt hi
        wtm_at "xs"
        refine ⟨rfl, ?_⟩
        wtm_at "xs"
        exact ⟨_, e4, Xk.size_lt (by simp only [List.length_map, List.length_take]; omega), Xk.same_mut s4 hD, by rw [upd_same, List.take_add_one, hi]; simp⟩
      · rintro Dl H' hD ⟨s4, e4⟩
        rw [List.take_of_length_le (show z.cps.toList.length ≤ z.length from Nat.le_refl _)] at e4
        wtm_at "xs"
        refine Xk.x_cat (s4 _ _ e3) e4 (by simp only [List.length_append, List.length_map, List.length_cons, List.length_nil]; omega) fun p5 H5 hp5 s5 e5 => ?_
        wtm_at "xs"
        refine q H5 p5 (by wtm_at "free") (by wtm_at "sm") ?_
        rw [e5, List.map_cons, List.map_append]
        rfl
    | tuple ds =>
      cases h1 with
      | @tup p vs _ hs hd =>
        simp only [Gd] at hg
        simp only [packD] at hl q
        obtain ⟨n2, rfl⟩ : ∃ n2, n = n2 + 1 := ⟨n - 1, by have h4 : PyData.depthAll ds + 1 ≤ n := h3; omega⟩
        have hpk : Xk.PkAll K H n2 vs ds := ⟨hd, h2, by have h4 : PyData.depthAll ds + 1 ≤ n2 + 1 := h3; omega⟩
        refine fall ?_ ?_
        · wtm_at "xs"
          exact ⟨rfl, rfl⟩
        refine fall ?_ ?_
        · wtm_at "xs"
          refine Xk.x_isi (tyx_st hs) (Xk.kit_F (by decide +kernel)) ?_
          wtm_at "xs"
          exact ⟨rfl, rfl⟩
        refine fall ?_ ?_
        · wtm_at "xs"
          refine Xk.x_isi (tyx_st hs) (Xk.kit_F (by decide +kernel)) ?_
          wtm_at "xs"
          exact ⟨rfl, rfl⟩
        have hvl := hpk.len
        have hl2 : (4 :: (sevens ds.length ++ packAll ds)).length = 1 + ((sevens ds.length).length + (packAll ds).length) := by
          rw [List.length_cons, List.length_append]
          omega
        wtm_at "xs"
        intro p1 H1 hp1 s1 e1
        wtm_at "xs"
        refine Xk.x_lenXT (Xk.st_same hs s1) ?_
        wtm_at "xs"
        refine ⟨ds.length, by rw [hvl], by omega, fun H2 p2 hp2 s2 e2 => ?_⟩
        wtm_at "xs"
        refine Xk.x_cat (s2 _ _ e1) e2 (by simp only [List.length_map, List.length_cons, List.length_nil]; omega) fun p3 H3 hp3 s3 e3 => ?_
        wtm_at "xs"
        refine Xk.x_forT (xs := vs) (fun i σ' H' => ∃ b y2, σ' = [some (.ref p), some (.ref b), y2, none] ∧ Same H H' ∧ Xk.Fr b H ∧ H' b = some (.lst ((4 :: (sevens ds.length ++ packAll (ds.take i))).map V.int))) (Xk.st_same hs ((s1.trans s2).trans s3)) ⟨_, _, rfl, (s1.trans s2).trans s3, by wtm_at "free", by rw [e3, List.take_zero, packAll, List.append_nil]; rfl⟩ ?_ ?_ ?_
        · rintro i σ' H' hi ⟨b, y2, rfl, s4, hb, e4⟩
          exact Xk.st_same hs s4
        · rintro i x σ' H' hi ⟨b, y2, rfl, s4, hb, e4⟩
          obtain ⟨d, hd1, hd2⟩ := hpk.at hi
          have hle := packAll_take_le ds (i + 1)
          have hts : ds.take (i + 1) = ds.take i ++ [d] := by rw [List.take_add_one, hd1]; rfl
          rw [hts, packAll_snoc, List.length_append] at hle
          wtm_at "xs"
          refine ⟨n2, rfl, x, d, rfl, hd2.same s4, gdAll_at hg.2 hd1, by omega, fun H5 p5 hp5 s5 e5 => ?_⟩
          wtm_at "xs"
          refine Xk.x_cat (s5 _ _ e4) e5 (by simp only [List.length_map, List.length_cons, List.length_append]; omega) fun p6 H6 hp6 s6 e6 => ?_
          wtm_at "xs"
          refine ⟨p6, _, rfl, (s4.trans s5).trans s6, by wtm_at "free", ?_⟩
          rw [e6, hts, packAll_snoc]
          simp
        · rintro σ' H' ⟨b, y2, rfl, s4, hb, e4⟩
          wtm_at "xs"
          refine q H' b hb s4 ?_
          rw [e4, List.take_of_length_le (by omega)]
theorem ok__law_pack (T : Txt K mg) : FnOk P w K mg base CX0 44 T.f__law_pack T.d__law_pack ["data"] (sp__law_pack K 42) := okr__law_pack T 42
--CUT--
/-! ### what octets say -/
def rdS : Bool → List Int → Option (Int × List Int)
  | _, [] => none
  | f, c :: r => if 128 ≤ c then (rdS false r).map fun p => (c - 128 + 128 * p.1, p.2) else if c = 0 ∧ f = false then none else some (c, r)
theorem rdS_nil (f : Bool) : rdS f [] = none := by cases f <;> rfl
theorem rdS_hi {f : Bool} {c : Int} {r : List Int} (h : 128 ≤ c) : rdS f (c :: r) = (rdS false r).map fun p => (c - 128 + 128 * p.1, p.2) := by
  rw [rdS.eq_def]
  exact if_pos h
theorem rdS_lo {f : Bool} {c : Int} {r : List Int} (h : ¬ 128 ≤ c) : rdS f (c :: r) = if c = 0 ∧ f = false then none else some (c, r) := by
  rw [rdS.eq_def]
  exact if_neg h
def Oc (xs : List Int) : Prop := ∀ x ∈ xs, 0 ≤ x ∧ x ≤ 255
theorem rdS_suf : ∀ {s : List Int} {f : Bool} {n : Int} {s' : List Int}, rdS f s = some (n, s') → s' <:+ s ∧ s'.length < s.length
  | [], f, n, s', h => by rw [rdS_nil] at h; cases h
  | c :: r, f, n, s', h => by
    by_cases hc : 128 ≤ c
    · rw [rdS_hi hc] at h
      obtain ⟨p, h1, h2⟩ := Option.map_eq_some_iff.mp h
      cases h2
      obtain ⟨k1, k2⟩ := rdS_suf (n := p.1) (s' := p.2) h1
      exact ⟨k1.trans (List.suffix_cons _ _), Nat.lt_succ_of_lt k2⟩
    · rw [rdS_lo hc] at h
      split at h
      · cases h
      · cases h
        exact ⟨List.suffix_cons _ _, Nat.lt_succ_self _⟩
theorem rdS_pos : ∀ {s : List Int} {f : Bool} {n : Int} {s' : List Int}, Oc s → rdS f s = some (n, s') → 0 ≤ n
  | [], f, n, s', _, h => by rw [rdS_nil] at h; cases h
  | c :: r, f, n, s', ho, h => by
    have h0 := (ho c (List.mem_cons_self ..)).1
    by_cases hc : 128 ≤ c
    · rw [rdS_hi hc] at h
      obtain ⟨p, h1, h2⟩ := Option.map_eq_some_iff.mp h
      cases h2
      have := rdS_pos (n := p.1) (s' := p.2) (fun x hx => ho x (List.mem_cons_of_mem _ hx)) h1
      omega
    · rw [rdS_lo hc] at h
      split at h
      · cases h
      · cases h
        exact h0
def tI (c : Int) : Bool := decide (32 ≤ c ∧ c ≤ 126 ∧ c ≠ 37)
def mkT (cs : List Int) : Str := ⟨(cs.map Int.toNat).toArray⟩
def rdX (s : List Int) : Option (Str × List Int) := match rdS true s with
  | none => none
  | some (n, s') => if (s'.length : Int) < n then none else if (s'.take n.toNat).all tI = true then some (mkT (s'.take n.toNat), s'.drop n.toNat) else none
abbrev Rd := List Int → Option (PyData × List Int)
def its (rd : Rd) : Nat → List Int → List PyData → Option (List PyData × List Int)
  | 0, s, acc => some (acc, s)
  | k + 1, s, acc => match rd s with
    | none => none
    | some (d, s') => its rd k s' (acc ++ [d])
theorem its_0 (rd : Rd) (s : List Int) (acc : List PyData) : its rd 0 s acc = some (acc, s) := rfl
theorem its_none {rd : Rd} {k : Nat} {s : List Int} {acc : List PyData} (h : rd s = none) : its rd (k + 1) s acc = none := by rw [its, h]
theorem its_some {rd : Rd} {k : Nat} {s : List Int} {acc : List PyData} {d : PyData} {s' : List Int} (h : rd s = some (d, s')) : its rd (k + 1) s acc = its rd k s' (acc ++ [d]) := by rw [its, h]
def big (i : Int) : Bool := !decide (-1000000000000000000 ≤ i ∧ i ≤ 1000000000000000000)
def num (c n : Int) : Int := if c = 1 then n else -n - 1
def rdN (lim : Bool) (c : Int) (r : List Int) : Option (PyData × List Int) := match rdS true r with
  | none => none
  | some (n, s') => if lim = true ∧ big (num c n) = true then none else some (.int (num c n), s')
def rdU (up : Option Rd) (r : List Int) : Option (PyData × List Int) := match up with
  | none => none
  | some rd => match rdS true r with
    | none => none
    | some (n, s') => (its rd n.toNat s' []).map fun p => (.tuple p.1, p.2)
def rdC (lim : Bool) (up : Option Rd) : Rd
  | [] => none
  | c :: r => if c = 0 then some (.none, r) else if c = 1 ∨ c = 2 then rdN lim c r
    else if c = 3 then (rdX r).map fun p => (.str p.1, p.2) else if c = 4 then rdU up r else none
theorem rdC_cons (lim : Bool) (up : Option Rd) (c : Int) (r : List Int) : rdC lim up (c :: r) = if c = 0 then some (.none, r) else if c = 1 ∨ c = 2 then rdN lim c r
    else if c = 3 then (rdX r).map fun p => (.str p.1, p.2) else if c = 4 then rdU up r else none := rfl
def up (lim : Bool) : Nat → Option Rd
  | 0 => none
  | m + 1 => some (rdC lim (up lim m))
def rdD (lim : Bool) (m : Nat) : Rd := rdC lim (up lim m)
theorem up_succ (lim : Bool) (m : Nat) : up lim (m + 1) = some (rdD lim m) := rfl
mutual
def great : PyData → Bool
  | .int i => big i
  | .tuple ds => greatAll ds
  | _ => false
def greatAll : List PyData → Bool
  | [] => false
  | d :: ds => great d || greatAll ds
end
mutual
def Gq : PyData → Prop
  | .none => True
  | .int _ => True
  | .str s => Xk.AllC tx s = true
  | .tuple ds => ds.length ≤ 100000 ∧ GqAll ds
  | _ => False
def GqAll : List PyData → Prop
  | [] => True
  | d :: ds => Gq d ∧ GqAll ds
end
theorem gqAll_at : ∀ {ds : List PyData} {i : Nat} {d : PyData}, GqAll ds → ds[i]? = some d → Gq d
  | [], _, _, _, h => by cases h
  | e :: ds, 0, d, h, z => by
    cases z
    rw [GqAll] at h
    exact h.1
  | e :: ds, i + 1, d, h, z => by
    rw [GqAll] at h
    exact gqAll_at (ds := ds) (i := i) h.2 z
theorem gqAll_snoc {d : PyData} (h : Gq d) : ∀ {ds : List PyData}, GqAll ds → GqAll (ds ++ [d])
  | [], _ => by
    rw [List.nil_append, GqAll]
    exact ⟨h, by rw [GqAll]; trivial⟩
  | e :: ds, g => by
    rw [GqAll] at g
    rw [List.cons_append, GqAll]
    exact ⟨g.1, gqAll_snoc h g.2⟩
theorem depthAll_snoc {m : Nat} {d : PyData} : ∀ {ds : List PyData}, PyData.depthAll ds ≤ m → d.depth ≤ m → PyData.depthAll (ds ++ [d]) ≤ m
  | [], _, h => by
    show max d.depth 0 ≤ m
    omega
  | e :: ds, g, h => by
    have g1 : max e.depth (PyData.depthAll ds) ≤ m := g
    have := depthAll_snoc (ds := ds) (d := d) (by omega) h
    show max e.depth (PyData.depthAll (ds ++ [d])) ≤ m
    omega
theorem greatAll_snoc (d : PyData) : ∀ ds : List PyData, greatAll (ds ++ [d]) = (greatAll ds || great d)
  | [] => by
    rw [List.nil_append, greatAll, greatAll, greatAll, Bool.or_false, Bool.false_or]
  | e :: ds => by
    rw [List.cons_append, greatAll, greatAll, greatAll_snoc d ds, Bool.or_assoc]
/-- what a reader keeps -/
def RdOk (m : Nat) (rd : Rd) : Prop := ∀ s d s', s.length ≤ 100000 → rd s = some (d, s') → s' <:+ s ∧ s'.length < s.length ∧ Gq d ∧ d.depth ≤ m
theorem its_ok {m : Nat} {rd : Rd} (hr : RdOk m rd) : ∀ (k : Nat) (s : List Int) (acc ds : List PyData) (s' : List Int), s.length ≤ 100000 → its rd k s acc = some (ds, s') → GqAll acc → PyData.depthAll acc ≤ m →
    s' <:+ s ∧ s'.length + k ≤ s.length ∧ GqAll ds ∧ PyData.depthAll ds ≤ m ∧ ds.length = acc.length + k
  | 0, s, acc, ds, s', _, h, ha, hd => by
    rw [its_0] at h
    cases h
    exact ⟨List.suffix_refl _, Nat.le_refl _, ha, hd, rfl⟩
  | k + 1, s, acc, ds, s', hl, h, ha, hd => by
    cases e : rd s with
    | none => rw [its_none e] at h; cases h
    | some p =>
      obtain ⟨d, s1⟩ := p
      rw [its_some e] at h
      obtain ⟨k1, k2, k3, k4⟩ := hr s d s1 hl e
      obtain ⟨q1, q2, q3, q4, q5⟩ := its_ok hr k s1 _ ds s' (by omega) h (gqAll_snoc k3 ha) (depthAll_snoc hd k4)
      rw [List.length_append] at q5
      have q6 : ds.length = acc.length + 1 + k := q5
      exact ⟨q1.trans k1, by omega, q3, q4, by omega⟩
theorem tI_tx {c : Int} (h : tI c = true) : tx c.toNat = true := by
  have h1 := of_decide_eq_true h
  have : ∀ c, c < 127 → 32 ≤ c → c ≠ 37 → tx c = true := by decide +kernel
  exact this c.toNat (by omega) (by omega) (by omega)
theorem rdX_ok {s : List Int} {x : Str} {s' : List Int} (h : rdX s = some (x, s')) : s' <:+ s ∧ s'.length < s.length ∧ Xk.AllC tx x = true := by
  unfold rdX at h
  cases e : rdS true s with
  | none => rw [e] at h; cases h
  | some p =>
    obtain ⟨n, s1⟩ := p
    rw [e] at h
    dsimp only at h
    obtain ⟨k1, k2⟩ := rdS_suf e
    split at h
    · cases h
    · split at h
      · rename_i ht
        cases h
        refine ⟨(List.drop_suffix _ _).trans k1, by rw [List.length_drop]; omega, ?_⟩
        unfold Xk.AllC mkT
        rw [show (⟨((s1.take n.toNat).map Int.toNat).toArray⟩ : Str).cps.toList = (s1.take n.toNat).map Int.toNat by simp, List.all_map, List.all_eq_true]
        exact fun c hc => tI_tx (List.all_eq_true.mp ht c hc)
      · cases h
theorem rdC_ok {lim : Bool} {m : Nat} {u : Option Rd} (hu : ∀ rd, u = some rd → ∃ k, m = k + 1 ∧ RdOk k rd) : RdOk m (rdC lim u) := by
  intro s d s' hl h
  cases s with
  | nil => cases h
  | cons c r =>
    rw [List.length_cons] at hl
    rw [rdC_cons] at h
    split at h
    · cases h
      exact ⟨List.suffix_cons _ _, Nat.lt_succ_self _, (by rw [Gq]; trivial), Nat.zero_le _⟩
    split at h
    · unfold rdN at h
      cases e : rdS true r with
      | none => rw [e] at h; cases h
      | some p =>
        obtain ⟨n, s1⟩ := p
        rw [e] at h
        dsimp only at h
        obtain ⟨k1, k2⟩ := rdS_suf e
        split at h
        · cases h
        · cases h
          exact ⟨k1.trans (List.suffix_cons _ _), Nat.lt_succ_of_lt k2, (by rw [Gq]; trivial), Nat.zero_le _⟩
    split at h
    · obtain ⟨p, h1, h2⟩ := Option.map_eq_some_iff.mp h
      cases h2
      obtain ⟨k1, k2, k3⟩ := rdX_ok (x := p.1) (s' := p.2) h1
      exact ⟨k1.trans (List.suffix_cons _ _), Nat.lt_succ_of_lt k2, (by rw [Gq]; exact k3), Nat.zero_le _⟩
    split at h
    · unfold rdU at h
      cases u with
      | none => cases h
      | some rd =>
        obtain ⟨k, rfl, hk⟩ := hu rd rfl
        cases e : rdS true r with
        | none => simp only [e] at h; cases h
        | some p =>
          obtain ⟨n, s1⟩ := p
          simp only [e] at h
          obtain ⟨k1, k2⟩ := rdS_suf e
          obtain ⟨p, h1, h2⟩ := Option.map_eq_some_iff.mp h
          cases h2
          obtain ⟨q1, q2, q3, q4, q5⟩ := its_ok hk n.toNat s1 [] p.1 p.2 (by omega) h1 (by rw [GqAll]; trivial) (Nat.zero_le _)
          rw [List.length_nil] at q5
          refine ⟨(q1.trans k1).trans (List.suffix_cons _ _), by rw [List.length_cons]; omega, ?_, Nat.succ_le_succ q4⟩
          rw [Gq]
          exact ⟨by omega, q3⟩
    · cases h
theorem rdD_ok (lim : Bool) : ∀ m, RdOk m (rdD lim m)
  | 0 => rdC_ok fun rd h => by cases h
  | m + 1 => rdC_ok fun rd h => by
    cases h
    exact ⟨m, rfl, rdD_ok lim m⟩
def flt (p : PyData × List Int) : Option (PyData × List Int) := if great p.1 = true then none else some p
theorem its_mono {rd : Rd} : ∀ (k : Nat) (s : List Int) (acc ds : List PyData) (s' : List Int), its rd k s acc = some (ds, s') → greatAll acc = true → greatAll ds = true
  | 0, s, acc, ds, s', h, g => by
    rw [its_0] at h
    cases h
    exact g
  | k + 1, s, acc, ds, s', h, g => by
    cases e : rd s with
    | none => rw [its_none e] at h; cases h
    | some p =>
      obtain ⟨d, s1⟩ := p
      rw [its_some e] at h
      exact its_mono k s1 _ ds s' h (by rw [greatAll_snoc, g]; rfl)
theorem its_rel {rt rf : Rd} (hr : ∀ s, rt s = (rf s).bind flt) : ∀ (k : Nat) (s : List Int) (acc : List PyData), greatAll acc = false → its rt k s acc = (its rf k s acc).bind fun p => if greatAll p.1 = true then none else some p
  | 0, s, acc, h => by
    rw [its_0, its_0]
    show _ = if greatAll acc = true then none else some (acc, s)
    rw [if_neg (by rw [h]; decide)]
  | k + 1, s, acc, h => by
    have e2 := hr s
    cases e : rf s with
    | none =>
      rw [e] at e2
      rw [its_none e, its_none e2]
      rfl
    | some p =>
      obtain ⟨d, s1⟩ := p
      rw [e] at e2
      have e3 : rt s = if great d = true then none else some (d, s1) := e2
      cases g : great d with
      | true =>
        rw [g, if_pos rfl] at e3
        rw [its_none e3, its_some e]
        cases e4 : its rf k s1 (acc ++ [d]) with
        | none => rfl
        | some q =>
          have := its_mono k s1 _ q.1 q.2 e4 (by rw [greatAll_snoc, g, Bool.or_true])
          show none = if greatAll q.1 = true then none else some q
          rw [if_pos this]
      | false =>
        rw [g, if_neg (by decide)] at e3
        rw [its_some e3, its_some e]
        exact its_rel hr k s1 _ (by rw [greatAll_snoc, h, g]; rfl)
theorem rdC_rel {ut uf : Option Rd} (hu : (ut = none ∧ uf = none) ∨ ∃ rt rf, ut = some rt ∧ uf = some rf ∧ ∀ s, rt s = (rf s).bind flt) (s : List Int) : rdC true ut s = (rdC false uf s).bind flt := by
  cases s with
  | nil => rfl
  | cons c r =>
    rw [rdC_cons, rdC_cons]
    split
    · rfl
    split
    · unfold rdN
      cases e : rdS true r with
      | none => rfl
      | some p =>
        obtain ⟨n, s1⟩ := p
        dsimp only
        rw [if_neg (show ¬ (false = true ∧ big (num c n) = true) from fun z => by cases z.1)]
        show _ = if big (num c n) = true then none else some (PyData.int (num c n), s1)
        cases big (num c n)
        · rfl
        · rfl
    split
    · cases rdX r <;> rfl
    split
    · rcases hu with ⟨rfl, rfl⟩ | ⟨rt, rf, rfl, rfl, hr⟩
      · rfl
      · unfold rdU
        cases e : rdS true r with
        | none => rfl
        | some p =>
          obtain ⟨n, s1⟩ := p
          dsimp only
          rw [its_rel hr n.toNat s1 [] (by rw [greatAll])]
          cases its rf n.toNat s1 [] with
          | none => rfl
          | some q =>
            show Option.map _ (if greatAll q.1 = true then none else some q) = if greatAll q.1 = true then none else some (PyData.tuple q.1, q.2)
            split <;> rfl
    · rfl
theorem rdD_rel : ∀ (m : Nat) (s : List Int), rdD true m s = (rdD false m s).bind flt
  | 0, s => rdC_rel (.inl ⟨rfl, rfl⟩) s
  | m + 1, s => rdC_rel (.inr ⟨_, _, rfl, rfl, rdD_rel m⟩) s
def rdW (xs : List Int) : Option PyData := match rdD false 40 xs with
  | none => none
  | some (d, s') => if s' = [] then (if great d = true then none else some d) else none
theorem rdW_law (xs : List Int) : rdW xs = match rdD true 40 xs with
  | none => none
  | some (d, s') => if s' = [] then some d else none := by
  unfold rdW
  rw [rdD_rel]
  cases rdD false 40 xs with
  | none => rfl
  | some p =>
    obtain ⟨d, s'⟩ := p
    show _ = match (if great d = true then none else some (d, s')) with
      | none => none
      | some (d, s') => if s' = [] then some d else none
    cases hg : great d <;> by_cases h : s' = [] <;> simp [h, hg]
theorem suf_drop {s cs : List Int} (h : s <:+ cs) : cs.drop (cs.length - s.length) = s := by
  obtain ⟨a, rfl⟩ := h
  rw [List.length_append, Nat.add_sub_cancel, List.drop_left]
--CUT--
/-! ### reading -/
/-- an exception that goes out: Malformed, with the line 0 -/
def MlE (C : Addr) (E : XK) (H : Hp) : Prop := ∀ dd H', Same H H' → Xk.Fr dd H → H' dd = some (.xd [(("line" : Str), .int 0)]) → E (.ref C) (some dd) H'
theorem MlE.same {C : Addr} {E : XK} {H H1 : Hp} (h : MlE C E H) (s : Same H H1) : MlE C E H1 := fun dd H' s2 f e => h dd H' (s.trans s2) (Xk.free_back f s) e
theorem mlE_raise {C : Addr} {E : XK} {H : Hp} {v : V} {σ : L2.St} (h : MlE C E H) : Xk.rMkM (fun cls d _ H => E cls d H) C σ [v] H := Xk.x_rMkM fun d H2 f s e => h d H2 s f e
theorem drop_len {z : List Int} {e : Nat} : (z.drop e).length = z.length - e := List.length_drop ..
theorem drop_suc {z : List Int} {e : Nat} {c : Int} {r : List Int} (h : z.drop e = c :: r) : z.drop (e + 1) = r ∧ e < z.length ∧ z[e]? = some c := by
  refine ⟨by rw [← List.drop_drop, h]; rfl, ?_, by rw [← List.head?_drop, h]; rfl⟩
  have := congrArg List.length h
  rw [drop_len, List.length_cons] at this
  omega
theorem suf_of {z : List Int} {e : Nat} {s' : List Int} (h : s' <:+ z.drop e) : z.drop (z.length - s'.length) = s' := suf_drop (h.trans (List.drop_suffix _ _))
def sp__octet_at (K : PySem.W.Frag) (C : Addr) : Sp := fun vs H Q E => ∃ (a : Addr) (xs : List Int) (i : Nat), vs = [.ref a, .int i] ∧ SqL K H a (xs.map V.int) ∧ xs.length ≤ 100000 ∧ (∀ x, xs[i]? = some x → Q (.int x) H) ∧ (xs.length ≤ i → MlE C E H)
theorem ok__octet_at (T : Txt K mg) (M : Xk.MalT P K mg s_Mal T.C_Malformed T.f_Mal) : FnOk P w K mg base (L2.CX P w) 1 T.f__octet_at T.d__octet_at ["octets", "at"] (sp__octet_at K T.C_Malformed) := by
  refine T.F__octet_at.okX sc__octet_at (fun vs H Q E h => ?_) (fun cdv A outer s H vs Q E hr h => ?_)
  · obtain ⟨a, xs, i, rfl, _⟩ := h
    rfl
  obtain ⟨a, xs, i, rfl, ha, hl, q1, q2⟩ := h
  refine ⟨_, (Evl.pss_cut (ps_if (pt_cmpR op_ge (pv 1) (pe_callB (Xk.k_len (K := K) (by rfl)) (by rfl) T.m_len PySem.boot_len (pa_cons (pv 0) pa_nil)) (nomark _)) (pss_one (Xk.ps_raiseM rfl M mal_text hr (takes_of rfl rfl rfl rfl) (pa_cons (pe_str) pa_nil))) pss_nil)
      (pss_one (ps_ret (pe_ix (Xk.k_ixL (K := K) (by rfl)) (pv 0) (pv 1) (fun _ _ => rfl))))), ?_⟩
  wtm_at "x0"
  by_cases hi : i < xs.length
  · obtain ⟨x, hx⟩ := Xk.lt_at hi
    have hi2 : ¬ (((xs.map V.int).length : Int) ≤ (i : Int)) := by rw [List.length_map]; omega
    refine fall ?_ ?_
    · wtm_at "xs"
      exact ⟨rfl, rfl⟩
    wtm_at "xs"
    exact q1 x hx
  · have hi2 : (((xs.map V.int).length : Int) ≤ (i : Int)) := by rw [List.length_map]; omega
    refine Xk.x_nocut ?_
    wtm_at "xs"
    exact mlE_raise (q2 (by omega))
def sp__read_sevens (K : PySem.W.Frag) (C : Addr) : Sp := fun vs H Q E => ∃ (a : Addr) (xs : List Int) (i : Nat), vs = [.ref a, .int i] ∧ SqL K H a (xs.map V.int) ∧ xs.length ≤ 100000 ∧ Oc xs ∧
  (∀ n s', rdS true (xs.drop i) = some (n, s') → ∀ H' p, Xk.Fr p H → Same H H' → H' p = some (.tup [.int n, .int ((xs.length - s'.length : Nat) : Int)]) → Q (.ref p) H') ∧ (rdS true (xs.drop i) = none → MlE C E H)
theorem comp_map {g sc : Int} {c : Int} (o : Option (Int × List Int)) : (o.map fun p : Int × List Int => (c - 128 + 128 * p.1, p.2)).map (fun p => (g + p.1 * sc, p.2)) = o.map fun p => (g + (c - 128) * sc + p.1 * (sc * 128), p.2) := by
  rw [Option.map_map]
  congr 1
  funext p
  show (g + (c - 128 + 128 * p.1) * sc, p.2) = _
  congr 1
  rw [Int.add_mul, ← Int.add_assoc]
  congr 1
  rw [Int.mul_comm 128 p.1, Int.mul_assoc, Int.mul_comm 128 sc]
theorem ok__read_sevens (T : Txt K mg) (M : Xk.MalT P K mg s_Mal T.C_Malformed T.f_Mal) : FnOk P w K mg base (L2.CX P w) 2 T.f__read_sevens T.d__read_sevens ["octets", "at"] (sp__read_sevens K T.C_Malformed) := by
  refine T.F__read_sevens.okX sc__read_sevens (fun vs H Q E h => ?_) (fun cdv A outer s H vs Q E hr h => ?_)
  · obtain ⟨a, xs, i, rfl, _⟩ := h
    rfl
  obtain ⟨a, xs, i, rfl, ha, hl, hO, q1, q2⟩ := h
  refine ⟨_, (pss_cons (ps_set (i := 2) sc__read_sevens.nd rfl (Or.inl rfl) (pe_int))
      (pss_cons (ps_set (i := 3) sc__read_sevens.nd rfl (Or.inl rfl) (pe_int))
      (pss_cons (ps_set (i := 4) sc__read_sevens.nd rfl (Or.inl rfl) (pv 1))
      (Evl.pss_cut (ps_while (passes_of rfl) (pt_cmpR op_ge (pe_callS (ok__octet_at T M) (hr.mono (by decide)) (by rfl) T.g__octet_at T.F__octet_at.kp T.b__octet_at (fun σ => passAt (takes_of rfl rfl rfl rfl) σ) (pa_cons (pv 0) (pa_cons (pv 4) pa_nil))) (pe_int) (nomark _)) (pss_cons (ps_aug (i := 2) sc__read_sevens.nd rfl (Or.inl rfl) (pe_op op_mul (pe_op op_sub (pe_ix (Xk.k_ixL (K := K) (by rfl)) (pv 0) (pv 4) (fun _ _ => rfl)) (pe_int)) (pv 3)) ip_add)
      (pss_cons (ps_aug (i := 3) sc__read_sevens.nd rfl (Or.inl rfl) (pe_int) Xk.ip_mul128)
      (pss_one (ps_aug (i := 4) sc__read_sevens.nd rfl (Or.inl rfl) (pe_int) ip_add)))))
      (Evl.pss_cut (ps_if (PW.pt (pw_and (pt_cmpR op_eq (pe_ix (Xk.k_ixL (K := K) (by rfl)) (pv 0) (pv 4) (fun _ _ => rfl)) (pe_int) (nomark _)) (pw_and1 (pt_cmpR op_gt (pv 4) (pv 1) (nomark _))))) (pss_one (Xk.ps_raiseM rfl M mal_text hr (takes_of rfl rfl rfl rfl) (pa_cons (pe_str) pa_nil))) pss_nil)
      (pss_one (ps_ret (pe_tup (pa_cons (pe_op op_add (pv 2) (pe_op op_mul (pe_ix (Xk.k_ixL (K := K) (by rfl)) (pv 0) (pv 4) (fun _ _ => rfl)) (pv 3))) (pa_cons (pe_op op_add (pv 4) (pe_int)) pa_nil)))))))))), ?_⟩
  wtm_at "x0"
  wtm_at "xs"
  refine Xk.x_while1 (fun m σ' H' => H' = H ∧ ∃ (g sc : Int) (j : Nat), σ' = [some (.ref a), some (.int (i : Int)), some (.int g), some (.int sc), some (.int (j : Int))] ∧ rdS true (xs.drop i) = (rdS (decide (j = i)) (xs.drop j)).map (fun p => (g + p.1 * sc, p.2)) ∧ i ≤ j ∧ m = xs.length - j) (xs.length - i) ⟨rfl, 0, 1, i, rfl, ?_, Nat.le_refl _, rfl⟩ ?_
  · rw [decide_eq_true rfl]
    cases rdS true (xs.drop i) with
    | none => rfl
    | some p =>
      show some p = some (0 + p.1 * 1, p.2)
      rw [Int.mul_one, Int.zero_add]
  rintro m σ' H' ⟨rfl, g, sc, j, rfl, hR, hij, hm⟩
  obtain ⟨s, hs⟩ : ∃ s, xs.drop j = s := ⟨_, rfl⟩
  have hsl : s.length = xs.length - j := by rw [← hs, drop_len]
  rw [hs] at hR
  wtm_at "xs"
  cases s with
  | nil =>
    rw [List.length_nil] at hsl
    refine ⟨a, xs, j, rfl, ha, hl, fun x hx => ?_, fun _ => q2 (by rw [hR, rdS_nil]; rfl)⟩
    have := Xk.at_lt hx
    omega
  | cons c r =>
    obtain ⟨hd1, hjl, hc⟩ := drop_suc hs
    refine ⟨a, xs, j, rfl, ha, hl, fun x hx => ?_, fun h => absurd hjl (by omega)⟩
    rw [hc] at hx
    cases hx
    wtm_at "xs"
    by_cases hc8 : 128 ≤ c
    · refine Xk.x_wd (fun _ => ?_) (fun c2 => absurd hc8 c2)
      refine Xk.x_wT ?_
      wtm_at "xs"
      have hcb := hO c (List.mem_of_getElem? hc)
      refine ⟨_, _, rfl, rfl, .inl (by omega), ?_⟩
      wtm_at "xs"
      rw [rdS_hi hc8, comp_map] at hR
      refine ⟨xs.length - (j + 1), by omega, rfl, g + (c - 128) * sc, sc * 128, j + 1, rfl, ?_, by omega, rfl⟩
      rw [hR, hd1, decide_eq_false (show ¬ (j + 1 = i) by omega)]
    · refine Xk.x_wd (fun c2 => absurd c2 hc8) (fun _ => ?_)
      refine Xk.x_wF ?_
      rw [rdS_lo hc8] at hR
      have hcb := hO c (List.mem_of_getElem? hc)
      have hcv : (xs.map V.int)[j]? = some (.int c) := by rw [List.getElem?_map, hc]; rfl
      by_cases hz : c = 0 ∧ j ≠ i
      · have hz0 : V.int c = V.int 0 := by rw [hz.1]
        have hji : (i : Int) < (j : Int) := by omega
        refine Xk.x_nocut ?_
        wtm_at "xs"
        exact mlE_raise (q2 (by rw [hR, if_pos ⟨hz.1, decide_eq_false hz.2⟩]; rfl))
      · refine fall ?_ ?_
        · by_cases hz0 : c = 0
          · have hji : ¬ ((i : Int) < (j : Int)) := by
              have : j = i := by
                by_cases h : j = i
                · exact h
                · exact absurd ⟨hz0, h⟩ hz
              omega
            have hz1 : V.int c = V.int 0 := by rw [hz0]
            wtm_at "xs"
            exact ⟨rfl, rfl⟩
          · have hz1 : ¬ (V.int c = V.int 0) := fun e => by
              injection e with e
              exact hz0 e
            wtm_at "xs"
            exact ⟨rfl, rfl⟩
        rw [if_neg (fun h => hz ⟨h.1, of_decide_eq_false h.2⟩)] at hR
        wtm_at "xs"
        intro p H1 hp1 s1 h1
        refine q1 (g + c * sc) r (by rw [hR]; rfl) H1 p hp1 s1 ?_
        rw [List.length_cons] at hsl
        rw [h1, show xs.length - r.length = j + 1 by omega]
        rfl
--CUT--
def sp__read_integer (K : PySem.W.Frag) (C : Addr) : Sp := fun vs H Q E => ∃ (a : Addr) (xs : List Int) (i : Nat) (c : Int) (r : List Int), vs = [.ref a, .int i] ∧ SqL K H a (xs.map V.int) ∧ xs.length ≤ 100000 ∧ Oc xs ∧ xs.drop i = c :: r ∧ (c = 1 ∨ c = 2) ∧
  (∀ n s', rdS true r = some (n, s') → ∀ H' p, Xk.Fr p H → Same H H' → H' p = some (.tup [.int (num c n), .int ((xs.length - s'.length : Nat) : Int)]) → Q (.ref p) H') ∧ (rdS true r = none → MlE C E H)
theorem ok__read_integer (T : Txt K mg) (M : Xk.MalT P K mg s_Mal T.C_Malformed T.f_Mal) : FnOk P w K mg base (L2.CX P w) 3 T.f__read_integer T.d__read_integer ["octets", "at"] (sp__read_integer K T.C_Malformed) := by
  refine T.F__read_integer.okX sc__read_integer (fun vs H Q E h => ?_) (fun cdv A outer s H vs Q E hr h => ?_)
  · obtain ⟨a, xs, i, c, r, rfl, _⟩ := h
    rfl
  obtain ⟨a, xs, i, c, r, rfl, ha, hl, hO, hs, hc12, q1, q2⟩ := h
  obtain ⟨hd1, hil, hc⟩ := drop_suc hs
  have hcv : (xs.map V.int)[i]? = some (.int c) := by rw [List.getElem?_map, hc]; rfl
  refine ⟨_, (pss_cons (ps_asg (pe_callS (ok__read_sevens T M) (hr.mono (by decide)) (by rfl) T.g__read_sevens T.F__read_sevens.kp T.b__read_sevens (fun σ => passAt (takes_of rfl rfl rfl rfl) σ) (pa_cons (pv 0) (pa_cons (pe_op op_add (pv 1) (pe_int)) pa_nil))) (pg_tup rfl (pgs_cons (pg_name (i := 2) sc__read_integer.nd rfl (Or.inl rfl)) (pgs_cons (pg_name (i := 3) sc__read_integer.nd rfl (Or.inl rfl)) pgs_nil))))
      (pss_one (ps_ret (pe_tup (pa_cons (pe_ifExp (pt_cmpR op_eq (pe_ix (Xk.k_ixL (K := K) (by rfl)) (pv 0) (pv 1) (fun _ _ => rfl)) (pe_glob (by rfl) T.g_BELOW_ZERO Xk.rel_int) (nomark _)) (pe_op op_sub (pe_un un_neg (pv 2)) (pe_int)) (pv 2)) (pa_cons (pv 3) pa_nil)))))), ?_⟩
  wtm_at "x0"
  wtm_at "xs"
  refine ⟨a, xs, i + 1, by rfl, ha, hl, hO, fun n s' hn H1 p hp1 s1 e1 => ?_, fun hn => q2 (by rw [← hd1]; exact hn)⟩
  rw [hd1] at hn
  have ha1 := Xk.sq_same ha s1
  rcases hc12 with rfl | rfl
  · have hne : ¬ (V.int 1 = V.int 2) := by decide +kernel
    wtm_at "xs"
    intro p2 H2 hp2 s2 h3
    exact q1 n s' hn H2 p2 (by wtm_at "free") (s1.trans s2) h3
  · have he : V.int 2 = V.int 2 := rfl
    wtm_at "xs"
    intro p2 H2 hp2 s2 h3
    exact q1 n s' hn H2 p2 (by wtm_at "free") (s1.trans s2) h3
def sp_sign_of (K : PySem.W.Frag) : Sp := fun vs H Q _ => ∃ c : Int, vs = [.int c] ∧ (tI c = true → Q (.str ⟨#[c.toNat]⟩) H) ∧ (tI c = false → Q .non H)
theorem ok_sign_of (T : Txt K mg) : FnOk P w K mg base CX0 1 T.f_sign_of T.d_sign_of ["code"] (sp_sign_of K) := by
  refine T.F_sign_of.ok sc_sign_of (fun vs H Q E h => ?_) (fun cdv A outer s H vs Q E hr h => ?_)
  · obtain ⟨c, rfl, _⟩ := h
    rfl
  obtain ⟨c, rfl, q1, q2⟩ := h
  refine ⟨_, (Evl.pss_cut (ps_if (pt_chain op_le op_lt (pe_int) (pv 0) (pe_int)) (pss_one (ps_ret (pe_ix ix_str (pe_glob (by rfl) T.g_LOW_SIGNS Xk.rel_str) (pe_op op_sub (pv 0) (pe_int)) (fun _ _ => rfl)))) pss_nil)
      (Evl.pss_cut (ps_if (pt_chain op_le op_le (pe_int) (pv 0) (pe_int)) (pss_one (ps_ret (pe_ix ix_str (pe_glob (by rfl) T.g_HIGH_SIGNS Xk.rel_str) (pe_op op_sub (pv 0) (pe_int)) (fun _ _ => rfl)))) pss_nil)
      (pss_one (ps_ret (pe_non))))), ?_⟩
  wtm_at "x0"
  cases ht : tI c with
  | true =>
    have h1 := tI_tx ht
    have h0 := of_decide_eq_true ht
    rcases tx_where c.toNat h1 with ⟨g1, g2, g3⟩ | ⟨g1, g2, g3⟩
    · have b1 : (32 : Int) ≤ c := by omega
      have b2 : c < 37 := by omega
      refine Xk.x_nocut ?_
      wtm_at "xs"
      refine Xk.x_ixS (c := c.toNat) (by decide +kernel) (show atI lowS.cps.toList _ = some c.toNat from Xk.at_nat (j := c.toNat - 32) (by omega) g3) ?_
      exact q1 ht
    · have b2 : ¬ (c < 37) := by omega
      have b1 : (32 : Int) ≤ c := by omega
      have b3 : (38 : Int) ≤ c := by omega
      have b4 : c ≤ 126 := by omega
      refine fall ?_ ?_
      · wtm_at "xs"
        exact ⟨rfl, rfl⟩
      refine Xk.x_nocut ?_
      wtm_at "xs"
      refine Xk.x_ixS (c := c.toNat) (by decide +kernel) (show atI highS.cps.toList _ = some c.toNat from Xk.at_nat (j := c.toNat - 38) (by omega) g3) ?_
      exact q1 ht
  | false =>
    have h0 := of_decide_eq_false ht
    refine fall ?_ ?_
    · by_cases b1 : (32 : Int) ≤ c
      · have b2 : ¬ (c < 37) := by omega
        wtm_at "xs"
        exact ⟨rfl, rfl⟩
      · wtm_at "xs"
        exact ⟨rfl, rfl⟩
    refine fall ?_ ?_
    · by_cases b3 : (38 : Int) ≤ c
      · have b4 : ¬ (c ≤ 126) := by omega
        wtm_at "xs"
        exact ⟨rfl, rfl⟩
      · wtm_at "xs"
        exact ⟨rfl, rfl⟩
    wtm_at "xs"
    exact q2 ht
def sg (c : Int) : V := if tI c = true then .str ⟨#[c.toNat]⟩ else .non
def sgd (c : Int) : PyData := if tI c = true then .str ⟨#[c.toNat]⟩ else .none
theorem sg_pk {K : PySem.W.Frag} {H : Hp} : ∀ cs : List Int, Xk.PkAll K H 0 (cs.map sg) (cs.map sgd)
  | [] => Xk.pk_nil
  | c :: cs => by
    rw [List.map_cons, List.map_cons]
    refine Xk.pk_cons ?_ (sg_pk cs)
    unfold sg sgd
    by_cases h : tI c = true
    · rw [if_pos h, if_pos h]
      exact Xk.pk_str (Xk.lay_str (okC_tx (one_all (tI_tx h))))
    · rw [if_neg h, if_neg h]
      exact Xk.pk_non
theorem sg_none : ∀ cs : List Int, Xk.inD .none (cs.map sgd) = !(cs.all tI)
  | [] => rfl
  | c :: cs => by
    have ih := sg_none cs
    unfold Xk.inD at ih ⊢
    rw [List.map_cons, List.any_cons, List.all_cons, ih]
    unfold sgd
    by_cases h : tI c = true
    · rw [if_pos h, h]
      rfl
    · rw [if_neg h, Bool.not_eq_true] at *
      rw [h]
      rfl
theorem sg_all : ∀ cs : List Int, cs.all tI = true → cs.map sg = ((cs.map Int.toNat).map fun c : Nat => (⟨#[c]⟩ : Str)).map V.str
  | [], _ => rfl
  | c :: cs, h => by
    rw [List.all_cons, Bool.and_eq_true] at h
    rw [List.map_cons, sg_all cs h.2]
    unfold sg
    rw [if_pos h.1]
    rfl
--CUT--
theorem rdX_eq (s : List Int) : rdX s = match rdS true s with
  | none => none
  | some (n, s') => if (s'.length : Int) < n then none else if (s'.take n.toNat).all tI = true then some (mkT (s'.take n.toNat), s'.drop n.toNat) else none := rfl
def sp__read_text (K : PySem.W.Frag) (C : Addr) : Sp := fun vs H Q E => ∃ (a : Addr) (xs : List Int) (i : Nat), vs = [.ref a, .int i] ∧ SqL K H a (xs.map V.int) ∧ xs.length ≤ 100000 ∧ Oc xs ∧
  (∀ x s', rdX (xs.drop i) = some (x, s') → ∀ H' p, Xk.Fr p H → Same H H' → H' p = some (.tup [.str x, .int ((xs.length - s'.length : Nat) : Int)]) → Q (.ref p) H') ∧ (rdX (xs.drop i) = none → MlE C E H)
theorem ok__read_text (T : Txt K mg) (M : Xk.MalT P K mg s_Mal T.C_Malformed T.f_Mal) : FnOk P w K mg base (L2.CX P w) 3 T.f__read_text T.d__read_text ["octets", "at"] (sp__read_text K T.C_Malformed) := by
  refine T.F__read_text.okX sc__read_text (fun vs H Q E h => ?_) (fun cdv A outer s H vs Q E hr h => ?_)
  · obtain ⟨a, xs, i, rfl, _⟩ := h
    rfl
  obtain ⟨a, xs, i, rfl, ha, hl, hO, q1, q2⟩ := h
  refine ⟨_, (pss_cons (ps_asg (pe_callS (ok__read_sevens T M) (hr.mono (by decide)) (by rfl) T.g__read_sevens T.F__read_sevens.kp T.b__read_sevens (fun σ => passAt (takes_of rfl rfl rfl rfl) σ) (pa_cons (pv 0) (pa_cons (pv 1) pa_nil))) (pg_tup rfl (pgs_cons (pg_name (i := 2) sc__read_text.nd rfl (Or.inl rfl)) (pgs_cons (pg_name (i := 3) sc__read_text.nd rfl (Or.inl rfl)) pgs_nil))))
      (pss_cons (ps_set (i := 4) sc__read_text.nd rfl (Or.inl rfl) (pe_op op_add (pv 3) (pv 2)))
      (Evl.pss_cut (ps_if (pt_cmpR op_gt (pv 4) (pe_callB (Xk.k_len (K := K) (by rfl)) (by rfl) T.m_len PySem.boot_len (pa_cons (pv 0) pa_nil)) (nomark _)) (pss_one (Xk.ps_raiseM rfl M mal_text hr (takes_of rfl rfl rfl rfl) (pa_cons (pe_str) pa_nil))) pss_nil)
      (pss_cons (ps_setLc (i := 5) (own := [("code", 6)]) (g := gName 6) (tt := tYes) rfl sc__read_text.nd rfl rfl (sw_true rfl rfl rfl (by decide +kernel)) (pi_list (pe_slice (Xk.k_slL (K := K) (by rfl)) (pv 0) (po_some (pv 3)) (po_some (pv 4)))) (blkOk_by (N := N__read_text) (sc := defScope s__read_text) (own := [("code", 6)]) (by decide +kernel)) (fun _ _ _ _ _ => pg_name (i := 6) sc__read_text.nd rfl (Or.inl rfl)) (fun _ _ _ _ _ => pts_nil) (fun _ _ _ _ _ => (pe_call (ok_sign_of T) (hr.mono (by decide)) (by rfl) T.g_sign_of T.F_sign_of.kp T.b_sign_of .nil pass0 (pa_cons (pv 6) pa_nil))))
      (Evl.pss_cut (ps_if (pt_cmpR (Xk.k_inD (K := K) (Xk.u65 hr) (by rfl)) (pe_non) (pv 5) (by rfl)) (pss_one (Xk.ps_raiseM rfl M mal_text hr (takes_of rfl rfl rfl rfl) (pa_cons (pe_str) pa_nil))) pss_nil)
      (pss_one (ps_ret (pe_tup (pa_cons (pe_bm PySem.F.plainAttrs_str PySem.F.slot_str_join PySem.F.type_str_join (Xk.k_join (K := K) (by rfl)) (pe_str) (pa_cons (pv 5) pa_nil)) (pa_cons (pv 4) pa_nil)))))))))), ?_⟩
  rw [rdX_eq] at q1 q2
  wtm_at "x0"
  wtm_at "xs"
  refine ⟨a, xs, i, rfl, ha, hl, hO, fun n s' hn H1 p hp1 s1 e1 => ?_, fun hn => q2 (by rw [hn])⟩
  have hn0 := rdS_pos (fun x hx => hO x (List.mem_of_mem_drop hx)) hn
  obtain ⟨hsuf, hlt⟩ := rdS_suf hn
  have hdr := suf_of hsuf
  have hsl : s'.length ≤ xs.length := by have := hsuf.length_le; rw [drop_len] at this; omega
  rw [hn] at q1 q2
  dsimp only at q1 q2
  have ha1 := Xk.sq_same ha s1
  obtain ⟨st, hst⟩ : ∃ st, xs.length - s'.length = st := ⟨_, rfl⟩
  rw [hst] at hdr e1
  wtm_at "xs"
  by_cases hbig : (s'.length : Int) < n
  · rw [if_pos hbig] at q2
    have hb : ((xs.map V.int).length : Int) < (st : Int) + n := by rw [List.length_map]; omega
    refine Xk.x_nocut ?_
    wtm_at "xs"
    exact mlE_raise ((q2 rfl).same s1)
  rw [if_neg hbig] at q1 q2
  have hb : ¬ (((xs.map V.int).length : Int) < (st : Int) + n) := by rw [List.length_map]; omega
  refine fall ?_ ?_
  · wtm_at "xs"
    exact ⟨rfl, rfl⟩
  obtain ⟨cs, hcs⟩ : ∃ cs, s'.take n.toNat = cs := ⟨_, rfl⟩
  have hcl : cs.length ≤ 100000 := by rw [← hcs, List.length_take]; omega
  have hcl2 : cs.length = n.toNat := by rw [← hcs, List.length_take]; omega
  rw [hcs] at q1 q2
  wtm_at "xs"
  intro p2 H3 hp2 s2 e2
  rw [cut_by (j := st + n.toNat) rfl (by omega), Nat.add_sub_cancel_left, hdr, hcs] at e2
  wtm_at "xs"
  refine Xk.x_lcL (fun Dl i H' => Same H3 H' ∧ H' Dl = some (.lst ((cs.take i).map sg))) (Xk.sq_of e2) ?_ ?_ ?_ ?_
  · intro Dl hD
    exact ⟨Xk.same_fr hD, upd_same⟩
  · rintro Dl i H' hD ⟨s3, h3⟩
    exact Xk.sq_of (s3 _ _ e2)
  · rintro Dl hD j x H' hi ⟨s3, h3⟩
    obtain ⟨c, hc, rfl⟩ : ∃ c : Int, cs[j]? = some c ∧ x = .int c := by
      rw [List.getElem?_map] at hi
      cases e : cs[j]? with
      | none => rw [e] at hi; cases hi
      | some c => rw [e] at hi; exact ⟨c, rfl, (Option.some.inj hi).symm⟩
    wtm_at "xs"
    refine ⟨rfl, ?_⟩
    wtm_at "xs"
    have sz : ((cs.take j).map sg).length < sizeLine := Xk.size_lt (by have := Xk.at_lt hc; simp only [List.length_map, List.length_take]; omega)
    have nx : (cs.take j).map sg ++ [sg c] = (cs.take (j + 1)).map sg := by rw [List.take_add_one, hc, List.map_append]; rfl
    refine ⟨c, rfl, fun ht => ?_, fun ht => ?_⟩
    · refine ⟨_, h3, sz, Xk.same_mut s3 hD, ?_⟩
      rw [upd_same, ← nx]
      unfold sg
      rw [if_pos ht]
    · refine ⟨_, h3, sz, Xk.same_mut s3 hD, ?_⟩
      rw [upd_same, ← nx]
      conv => rhs; rw [show sg c = V.non from if_neg (by rw [ht]; decide)]
  · rintro Dl H' hD ⟨s3, h3⟩
    rw [List.length_map, List.take_length] at h3
    wtm_at "xs"
    have s13 := (s1.trans s2).trans s3
    cases hall : cs.all tI with
    | false =>
      rw [if_neg (by rw [hall]; decide)] at q2
      refine Xk.x_nocut ?_
      wtm_at "xs"
      refine Xk.x_inPk (n := 0) Xk.pk_non (Xk.sq_of h3) (sg_pk cs) ?_
      rw [sg_none, hall]
      wtm_at "xs"
      exact mlE_raise ((q2 rfl).same s13)
    | true =>
      rw [if_pos hall] at q1
      refine fall ?_ ?_
      · wtm_at "xs"
        refine Xk.x_inPk (n := 0) Xk.pk_non (Xk.sq_of h3) (sg_pk cs) ?_
        rw [sg_none, hall]
        wtm_at "xs"
        exact ⟨rfl, rfl⟩
      wtm_at "xs"
      refine ⟨rfl, ?_⟩
      wtm_at "xs"
      refine ⟨"", Dl, (cs.map Int.toNat).map fun c => ⟨#[c]⟩, rfl, rfl, .inl (Xk.sq_of (by rw [h3, sg_all cs hall])), by rw [sum_ones, List.length_map, List.length_map]; show _ + _ * 0 ≤ 16777216; omega, ?_⟩
      rw [join_one]
      wtm_at "xs"
      intro p4 H5 hp4 s4 h5
      refine q1 _ _ rfl H5 p4 (by wtm_at "free") (s13.trans s4) ?_
      rw [h5, List.length_drop, show xs.length - (s'.length - n.toNat) = st + n.toNat by omega, show ((st + n.toNat : Nat) : Int) = (st : Int) + n by omega]
      rfl
--CUT--
def sp__read_data (K : PySem.W.Frag) (C : Addr) (m : Nat) : Sp := fun vs H Q E => ∃ n, m = n + 1 ∧ ∃ (a : Addr) (xs : List Int) (i r : Nat), vs = [.ref a, .int (i : Int), .int (r : Int)] ∧ SqL K H a (xs.map V.int) ∧ xs.length ≤ 100000 ∧ Oc xs ∧ r ≤ n ∧
  (∀ d s', rdD false r (xs.drop i) = some (d, s') → ∀ H' p v, Xk.Fr p H → Same H H' → H' p = some (.tup [v, .int ((xs.length - s'.length : Nat) : Int)]) → Xk.Pk K H' r v d → Q (.ref p) H') ∧ (rdD false r (xs.drop i) = none → MlE C E H)
def sp__read_tuple (K : PySem.W.Frag) (C : Addr) (m : Nat) : Sp := fun vs H Q E => ∃ (a : Addr) (xs : List Int) (i r : Nat), vs = [.ref a, .int (i : Int), .int (r : Int)] ∧ SqL K H a (xs.map V.int) ∧ xs.length ≤ 100000 ∧ Oc xs ∧ r ≤ m ∧
  (∀ d s', rdU (up false r) (xs.drop i) = some (d, s') → ∀ H' p v, Xk.Fr p H → Same H H' → H' p = some (.tup [v, .int ((xs.length - s'.length : Nat) : Int)]) → Xk.Pk K H' r v d → Q (.ref p) H') ∧ (rdU (up false r) (xs.drop i) = none → MlE C E H)
theorem rdU_some {rd : Rd} {r s' : List Int} {n : Int} (h : rdS true r = some (n, s')) : rdU (some rd) r = (its rd n.toNat s' []).map fun p => (.tuple p.1, p.2) := by
  unfold rdU
  simp only [h]
theorem rdU_none {rd : Rd} {r : List Int} (h : rdS true r = none) : rdU (some rd) r = none := by
  unfold rdU
  simp only [h]
theorem rt__read_tuple (T : Txt K mg) (M : Xk.MalT P K mg s_Mal T.C_Malformed T.f_Mal) (m : Nat) (ih : FnOk P w K mg base (L2.CX P w) (3 + m + m) T.f__read_data T.d__read_data ["octets", "at", "room"] (sp__read_data K T.C_Malformed m)) : FnOk P w K mg base (L2.CX P w) (3 + m + m + 1) T.f__read_tuple T.d__read_tuple ["octets", "at", "room"] (sp__read_tuple K T.C_Malformed m) := by
  refine T.F__read_tuple.okX sc__read_tuple (fun vs H Q E h => ?_) (fun cdv A outer s H vs Q E hr h => ?_)
  · obtain ⟨a, xs, i, r, rfl, _⟩ := h
    rfl
  obtain ⟨a, xs, i, r, rfl, ha, hl, hO, hrm, q1, q2⟩ := h
  refine ⟨_, (Evl.pss_cut (ps_if (pt_cmpR op_eq (pv 2) (pe_int) (nomark _)) (pss_one (Xk.ps_raiseM rfl M mal_text hr (takes_of rfl rfl rfl rfl) (pa_cons (pe_str) pa_nil))) pss_nil)
      (pss_cons (ps_asg (pe_callS (ok__read_sevens T M) (hr.mono (by first | exact Nat.le_refl _ | (simp only [Nat.add_eq]; omega) | omega | decide)) (by rfl) T.g__read_sevens T.F__read_sevens.kp T.b__read_sevens (fun σ => passAt (takes_of rfl rfl rfl rfl) σ) (pa_cons (pv 0) (pa_cons (pv 1) pa_nil))) (pg_tup rfl (pgs_cons (pg_name (i := 3) sc__read_tuple.nd rfl (Or.inl rfl)) (pgs_cons (pg_name (i := 4) sc__read_tuple.nd rfl (Or.inl rfl)) pgs_nil))))
      (pss_cons (ps_set (i := 5) sc__read_tuple.nd rfl (Or.inl rfl) (pe_lst pa_nil))
      (pss_cons (ps_for (passes_of rfl) rfl (Xk.pi_range1W (by rfl) T.m_range (pa_cons (pv 3) pa_nil)) (pg_name (i := 6) sc__read_tuple.nd rfl (Or.inl rfl)) (pss_cons (ps_asg (pe_callS ih (hr.mono (by first | exact Nat.le_refl _ | (simp only [Nat.add_eq]; omega) | omega | decide)) (by rfl) T.g__read_data T.F__read_data.kp T.b__read_data (fun σ => passAt (takes_of rfl rfl rfl rfl) σ) (pa_cons (pv 0) (pa_cons (pv 4) (pa_cons (pe_op op_sub (pv 2) (pe_int)) pa_nil)))) (pg_tup rfl (pgs_cons (pg_name (i := 7) sc__read_tuple.nd rfl (Or.inl rfl)) (pgs_cons (pg_name (i := 4) sc__read_tuple.nd rfl (Or.inl rfl)) pgs_nil))))
      (pss_one (ps_expr (pe_bm PySem.F.plainAttrs_list PySem.F.slot_list_append PySem.F.type_list_append mt_append (pv 5) (pa_cons (pv 7) pa_nil))))))
      (pss_one (ps_ret (pe_tup (pa_cons (pe_callTy (Xk.k_tuple (K := K) (by rfl)) (by rfl) T.m_tuple (by decide +kernel) (pa_cons (pv 5) pa_nil)) (pa_cons (pv 4) pa_nil))))))))), ?_⟩
  wtm_at "x0"
  cases r with
  | zero =>
    refine Xk.x_nocut ?_
    wtm_at "xs"
    exact mlE_raise (q2 rfl)
  | succ k =>
  have hr0 : ¬ (V.int ((k + 1 : Nat) : Int) = V.int 0) := fun z => by
    injection z with z
    omega
  refine fall ?_ ?_
  · wtm_at "xs"
    exact ⟨rfl, rfl⟩
  rw [up_succ] at q1 q2
  wtm_at "xs"
  refine ⟨a, xs, i, rfl, ha, hl, hO, fun n s' hn H1 p hp1 s1 e1 => ?_, fun hn => q2 (rdU_none hn)⟩
  rw [rdU_some hn] at q1 q2
  have hn0 := rdS_pos (fun x hx => hO x (List.mem_of_mem_drop hx)) hn
  obtain ⟨hsuf, hlt⟩ := rdS_suf hn
  have hdr := suf_of hsuf
  rw [drop_len] at hlt
  obtain ⟨st, hst⟩ : ∃ st, xs.length - s'.length = st := ⟨_, rfl⟩
  rw [hst] at hdr e1
  wtm_at "xs"
  intro p2 H2 hp2 s2 e2
  wtm_at "xs"
  obtain ⟨R, hR⟩ : ∃ R, R = its (rdD false k) n.toNat s' [] := ⟨_, rfl⟩
  rw [← hR] at q1 q2
  refine Xk.x_rangeW (fun j σ' H' => ∃ (e : Nat) (acc : List PyData) (vs : List V) (y1 y2 : Option V), σ' = [some (.ref a), some (.int (i : Int)), some (.int ((k + 1 : Nat) : Int)), some (.int n), some (.int (e : Int)), some (.ref p2), y1, y2] ∧ Same H H' ∧ H' p2 = some (.lst vs) ∧ Xk.PkAll K H' k vs acc ∧ e ≤ xs.length ∧ acc.length + 1 ≤ e ∧ R = its (rdD false k) (n.toNat - j) (xs.drop e) acc) hn0 ⟨st, [], [], _, _, rfl, s1.trans s2, e2, Xk.pk_nil, by omega, by rw [List.length_nil]; omega, by rw [hR, hdr]; rfl⟩ ?_ ?_
  · rintro j σ' H' hj ⟨e, acc, vs, y1, y2, rfl, sH, hp2', hpk, he, hac, hR⟩
    have hvl := hpk.len
    obtain ⟨f, hf⟩ : ∃ f, n.toNat - j = f + 1 := ⟨n.toNat - j - 1, by omega⟩
    rw [hf] at hR
    obtain ⟨m, rfl⟩ : ∃ m2, m = m2 + 1 := ⟨m - 1, by omega⟩
    have haH := Xk.sq_same ha sH
    wtm_at "xs"
    refine ⟨m, rfl, a, xs, e, k, by rw [show (((k + 1 : Nat) : Int) - 1) = (k : Int) by omega], haH, hl, hO, by omega, fun d s2' hd H4 p4 v hp4 s4 e4 hv => ?_, fun hd => (q2 (by rw [hR, its_none hd]; rfl)).same sH⟩
    have hp4' := s4 _ _ hp2'
    obtain ⟨k1, k2, k3, k4⟩ := rdD_ok false k _ d s2' (by rw [drop_len]; omega) hd
    rw [drop_len] at k2
    rw [its_some hd] at hR
    have hz9 : vs.length < 100000 := by omega
    wtm_at "xs"
    refine ⟨xs.length - s2'.length, acc ++ [d], vs ++ [v], _, _, rfl, Xk.same_mut (sH.trans s4) (by wtm_at "free"), upd_same, Xk.pk_snoc ((hpk.same s4).st (Xk.tt_mutL (K := K) hp4')) (hv.st (Xk.tt_mutL (K := K) hp4')), by omega, by rw [List.length_append, List.length_singleton]; omega, ?_⟩
    rw [hR, suf_of k1, show n.toNat - (j + 1) = f by omega]
  · rintro σ' H' ⟨e, acc, vs, y1, y2, rfl, sH, hp2', hpk, he, hac, hR⟩
    rw [Nat.sub_self, its_0] at hR
    wtm_at "xs"
    intro p3 H3 hp3 s3 e3
    wtm_at "xs"
    intro p4 H4 hp4 s4 e4
    refine q1 (.tuple acc) (xs.drop e) (by rw [hR]; rfl) H4 p4 (.ref p3) (by wtm_at "free") (by wtm_at "sm") ?_ (Xk.pk_tup (Xk.st_of (s4 _ _ e3)) ((hpk.same s3).same s4))
    rw [e4, drop_len, show xs.length - (xs.length - e) = e by omega]
--CUT--
theorem okr__read_data (T : Txt K mg) (M : Xk.MalT P K mg s_Mal T.C_Malformed T.f_Mal) : ∀ m : Nat, FnOk P w K mg base (L2.CX P w) (3 + m + m) T.f__read_data T.d__read_data ["octets", "at", "room"] (sp__read_data K T.C_Malformed m)
  | 0 => by
    have no : ∀ vs H Q E, ¬ sp__read_data K T.C_Malformed 0 vs H Q E := fun vs H Q E h => by
      obtain ⟨n, e, _⟩ := h
      cases e
    exact ⟨fun vs H Q E h => absurd h (no vs H Q E), fun A outer s H args us vs Q E _ _ _ _ h => absurd h (no vs H Q E)⟩
  | m + 1 => by
    have ih := okr__read_data T M m
    refine T.F__read_data.okX sc__read_data (fun vs H Q E h => ?_) (fun cdv A outer s H vs Q E hr h => ?_)
    · obtain ⟨n, _, a, xs, i, r, rfl, _⟩ := h
      rfl
    obtain ⟨n, en, a, xs, i, r, rfl, ha, hl, hO, hrn, q1, q2⟩ := h
    obtain rfl : n = m := by omega
    refine ⟨_, (pss_cons (ps_set (i := 3) sc__read_data.nd rfl (Or.inl rfl) (pe_callS (ok__octet_at T M) (hr.mono (by first | exact Nat.le_refl _ | (simp only [Nat.add_eq]; omega) | omega | decide)) (by rfl) T.g__octet_at T.F__octet_at.kp T.b__octet_at (fun σ => passAt (takes_of rfl rfl rfl rfl) σ) (pa_cons (pv 0) (pa_cons (pv 1) pa_nil))))
      (Evl.pss_cut (ps_if (pt_cmpR op_eq (pv 3) (pe_glob (by rfl) T.g_NOTHING Xk.rel_int) (nomark _)) (pss_one (ps_ret (pe_tup (pa_cons (pe_non) (pa_cons (pe_op op_add (pv 1) (pe_int)) pa_nil))))) pss_nil)
      (Evl.pss_cut (ps_if (PW.pt (pw_or (pt_cmpR op_eq (pv 3) (pe_glob (by rfl) T.g_FROM_ZERO Xk.rel_int) (nomark _)) (pw_or1 (pt_cmpR op_eq (pv 3) (pe_glob (by rfl) T.g_BELOW_ZERO Xk.rel_int) (nomark _))))) (pss_one (ps_ret (pe_callS (ok__read_integer T M) (hr.mono (by first | exact Nat.le_refl _ | (simp only [Nat.add_eq]; omega) | omega | decide)) (by rfl) T.g__read_integer T.F__read_integer.kp T.b__read_integer (fun σ => passAt (takes_of rfl rfl rfl rfl) σ) (pa_cons (pv 0) (pa_cons (pv 1) pa_nil))))) pss_nil)
      (Evl.pss_cut (ps_if (pt_cmpR op_eq (pv 3) (pe_glob (by rfl) T.g_TEXT Xk.rel_int) (nomark _)) (pss_one (ps_ret (pe_callS (ok__read_text T M) (hr.mono (by first | exact Nat.le_refl _ | (simp only [Nat.add_eq]; omega) | omega | decide)) (by rfl) T.g__read_text T.F__read_text.kp T.b__read_text (fun σ => passAt (takes_of rfl rfl rfl rfl) σ) (pa_cons (pv 0) (pa_cons (pe_op op_add (pv 1) (pe_int)) pa_nil))))) pss_nil)
      (Evl.pss_cut (ps_if (pt_cmpR op_eq (pv 3) (pe_glob (by rfl) T.g_TUPLE Xk.rel_int) (nomark _)) (pss_one (ps_ret (pe_callS (rt__read_tuple T M n ih) (hr.mono (by first | exact Nat.le_refl _ | (simp only [Nat.add_eq]; omega) | omega | decide)) (by rfl) T.g__read_tuple T.F__read_tuple.kp T.b__read_tuple (fun σ => passAt (takes_of rfl rfl rfl rfl) σ) (pa_cons (pv 0) (pa_cons (pe_op op_add (pv 1) (pe_int)) (pa_cons (pv 2) pa_nil)))))) pss_nil)
      (pss_one (Xk.ps_raiseM rfl M mal_text hr (takes_of rfl rfl rfl rfl) (pa_cons (pe_str) pa_nil)))))))), ?_⟩
    wtm_at "x0"
    wtm_at "xs"
    obtain ⟨s, hs⟩ : ∃ s, xs.drop i = s := ⟨_, rfl⟩
    have hsl : s.length = xs.length - i := by rw [← hs, drop_len]
    rw [hs] at q1 q2
    cases s with
    | nil =>
      rw [List.length_nil] at hsl
      refine ⟨a, xs, i, rfl, ha, hl, fun x hx => ?_, fun _ => q2 rfl⟩
      have := Xk.at_lt hx
      omega
    | cons c u =>
      obtain ⟨hd1, hil, hc⟩ := drop_suc hs
      refine ⟨a, xs, i, rfl, ha, hl, fun x hx => ?_, fun h => absurd hil (by omega)⟩
      rw [hc] at hx
      cases hx
      rw [List.length_cons] at hsl
      unfold rdD at q1 q2
      rw [rdC_cons] at q1 q2
      wtm_at "xs"
      by_cases c0 : c = 0
      · have e0 : V.int c = V.int 0 := by rw [c0]
        rw [if_pos c0] at q1
        refine Xk.x_nocut ?_
        wtm_at "xs"
        intro p H1 hp1 s1 h1
        refine q1 .none u rfl H1 p .non hp1 s1 ?_ Xk.pk_non
        rw [h1, show xs.length - u.length = i + 1 by omega]
        rfl
      have n0 : ¬ (V.int c = V.int 0) := fun e => c0 (by injection e)
      rw [if_neg c0] at q1 q2
      refine fall ?_ ?_
      · wtm_at "xs"
        exact ⟨rfl, rfl⟩
      by_cases c12 : c = 1 ∨ c = 2
      · rw [if_pos c12] at q1 q2
        unfold rdN at q1 q2
        refine Xk.x_cut (fun _ _ => False) ?_ (fun _ _ h => h.elim)
        have go : sp__read_integer K T.C_Malformed [.ref a, .int (i : Int)] H Q E := by
          refine ⟨a, xs, i, c, u, rfl, ha, hl, hO, hs, c12, fun n s' hn H1 p hp1 s1 h1 => ?_, fun hn => q2 (by rw [hn])⟩
          rw [hn] at q1
          dsimp only at q1
          rw [if_neg (fun z => by cases z.1)] at q1
          exact q1 _ s' rfl H1 p (.int (num c n)) hp1 s1 h1 Xk.pk_int
        by_cases c1 : c = 1
        · have e1 : V.int c = V.int 1 := by rw [c1]
          wtm_at "xs"
          exact go
        · have e1 : ¬ (V.int c = V.int 1) := fun e => c1 (by injection e)
          have e2 : V.int c = V.int 2 := by rw [c12.resolve_left c1]
          wtm_at "xs"
          exact go
      rw [if_neg c12] at q1 q2
      have n1 : ¬ (V.int c = V.int 1) := fun e => c12 (.inl (by injection e))
      have n2 : ¬ (V.int c = V.int 2) := fun e => c12 (.inr (by injection e))
      refine fall ?_ ?_
      · wtm_at "xs"
        exact ⟨rfl, rfl⟩
      by_cases c3 : c = 3
      · have e3 : V.int c = V.int 3 := by rw [c3]
        rw [if_pos c3] at q1 q2
        refine Xk.x_nocut ?_
        wtm_at "xs"
        refine ⟨a, xs, i + 1, by rfl, ha, hl, hO, fun x s' hx H1 p hp1 s1 h1 => ?_, fun hx => q2 (by rw [← hd1, hx]; rfl)⟩
        rw [hd1] at hx
        have hxa := (rdX_ok hx).2.2
        wtm_at "xs"
        exact q1 _ s' (by rw [hx]; rfl) H1 p _ hp1 s1 h1 (Xk.pk_str (Xk.lay_str (okC_tx hxa)))
      have n3 : ¬ (V.int c = V.int 3) := fun e => c3 (by injection e)
      rw [if_neg c3] at q1 q2
      refine fall ?_ ?_
      · wtm_at "xs"
        exact ⟨rfl, rfl⟩
      by_cases c4 : c = 4
      · have e4 : V.int c = V.int 4 := by rw [c4]
        rw [if_pos c4] at q1 q2
        refine Xk.x_nocut ?_
        wtm_at "xs"
        refine ⟨a, xs, i + 1, r, by rfl, ha, hl, hO, hrn, fun d s' hd H1 p v hp1 s1 h1 hv => ?_, fun hd => q2 (by rw [← hd1]; exact hd)⟩
        rw [hd1] at hd
        wtm_at "xs"
        exact q1 d s' hd H1 p v hp1 s1 h1 hv
      have n4 : ¬ (V.int c = V.int 4) := fun e => c4 (by injection e)
      rw [if_neg c4] at q2
      refine fall ?_ ?_
      · wtm_at "xs"
        exact ⟨rfl, rfl⟩
      wtm_at "xs"
      exact mlE_raise (q2 rfl)
theorem ok__read_data (T : Txt K mg) (M : Xk.MalT P K mg s_Mal T.C_Malformed T.f_Mal) : FnOk P w K mg base (L2.CX P w) 87 T.f__read_data T.d__read_data ["octets", "at", "room"] (sp__read_data K T.C_Malformed 42) := okr__read_data T M 42
--CUT--
theorem greatAll_any : ∀ ds : List PyData, greatAll ds = (ds.map great).any id
  | [] => by rw [greatAll]; rfl
  | d :: ds => by rw [greatAll, List.map_cons, List.any_cons, greatAll_any ds]; rfl
theorem great_none : great .none = false := by simp [great]
theorem great_str (z : Str) : great (.str z) = false := by simp [great]
theorem great_int (i : Int) : great (.int i) = big i := by simp [great]
theorem great_tup (ds : List PyData) : great (.tuple ds) = greatAll ds := by simp [great]
def sp__has_great_integer (K : PySem.W.Frag) (m : Nat) : Sp := fun vs H Q _ => ∃ n, m = n + 1 ∧ ∃ (v : V) (d : PyData), vs = [v] ∧ Xk.Pk K H n v d ∧ Gq d ∧ ∀ H', Same H H' → Q (.bl (great d)) H'
theorem okr__has_great_integer (T : Txt K mg) : ∀ m : Nat, FnOk P w K mg base CX0 (2 + m) T.f__has_great_integer T.d__has_great_integer ["data"] (sp__has_great_integer K m)
  | 0 => by
    have no : ∀ vs H Q E, ¬ sp__has_great_integer K 0 vs H Q E := fun vs H Q E h => by
      obtain ⟨n, e, _⟩ := h
      cases e
    exact ⟨fun vs H Q E h => absurd h (no vs H Q E), fun A outer s H args us vs Q E _ _ _ _ h => absurd h (no vs H Q E)⟩
  | m + 1 => by
    have ih := okr__has_great_integer T m
    refine T.F__has_great_integer.ok sc__has_great_integer (fun vs H Q E h => ?_) (fun cdv A outer s H vs Q E hr h => ?_)
    · obtain ⟨n, _, v, d, rfl, _⟩ := h
      rfl
    obtain ⟨n, en, v, d, rfl, hv, hg, q⟩ := h
    obtain rfl : n = m := by omega
    refine ⟨_, (Evl.pss_cut (ps_if (pt_val (pe_callB (Xk.k_isi (K := K) (by rfl)) (by rfl) T.m_isinstance (by decide +kernel) (pa_cons (pv 0) (pa_cons (pe_bltn (v := .ty "tuple") (u := .type "tuple") (by rfl) T.m_tuple (by decide +kernel) Xk.rel_ty) pa_nil)))) (pss_one (ps_ret (pe_callB (Xk.k_any (K := K) rfl (by rfl)) (by rfl) T.m_any (by decide +kernel) (pa_cons (pe_lc (own := [("item", 1)]) (g := gName 1) (tt := tYes) rfl sc__has_great_integer.nd  (pi_tup (pv 0)) (blkOk_by (N := N__has_great_integer) (sc := defScope s__has_great_integer) (own := [("item", 1)]) (by decide +kernel)) (fun _ _ _ _ _ => pg_name (i := 1) sc__has_great_integer.nd rfl (Or.inl rfl)) (fun _ _ _ _ _ => pts_nil) (fun _ _ _ _ _ => (pe_call ih (hr.mono (by first | exact Nat.le_refl _ | (simp only [Nat.add_eq]; omega) | omega | decide)) (by rfl) T.g__has_great_integer T.F__has_great_integer.kp T.b__has_great_integer .nil pass0 (pa_cons (pv 1) pa_nil)))) pa_nil)))) pss_nil)
      (pss_one (ps_ret ((pe_and (pe_callB (Xk.k_isi (K := K) (by rfl)) (by rfl) T.m_isinstance (by decide +kernel) (pa_cons (pv 0) (pa_cons (pe_bltn (v := .ty "int") (u := .type "int") (by rfl) T.m_int (by decide +kernel) Xk.rel_ty) pa_nil))) (pe_one (pe_not (pe_chain op_le op_le (pe_un un_neg (pe_glob (by rfl) T.g_MOST_INTEGER Xk.rel_int)) (pv 0) (pe_glob (by rfl) T.g_MOST_INTEGER Xk.rel_int))))))))), ?_⟩
    obtain ⟨h1, h2, h3⟩ := hv
    wtm_at "x0"
    cases d with
    | bool b => simp only [Gq] at hg
    | list ds => simp only [Gq] at hg
    | dict ds => simp only [Gq] at hg
    | none =>
      cases h1
      refine fall ?_ ?_
      · wtm_at "xs"
        exact ⟨rfl, rfl⟩
      rw [great_none] at q
      wtm_at "xs"
      exact q _ (Same.refl _)
    | int i =>
      cases h1
      refine fall ?_ ?_
      · wtm_at "xs"
        exact ⟨rfl, rfl⟩
      rw [great_int] at q
      unfold big at q
      by_cases g1 : -1000000000000000000 ≤ i
      · by_cases g2 : i ≤ 1000000000000000000
        · rw [decide_eq_true (And.intro g1 g2)] at q
          wtm_at "xs"
          rw [decide_eq_true g2]
          exact q _ (Same.refl _)
        · rw [decide_eq_false (fun z => g2 z.2)] at q
          wtm_at "xs"
          rw [decide_eq_false g2]
          exact q _ (Same.refl _)
      · rw [decide_eq_false (fun z => g1 z.1)] at q
        wtm_at "xs"
        exact q _ (Same.refl _)
    | str z =>
      cases h1
      refine fall ?_ ?_
      · wtm_at "xs"
        exact ⟨rfl, rfl⟩
      rw [great_str] at q
      wtm_at "xs"
      exact q _ (Same.refl _)
    | tuple ds =>
      cases h1 with
      | @tup p vs _ hs hd =>
        simp only [Gq] at hg
        rw [great_tup, greatAll_any] at q
        refine Xk.x_cut (fun _ _ => False) ?_ (fun _ _ h => h.elim)
        wtm_at "xs"
        refine Xk.x_isi (tyx_st hs) (Xk.kit_T (by decide +kernel)) ?_
        wtm_at "xs"
        obtain ⟨n2, rfl⟩ : ∃ n2, n = n2 + 1 := ⟨n - 1, by have h4 : PyData.depthAll ds + 1 ≤ n := h3; omega⟩
        have hpk : Xk.PkAll K H n2 vs ds := ⟨hd, h2, by have h4 : PyData.depthAll ds + 1 ≤ n2 + 1 := h3; omega⟩
        have hvl := hpk.len
        refine Xk.x_lcT (fun Dl i H' => Same H H' ∧ H' Dl = some (.lst (((ds.take i).map great).map V.bl))) hs ?_ ?_ ?_ ?_
        · intro Dl hD
          exact ⟨Xk.same_fr hD, upd_same⟩
        · rintro Dl i H' hD ⟨s3, h3⟩
          exact Xk.st_same hs s3
        · rintro Dl hD j x H' hi ⟨s3, h3⟩
          obtain ⟨d, hd1, hd2⟩ := hpk.at hi
          have hj := Xk.at_lt hd1
          wtm_at "xs"
          refine ⟨rfl, ?_⟩
          wtm_at "xs"
          refine ⟨n2, rfl, x, d, rfl, hd2.same s3, gqAll_at hg.2 hd1, fun H4 s4 => ?_⟩
          wtm_at "xs"
          exact ⟨_, s4 _ _ h3, Xk.size_lt (by simp only [List.length_map, List.length_take]; omega), Xk.same_mut (s3.trans s4) hD, by rw [upd_same, List.take_add_one, hd1, List.map_append, List.map_append]; rfl⟩
        · rintro Dl H' hD ⟨s3, h3⟩
          rw [hvl, List.take_length] at h3
          wtm_at "xs"
          refine Xk.x_any (bs := ds.map great) (Xk.sq_of h3) ?_
          exact q _ s3
theorem ok__has_great_integer (T : Txt K mg) : FnOk P w K mg base CX0 44 T.f__has_great_integer T.d__has_great_integer ["data"] (sp__has_great_integer K 42) := okr__has_great_integer T 42
def sp__read_whole (K : PySem.W.Frag) (C : Addr) : Sp := fun vs H Q E => ∃ (a : Addr) (xs : List Int), vs = [.ref a, .int 40] ∧ SqL K H a (xs.map V.int) ∧ xs.length ≤ 100000 ∧ Oc xs ∧
  (∀ d, rdD false 40 xs = some (d, []) → ∀ H' v, Same H H' → Xk.Pk K H' 40 v d → Q v H') ∧ ((∀ d, rdD false 40 xs ≠ some (d, [])) → MlE C E H)
theorem ok__read_whole (T : Txt K mg) (M : Xk.MalT P K mg s_Mal T.C_Malformed T.f_Mal) : FnOk P w K mg base (L2.CX P w) 88 T.f__read_whole T.d__read_whole ["octets", "room"] (sp__read_whole K T.C_Malformed) := by
  refine T.F__read_whole.okX sc__read_whole (fun vs H Q E h => ?_) (fun cdv A outer s H vs Q E hr h => ?_)
  · obtain ⟨a, xs, rfl, _⟩ := h
    rfl
  obtain ⟨a, xs, rfl, ha, hl, hO, q1, q2⟩ := h
  refine ⟨_, (pss_cons (ps_asg (pe_callS (ok__read_data T M) (hr.mono (by decide)) (by rfl) T.g__read_data T.F__read_data.kp T.b__read_data (fun σ => passAt (takes_of rfl rfl rfl rfl) σ) (pa_cons (pv 0) (pa_cons (pe_int) (pa_cons (pv 1) pa_nil)))) (pg_tup rfl (pgs_cons (pg_name (i := 2) sc__read_whole.nd rfl (Or.inl rfl)) (pgs_cons (pg_name (i := 3) sc__read_whole.nd rfl (Or.inl rfl)) pgs_nil))))
      (Evl.pss_cut (ps_if (pt_cmpR op_lt (pv 3) (pe_callB (Xk.k_len (K := K) (by rfl)) (by rfl) T.m_len PySem.boot_len (pa_cons (pv 0) pa_nil)) (nomark _)) (pss_one (Xk.ps_raiseM rfl M mal_text hr (takes_of rfl rfl rfl rfl) (pa_cons (pe_str) pa_nil))) pss_nil)
      (pss_one (ps_ret (pv 2))))), ?_⟩
  wtm_at "x0"
  wtm_at "xs"
  refine ⟨41, rfl, a, xs, 0, 40, by rfl, ha, hl, hO, by omega, fun d s' hd H1 p v hp1 s1 e1 hv => ?_, fun hd => q2 fun d h => by rw [List.drop_zero, h] at hd; cases hd⟩
  rw [List.drop_zero] at hd
  have ha1 := Xk.sq_same ha s1
  obtain ⟨k1, k2, k3, k4⟩ := rdD_ok false 40 _ d s' hl hd
  wtm_at "xs"
  cases s' with
  | nil =>
    have hb : ¬ (((xs.length - ([] : List Int).length : Nat) : Int) < ((xs.map V.int).length : Int)) := by rw [List.length_map, List.length_nil]; omega
    refine fall ?_ ?_
    · wtm_at "xs"
      exact ⟨rfl, rfl⟩
    wtm_at "xs"
    exact q1 d hd H1 v s1 hv
  | cons c r =>
    have hb : (((xs.length - (c :: r).length : Nat) : Int) < ((xs.map V.int).length : Int)) := by rw [List.length_map]; rw [List.length_cons] at k2 ⊢; omega
    refine Xk.x_nocut ?_
    wtm_at "xs"
    exact mlE_raise ((q2 fun d2 h2 => by rw [hd] at h2; cases h2).same s1)
def sp_unpack (K : PySem.W.Frag) (C : Addr) : Sp := fun vs H Q E => ∃ (a : Addr) (xs : List Int), vs = [.ref a] ∧ SqL K H a (xs.map V.int) ∧ xs.length ≤ 100000 ∧ Oc xs ∧
  (∀ d, rdW xs = some d → ∀ H' v, Same H H' → Xk.Pk K H' 40 v d → Q v H') ∧ (rdW xs = none → MlE C E H)
theorem rdW_none {xs : List Int} (h : ∀ d, rdD false 40 xs ≠ some (d, [])) : rdW xs = none := by
  unfold rdW
  cases e : rdD false 40 xs with
  | none => rfl
  | some p =>
    obtain ⟨d, s'⟩ := p
    cases s' with
    | nil => exact absurd e (h d)
    | cons c r => rfl
theorem rdW_some {xs : List Int} {d : PyData} (h : rdD false 40 xs = some (d, [])) : rdW xs = if great d = true then none else some d := by
  unfold rdW
  rw [h]
  rfl
theorem ok_unpack (T : Txt K mg) (M : Xk.MalT P K mg s_Mal T.C_Malformed T.f_Mal) : FnOk P w K mg base (L2.CX P w) 89 T.f_unpack T.d_unpack ["octets"] (sp_unpack K T.C_Malformed) := by
  refine T.F_unpack.okX sc_unpack (fun vs H Q E h => ?_) (fun cdv A outer s H vs Q E hr h => ?_)
  · obtain ⟨a, xs, rfl, _⟩ := h
    rfl
  obtain ⟨a, xs, rfl, ha, hl, hO, q1, q2⟩ := h
  refine ⟨_, (pss_cons (ps_set (i := 1) sc_unpack.nd rfl (Or.inl rfl) (pe_callS (ok__read_whole T M) (hr.mono (by decide)) (by rfl) T.g__read_whole T.F__read_whole.kp T.b__read_whole (fun σ => passAt (takes_of rfl rfl rfl rfl) σ) (pa_cons (pv 0) (pa_cons (pe_glob (by rfl) T.g_MOST_DEPTH Xk.rel_int) pa_nil))))
      (Evl.pss_cut (ps_if (pt_val (pe_call (ok__has_great_integer T) (hr.mono (by decide)) (by rfl) T.g__has_great_integer T.F__has_great_integer.kp T.b__has_great_integer .nil pass0 (pa_cons (pv 1) pa_nil))) (pss_one (Xk.ps_raiseM rfl M mal_text hr (takes_of rfl rfl rfl rfl) (pa_cons (pe_str) pa_nil))) pss_nil)
      (pss_one (ps_ret (pv 1))))), ?_⟩
  wtm_at "x0"
  wtm_at "xs"
  refine ⟨a, xs, rfl, ha, hl, hO, fun d hd H1 v s1 hv => ?_, fun hd => q2 (rdW_none hd)⟩
  have k3 := (rdD_ok false 40 _ d [] hl hd).2.2.1
  rw [rdW_some hd] at q1 q2
  wtm_at "xs"
  cases hg : great d with
  | true =>
    rw [hg, if_pos rfl] at q2
    refine Xk.x_nocut ?_
    wtm_at "xs"
    refine ⟨41, rfl, v, d, rfl, hv.mono (by decide), k3, fun H2 s2 => ?_⟩
    rw [hg]
    wtm_at "xs"
    exact mlE_raise ((q2 rfl).same (s1.trans s2))
  | false =>
    rw [hg, if_neg (by decide)] at q1
    refine Xk.x_cut (fun σ2 H2 => Same H1 H2 ∧ σ2 = [some (.ref a), some v]) ?_ ?_
    · wtm_at "xs"
      refine ⟨41, rfl, v, d, rfl, hv.mono (by decide), k3, fun H2 s2 => ?_⟩
      rw [hg]
      wtm_at "xs"
      exact ⟨s2, rfl⟩
    rintro σ2 H2 ⟨s2, rfl⟩
    wtm_at "xs"
    exact q1 d rfl H2 v (s1.trans s2) (hv.same s2)
--CUT--
def sp__law_alike (K : PySem.W.Frag) (m : Nat) : Sp := fun vs H Q _ => ∃ n, m = n + 1 ∧ ∃ (x y : V) (d : PyData), vs = [x, y] ∧ n ≤ 41 ∧ Xk.Pk K H n x d ∧ Xk.Pk K H n y d ∧ Gq d ∧ Q (.bl true) H
theorem okr__law_alike (T : Txt K mg) : ∀ m : Nat, FnOk P w K mg base CX0 (2 + m) T.f__law_alike T.d__law_alike ["actual", "due"] (sp__law_alike K m)
  | 0 => by
    have no : ∀ vs H Q E, ¬ sp__law_alike K 0 vs H Q E := fun vs H Q E h => by
      obtain ⟨n, e, _⟩ := h
      cases e
    exact ⟨fun vs H Q E h => absurd h (no vs H Q E), fun A outer s H args us vs Q E _ _ _ _ h => absurd h (no vs H Q E)⟩
  | m + 1 => by
    have ih := okr__law_alike T m
    refine T.F__law_alike.ok sc__law_alike (fun vs H Q E h => ?_) (fun cdv A outer s H vs Q E hr h => ?_)
    · obtain ⟨n, _, x, y, d, rfl, _⟩ := h
      rfl
    obtain ⟨n, en, x, y, d, rfl, hn, hx, hy, hg, q⟩ := h
    obtain rfl : n = m := by omega
    refine ⟨_, (Evl.pss_cut (ps_if (pt_cmpR Xk.op_nIsN (pv 1) (pe_non) (nomark _)) (pss_one (ps_ret (pe_cmpR Xk.op_nIsN (pv 0) (pe_non) (nomark _)))) pss_nil)
      (Evl.pss_cut (ps_if (pt_val (pe_callB (Xk.k_isi (K := K) (by rfl)) (by rfl) T.m_isinstance (by decide +kernel) (pa_cons (pv 1) (pa_cons (pe_bltn (v := .ty "int") (u := .type "int") (by rfl) T.m_int (by decide +kernel) Xk.rel_ty) pa_nil)))) (pss_one (ps_ret ((pe_and (pe_callB (Xk.k_isi (K := K) (by rfl)) (by rfl) T.m_isinstance (by decide +kernel) (pa_cons (pv 0) (pa_cons (pe_bltn (v := .ty "int") (u := .type "int") (by rfl) T.m_int (by decide +kernel) Xk.rel_ty) pa_nil))) (pe_and (pe_not (pe_callB (Xk.k_isi (K := K) (by rfl)) (by rfl) T.m_isinstance (by decide +kernel) (pa_cons (pv 0) (pa_cons (pe_bltn (v := .ty "bool") (u := .type "bool") (by rfl) T.m_bool (by decide +kernel) Xk.rel_ty) pa_nil)))) (pe_one (pe_cmpR (Xk.k_eqD (K := K) hr.units (by rfl)) (pv 0) (pv 1) (nomark _)))))))) pss_nil)
      (Evl.pss_cut (ps_if (pt_val (pe_callB (Xk.k_isi (K := K) (by rfl)) (by rfl) T.m_isinstance (by decide +kernel) (pa_cons (pv 1) (pa_cons (pe_bltn (v := .ty "str") (u := .type "str") (by rfl) T.m_str (by decide +kernel) Xk.rel_ty) pa_nil)))) (pss_one (ps_ret ((pe_and (pe_callB (Xk.k_isi (K := K) (by rfl)) (by rfl) T.m_isinstance (by decide +kernel) (pa_cons (pv 0) (pa_cons (pe_bltn (v := .ty "str") (u := .type "str") (by rfl) T.m_str (by decide +kernel) Xk.rel_ty) pa_nil))) (pe_one (pe_cmpR (Xk.k_eqD (K := K) hr.units (by rfl)) (pv 0) (pv 1) (nomark _))))))) pss_nil)
      (Evl.pss_cut (ps_if (PW.pt (pw_or (pt_not (pt_val (pe_callB (Xk.k_isi (K := K) (by rfl)) (by rfl) T.m_isinstance (by decide +kernel) (pa_cons (pv 0) (pa_cons (pe_bltn (v := .ty "tuple") (u := .type "tuple") (by rfl) T.m_tuple (by decide +kernel) Xk.rel_ty) pa_nil))))) (pw_or1 (pt_cmpR op_ne (pe_callB (Xk.k_len (K := K) (by rfl)) (by rfl) T.m_len PySem.boot_len (pa_cons (pv 0) pa_nil)) (pe_callB (Xk.k_len (K := K) (by rfl)) (by rfl) T.m_len PySem.boot_len (pa_cons (pv 1) pa_nil)) (nomark _))))) (pss_one (ps_ret (pe_bl))) pss_nil)
      (pss_cons (ps_for PassesOwn.never rfl (pi_range1 (by rfl) T.m_range (pa_cons (pe_callB (Xk.k_len (K := K) (by rfl)) (by rfl) T.m_len PySem.boot_len (pa_cons (pv 1) pa_nil)) pa_nil)) (pg_name (i := 2) sc__law_alike.nd rfl (Or.inl rfl)) (pss_one (ps_if (pt_not (pt_val (pe_call ih (hr.mono (by first | exact Nat.le_refl _ | (simp only [Nat.add_eq]; omega) | omega | decide)) (by rfl) T.g__law_alike T.F__law_alike.kp T.b__law_alike .nil pass0 (pa_cons (pe_ix (Xk.k_ixT (K := K) (by rfl)) (pv 0) (pv 2) (fun _ _ => rfl)) (pa_cons (pe_ix (Xk.k_ixT (K := K) (by rfl)) (pv 1) (pv 2) (fun _ _ => rfl)) pa_nil))))) (pss_one (ps_ret (pe_bl))) pss_nil)))
      (pss_one (ps_ret (pe_bl)))))))), ?_⟩
    have hx0 := hx
    have hy0 := hy
    obtain ⟨h1, h2, h3⟩ := hx
    obtain ⟨g1, g2, g3⟩ := hy
    wtm_at "x0"
    cases d with
    | bool b => simp only [Gq] at hg
    | list ds => simp only [Gq] at hg
    | dict ds => simp only [Gq] at hg
    | none =>
      cases h1
      cases g1
      refine Xk.x_cut (fun _ _ => False) ?_ (fun _ _ h => h.elim)
      wtm_at "xs"
      exact q
    | int i =>
      cases h1
      cases g1
      refine fall ?_ ?_
      · wtm_at "xs"
        exact ⟨rfl, rfl⟩
      refine Xk.x_cut (fun _ _ => False) ?_ (fun _ _ h => h.elim)
      wtm_at "xs"
      refine Xk.x_eqPk hx0 hy0 ?_ (by omega)
      wtm_at "xs"
      exact q
    | str z =>
      cases h1
      cases g1
      refine fall ?_ ?_
      · wtm_at "xs"
        exact ⟨rfl, rfl⟩
      refine fall ?_ ?_
      · wtm_at "xs"
        exact ⟨rfl, rfl⟩
      refine Xk.x_cut (fun _ _ => False) ?_ (fun _ _ h => h.elim)
      wtm_at "xs"
      refine Xk.x_eqPk hx0 hy0 ?_ (by omega)
      wtm_at "xs"
      exact q
    | tuple ds =>
      cases h1 with
      | @tup p vs _ hs hd =>
      cases g1 with
      | @tup p' vs' _ hs' hd' =>
        simp only [Gq] at hg
        obtain ⟨n2, rfl⟩ : ∃ n2, n = n2 + 1 := ⟨n - 1, by have h4 : PyData.depthAll ds + 1 ≤ n := h3; omega⟩
        have hpk : Xk.PkAll K H n2 vs ds := ⟨hd, h2, by have h4 : PyData.depthAll ds + 1 ≤ n2 + 1 := h3; omega⟩
        have hpk' : Xk.PkAll K H n2 vs' ds := ⟨hd', h2, by have h4 : PyData.depthAll ds + 1 ≤ n2 + 1 := h3; omega⟩
        have l1 := hpk.len
        have l2 := hpk'.len
        refine fall ?_ ?_
        · wtm_at "xs"
          exact ⟨rfl, rfl⟩
        refine fall ?_ ?_
        · wtm_at "xs"
          refine Xk.x_isi (tyx_st hs') (Xk.kit_F (by decide +kernel)) ?_
          wtm_at "xs"
          exact ⟨rfl, rfl⟩
        refine fall ?_ ?_
        · wtm_at "xs"
          refine Xk.x_isi (tyx_st hs') (Xk.kit_F (by decide +kernel)) ?_
          wtm_at "xs"
          exact ⟨rfl, rfl⟩
        refine fall ?_ ?_
        · wtm_at "xs"
          refine Xk.x_isi (tyx_st hs) (Xk.kit_T (by decide +kernel)) ?_
          have hll : V.int (vs.length : Int) = V.int (vs'.length : Int) := by rw [l1, l2]
          wtm_at "xs"
          exact ⟨rfl, rfl⟩
        wtm_at "xs"
        refine Xk.x_range (fun i σ' H' => H' = H ∧ ∃ y, σ' = [some (.ref p), some (.ref p'), y]) ⟨by omega, by omega⟩ ⟨rfl, _, rfl⟩ ?_ ?_
        · rintro i σ' H' hi ⟨rfl, y, rfl⟩
          obtain ⟨x1, hx1⟩ := Xk.lt_at (xs := vs) (j := i) (by omega)
          obtain ⟨x2, hx2⟩ := Xk.lt_at (xs := vs') (j := i) (by omega)
          obtain ⟨d, hd1, hd2⟩ := hpk.at hx1
          obtain ⟨d', hd1', hd2'⟩ := hpk'.at hx2
          obtain rfl : d = d' := Option.some.inj (hd1.symm.trans hd1')
          wtm_at "xs"
          refine ⟨n2, rfl, x1, x2, d, rfl, by omega, hd2, hd2', gqAll_at hg.2 hd1, ?_⟩
          wtm_at "xs"
          exact ⟨rfl, _, rfl⟩
        · rintro σ' H' ⟨rfl, y, rfl⟩
          wtm_at "xs"
          exact q
theorem ok__law_alike (T : Txt K mg) : FnOk P w K mg base CX0 44 T.f__law_alike T.d__law_alike ["actual", "due"] (sp__law_alike K 42) := okr__law_alike T 42
--CUT--
def sp__law_read_sevens (K : PySem.W.Frag) : Sp := fun vs H Q _ => ∃ (a : Addr) (xs : List Int) (i : Nat), vs = [.ref a, .int (i : Int)] ∧ SqL K H a (xs.map V.int) ∧ xs.length ≤ 100000 ∧ Oc xs ∧ i ≤ xs.length ∧
  (∀ n s', rdS true (xs.drop i) = some (n, s') → ∀ H' p, Xk.Fr p H → Same H H' → H' p = some (.lst [.int n, .int ((xs.length - s'.length : Nat) : Int)]) → Q (.ref p) H') ∧ (rdS true (xs.drop i) = none → Q .non H)
theorem ok__law_read_sevens (T : Txt K mg) : FnOk P w K mg base CX0 1 T.f__law_read_sevens T.d__law_read_sevens ["octets", "at"] (sp__law_read_sevens K) := by
  refine T.F__law_read_sevens.ok sc__law_read_sevens (fun vs H Q E h => ?_) (fun cdv A outer s H vs Q E hr h => ?_)
  · obtain ⟨a, xs, i, rfl, _⟩ := h
    rfl
  obtain ⟨a, xs, i, rfl, ha, hl, hO, hi, q1, q2⟩ := h
  refine ⟨_, (pss_cons (ps_set (i := 2) sc__law_read_sevens.nd rfl (Or.inl rfl) (pe_int))
      (pss_cons (ps_set (i := 3) sc__law_read_sevens.nd rfl (Or.inl rfl) (pe_int))
      (pss_cons (ps_for PassesOwn.never rfl (pi_range2 (by rfl) T.m_range (pa_cons (pv 1) (pa_cons (pe_callB (Xk.k_len (K := K) (by rfl)) (by rfl) T.m_len PySem.boot_len (pa_cons (pv 0) pa_nil)) pa_nil))) (pg_name (i := 4) sc__law_read_sevens.nd rfl (Or.inl rfl)) (pss_cons (ps_set (i := 2) sc__law_read_sevens.nd rfl (Or.inl rfl) (pe_op op_add (pv 2) (pe_op op_mul (pe_op op_mod (pe_callTy Xk.call_nInt (by rfl) T.m_int (by decide +kernel) (pa_cons (pe_ix (Xk.k_ixL (K := K) (by rfl)) (pv 0) (pv 4) (fun _ _ => rfl)) pa_nil)) (pe_int)) (pv 3))))
      (Evl.pss_cut (ps_if (pt_cmpR op_lt (pe_ix (Xk.k_ixL (K := K) (by rfl)) (pv 0) (pv 4) (fun _ _ => rfl)) (pe_int) (nomark _)) (Evl.pss_cut (ps_if (PW.pt (pw_and (pt_cmpR op_eq (pe_ix (Xk.k_ixL (K := K) (by rfl)) (pv 0) (pv 4) (fun _ _ => rfl)) (pe_int) (nomark _)) (pw_and1 (pt_cmpR op_gt (pv 4) (pv 1) (nomark _))))) (pss_one (ps_ret (pe_non))) pss_nil)
      (pss_one (ps_ret (pe_lst (pa_cons (pv 2) (pa_cons (pe_op op_add (pv 4) (pe_int)) pa_nil)))))) pss_nil)
      (pss_one (ps_set (i := 3) sc__law_read_sevens.nd rfl (Or.inl rfl) (pe_op op_mul (pv 3) (pe_int)))))))
      (pss_one (ps_ret (pe_non)))))), ?_⟩
  wtm_at "x0"
  wtm_at "xs"
  refine Xk.x_range2 (fun k σ' H' => H' = H ∧ ∃ (g sc : Int) (y : Option V), σ' = [some (.ref a), some (.int (i : Int)), some (.int g), some (.int sc), y] ∧ rdS true (xs.drop i) = (rdS (decide (k = 0)) (xs.drop (i + k))).map (fun p => (g + p.1 * sc, p.2))) ⟨by omega, by omega, by omega, by rw [List.length_map]; omega⟩ ⟨rfl, 0, 1, _, rfl, ?_⟩ ?_ ?_
  · rw [decide_eq_true rfl]
    cases rdS true (xs.drop i) with
    | none => rfl
    | some p =>
      show some p = some (0 + p.1 * 1, p.2)
      rw [Int.mul_one, Int.zero_add]
  · rintro k σ' H' hk ⟨rfl, g, sc, y, rfl, hR⟩
    rw [List.length_map] at hk
    rw [show (i : Int) + (k : Int) = ((i + k : Nat) : Int) by omega]
    obtain ⟨c, hc⟩ := Xk.lt_at (xs := xs) (j := i + k) (by omega)
    have hcv : (xs.map V.int)[i + k]? = some (.int c) := by rw [List.getElem?_map, hc]; rfl
    have hcb := hO c (List.mem_of_getElem? hc)
    have hdr : xs.drop (i + k) = c :: xs.drop (i + k + 1) := by
      have hj := Xk.at_lt hc
      rw [List.drop_eq_getElem_cons hj]
      rw [List.getElem?_eq_getElem hj] at hc
      rw [Option.some.inj hc]
    rw [hdr] at hR
    wtm_at "xs"
    by_cases hc8 : 128 ≤ c
    · have hn8 : ¬ (c < 128) := by omega
      rw [rdS_hi hc8, comp_map] at hR
      rw [show c % 128 = c - 128 by omega]
      refine fall ?_ ?_
      · wtm_at "xs"
        exact ⟨rfl, rfl⟩
      wtm_at "xs"
      refine ⟨rfl, g + (c - 128) * sc, sc * 128, _, rfl, ?_⟩
      rw [hR, decide_eq_false (show ¬ (k + 1 = 0) by omega)]
      rfl
    · have hn8 : c < 128 := by omega
      rw [rdS_lo hc8] at hR
      rw [show c % 128 = c by omega]
      refine Xk.x_nocut ?_
      wtm_at "xs"
      by_cases hz : c = 0 ∧ k ≠ 0
      · have hz0 : V.int c = V.int 0 := by rw [hz.1]
        have hji : (i : Int) < ((i + k : Nat) : Int) := by omega
        refine Xk.x_nocut ?_
        wtm_at "xs"
        exact q2 (by rw [hR, if_pos ⟨hz.1, decide_eq_false hz.2⟩]; rfl)
      · refine fall ?_ ?_
        · by_cases hz0 : c = 0
          · have hji : ¬ ((i : Int) < ((i + k : Nat) : Int)) := by
              have : k = 0 := by
                by_cases h : k = 0
                · exact h
                · exact absurd ⟨hz0, h⟩ hz
              omega
            have hz1 : V.int c = V.int 0 := by rw [hz0]
            wtm_at "xs"
            exact ⟨rfl, rfl⟩
          · have hz1 : ¬ (V.int c = V.int 0) := fun e => by
              injection e with e
              exact hz0 e
            wtm_at "xs"
            exact ⟨rfl, rfl⟩
        rw [if_neg (fun h => hz ⟨h.1, of_decide_eq_false h.2⟩)] at hR
        wtm_at "xs"
        intro p H1 hp1 s1 h1
        refine q1 (g + c * sc) (xs.drop (i + k + 1)) (by rw [hR]; rfl) H1 p hp1 s1 ?_
        rw [h1, drop_len, show xs.length - (xs.length - (i + k + 1)) = i + k + 1 by omega]
        rfl
  · rintro σ' H' ⟨rfl, g, sc, y, rfl, hR⟩
    wtm_at "xs"
    refine q2 ?_
    rw [hR, List.drop_eq_nil_of_le (by rw [List.length_map]; omega), rdS_nil]
    rfl
--CUT--
def sp__law_char (K : PySem.W.Frag) : Sp := fun vs H Q _ => ∃ c : Int, vs = [.int c] ∧ tI c = true ∧ Q (.str ⟨#[c.toNat]⟩) H
theorem ok__law_char (T : Txt K mg) : FnOk P w K mg base CX0 1 T.f__law_char T.d__law_char ["code"] (sp__law_char K) := by
  refine T.F__law_char.ok sc__law_char (fun vs H Q E h => ?_) (fun cdv A outer s H vs Q E hr h => ?_)
  · obtain ⟨c, rfl, _⟩ := h
    rfl
  obtain ⟨c, rfl, ht, q⟩ := h
  refine ⟨_, (pss_cons (ps_set (i := 1) sc__law_char.nd rfl (Or.inl rfl) (pe_str))
      (pss_cons (ps_set (i := 2) sc__law_char.nd rfl (Or.inl rfl) (pe_str))
      (Evl.pss_cut (ps_if (pt_cmpR op_lt (pv 0) (pe_int) (nomark _)) (pss_one (ps_ret (pe_ix ix_str (pv 1) (pe_op op_sub (pv 0) (pe_int)) (fun _ _ => rfl)))) pss_nil)
      (pss_one (ps_ret (pe_ix ix_str (pv 2) (pe_op op_sub (pv 0) (pe_int)) (fun _ _ => rfl))))))), ?_⟩
  wtm_at "x0"
  wtm_at "xs"
  have h1 := tI_tx ht
  have h0 := of_decide_eq_true ht
  rcases tx_where c.toNat h1 with ⟨g1, g2, g3⟩ | ⟨g1, g2, g3⟩
  · have b2 : c < 37 := by omega
    refine Xk.x_nocut ?_
    wtm_at "xs"
    refine Xk.x_ixS (c := c.toNat) (by decide +kernel) (show atI lowS.cps.toList _ = some c.toNat from Xk.at_nat (j := c.toNat - 32) (by omega) g3) ?_
    exact q
  · have b2 : ¬ (c < 37) := by omega
    refine fall ?_ ?_
    · wtm_at "xs"
      exact ⟨rfl, rfl⟩
    wtm_at "xs"
    refine Xk.x_ixS (c := c.toNat) (by decide +kernel) (show atI highS.cps.toList _ = some c.toNat from Xk.at_nat (j := c.toNat - 38) (by omega) g3) ?_
    exact q
theorem its_long {m : Nat} {rd : Rd} (hr : RdOk m rd) {k : Nat} {s : List Int} (hl : s.length ≤ 100000) (h : s.length < k) : its rd k s [] = none := by
  cases e : its rd k s [] with
  | none => rfl
  | some p =>
    have := its_ok hr k s [] p.1 p.2 hl e (by rw [GqAll]; trivial) (Nat.zero_le _)
    omega
def sp__law_read (K : PySem.W.Frag) (m : Nat) : Sp := fun vs H Q _ => ∃ n, m = n + 1 ∧ ∃ (a : Addr) (xs : List Int) (i r : Nat), vs = [.ref a, .int (i : Int), .int ((40 - r : Nat) : Int)] ∧ SqL K H a (xs.map V.int) ∧ xs.length ≤ 100000 ∧ Oc xs ∧ r ≤ 40 ∧ r ≤ n ∧
  (∀ d s', rdD true r (xs.drop i) = some (d, s') → ∀ H' p v, Xk.Fr p H → Same H H' → H' p = some (.lst [v, .int ((xs.length - s'.length : Nat) : Int)]) → Xk.Pk K H' r v d → Q (.ref p) H') ∧ (rdD true r (xs.drop i) = none → ∀ H', Same H H' → Q .non H')
theorem okr__law_read (T : Txt K mg) : ∀ m : Nat, FnOk P w K mg base CX0 (2 + m) T.f__law_read T.d__law_read ["octets", "at", "depth"] (sp__law_read K m)
  | 0 => by
    have no : ∀ vs H Q E, ¬ sp__law_read K 0 vs H Q E := fun vs H Q E h => by
      obtain ⟨n, e, _⟩ := h
      cases e
    exact ⟨fun vs H Q E h => absurd h (no vs H Q E), fun A outer s H args us vs Q E _ _ _ _ h => absurd h (no vs H Q E)⟩
  | m + 1 => by
    have ih := okr__law_read T m
    refine T.F__law_read.ok sc__law_read (fun vs H Q E h => ?_) (fun cdv A outer s H vs Q E hr h => ?_)
    · obtain ⟨n, _, a, xs, i, r, rfl, _⟩ := h
      rfl
    obtain ⟨n, en, a, xs, i, r, rfl, ha, hl, hO, hr40, hrn, q1, q2⟩ := h
    obtain rfl : n = m := by omega
    refine ⟨_, (Evl.pss_cut (ps_if (PW.pt (pw_or (pt_cmpR op_ge (pv 1) (pe_callB (Xk.k_len (K := K) (by rfl)) (by rfl) T.m_len PySem.boot_len (pa_cons (pv 0) pa_nil)) (nomark _)) (pw_or1 (pt_cmpR op_gt (pe_ix (Xk.k_ixL (K := K) (by rfl)) (pv 0) (pv 1) (fun _ _ => rfl)) (pe_int) (nomark _))))) (pss_one (ps_ret (pe_non))) pss_nil)
      (Evl.pss_cut (ps_if (pt_cmpR op_eq (pe_ix (Xk.k_ixL (K := K) (by rfl)) (pv 0) (pv 1) (fun _ _ => rfl)) (pe_int) (nomark _)) (pss_one (ps_ret (pe_lst (pa_cons (pe_non) (pa_cons (pe_op op_add (pv 1) (pe_int)) pa_nil))))) pss_nil)
      (pss_cons (ps_set (i := 3) sc__law_read.nd rfl (Or.inl rfl) (pe_ix (Xk.k_ixL (K := K) (by rfl)) (pv 0) (pv 1) (fun _ _ => rfl)))
      (pss_cons (ps_set (i := 4) sc__law_read.nd rfl (Or.inl rfl) (pe_call (ok__law_read_sevens T) (hr.mono (by first | exact Nat.le_refl _ | (simp only [Nat.add_eq]; omega) | omega | decide)) (by rfl) T.g__law_read_sevens T.F__law_read_sevens.kp T.b__law_read_sevens .nil pass0 (pa_cons (pv 0) (pa_cons (pe_op op_add (pv 1) (pe_int)) pa_nil))))
      (Evl.pss_cut (ps_if (pt_cmpR Xk.op_nIsN (pv 4) (pe_non) (nomark _)) (pss_one (ps_ret (pe_non))) pss_nil)
      (Evl.pss_cut (ps_if (pt_cmpR op_lt (pv 3) (pe_int) (nomark _)) (Evl.pss_cut (ps_if (pt_cmpR op_gt (pe_op op_sub (pe_op op_add (pe_ix (Xk.k_ixL (K := K) (by rfl)) (pv 4) (pe_int) (fun _ _ => rfl)) (pv 3)) (pe_int)) (pe_op op_pow (pe_int) (pe_int)) (nomark _)) (pss_one (ps_ret (pe_non))) pss_nil)
      (pss_one (ps_ret (pe_lst (pa_cons (pe_ix (Xk.k_ixL (K := K) (by rfl)) (pe_lst (pa_cons (pe_ix (Xk.k_ixL (K := K) (by rfl)) (pv 4) (pe_int) (fun _ _ => rfl)) (pa_cons (pe_op op_sub (pe_un un_neg (pe_ix (Xk.k_ixL (K := K) (by rfl)) (pv 4) (pe_int) (fun _ _ => rfl))) (pe_int)) pa_nil))) (pe_op op_sub (pv 3) (pe_int)) (fun _ _ => rfl)) (pa_cons (pe_ix (Xk.k_ixL (K := K) (by rfl)) (pv 4) (pe_int) (fun _ _ => rfl)) pa_nil)))))) pss_nil)
      (Evl.pss_cut (ps_if (pt_cmpR op_gt (pe_ix (Xk.k_ixL (K := K) (by rfl)) (pv 4) (pe_int) (fun _ _ => rfl)) (pe_op op_sub (pe_callB (Xk.k_len (K := K) (by rfl)) (by rfl) T.m_len PySem.boot_len (pa_cons (pv 0) pa_nil)) (pe_ix (Xk.k_ixL (K := K) (by rfl)) (pv 4) (pe_int) (fun _ _ => rfl))) (nomark _)) (pss_one (ps_ret (pe_non))) pss_nil)
      (Evl.pss_cut (ps_if (pt_cmpR op_eq (pv 3) (pe_int) (nomark _)) (pss_cons (ps_set (i := 5) sc__law_read.nd rfl (Or.inl rfl) (pe_slice (Xk.k_slL (K := K) (by rfl)) (pv 0) (po_some (pe_ix (Xk.k_ixL (K := K) (by rfl)) (pv 4) (pe_int) (fun _ _ => rfl))) (po_some (pe_op op_add (pe_ix (Xk.k_ixL (K := K) (by rfl)) (pv 4) (pe_int) (fun _ _ => rfl)) (pe_ix (Xk.k_ixL (K := K) (by rfl)) (pv 4) (pe_int) (fun _ _ => rfl))))))
      (pss_cons (ps_for PassesOwn.never rfl (pi_list (pv 5)) (pg_name (i := 6) sc__law_read.nd rfl (Or.inl rfl)) (pss_one (ps_if (PW.pt (pw_or (pt_cmpR op_lt (pv 6) (pe_int) (nomark _)) (pw_or (pt_cmpR op_gt (pv 6) (pe_int) (nomark _)) (pw_or1 (pt_cmpR op_eq (pv 6) (pe_int) (nomark _)))))) (pss_one (ps_ret (pe_non))) pss_nil)))
      (pss_one (ps_ret (pe_lst (pa_cons (pe_bm PySem.F.plainAttrs_str PySem.F.slot_str_join PySem.F.type_str_join (Xk.k_join (K := K) (by rfl)) (pe_str) (pa_cons (pe_lc (own := [("code", 6)]) (g := gName 6) (tt := tYes) rfl sc__law_read.nd  (pi_list (pv 5)) (blkOk_by (N := N__law_read) (sc := defScope s__law_read) (own := [("code", 6)]) (by decide +kernel)) (fun _ _ _ _ _ => pg_name (i := 6) sc__law_read.nd rfl (Or.inl rfl)) (fun _ _ _ _ _ => pts_nil) (fun _ _ _ _ _ => (pe_call (ok__law_char T) (hr.mono (by first | exact Nat.le_refl _ | (simp only [Nat.add_eq]; omega) | omega | decide)) (by rfl) T.g__law_char T.F__law_char.kp T.b__law_char .nil pass0 (pa_cons (pv 6) pa_nil)))) pa_nil)) (pa_cons (pe_op op_add (pe_ix (Xk.k_ixL (K := K) (by rfl)) (pv 4) (pe_int) (fun _ _ => rfl)) (pe_ix (Xk.k_ixL (K := K) (by rfl)) (pv 4) (pe_int) (fun _ _ => rfl))) pa_nil))))))) pss_nil)
      (Evl.pss_cut (ps_if (pt_cmpR op_eq (pv 2) (pe_int) (nomark _)) (pss_one (ps_ret (pe_non))) pss_nil)
      (pss_cons (ps_set (i := 7) sc__law_read.nd rfl (Or.inl rfl) (pe_lst pa_nil))
      (pss_cons (ps_set (i := 1) sc__law_read.nd rfl (Or.inl rfl) (pe_ix (Xk.k_ixL (K := K) (by rfl)) (pv 4) (pe_int) (fun _ _ => rfl)))
      (pss_cons (ps_for PassesOwn.never rfl (pi_range1 (by rfl) T.m_range (pa_cons (pe_ix (Xk.k_ixL (K := K) (by rfl)) (pv 4) (pe_int) (fun _ _ => rfl)) pa_nil)) (pg_name (i := 8) sc__law_read.nd rfl (Or.inl rfl)) (pss_cons (ps_set (i := 9) sc__law_read.nd rfl (Or.inl rfl) (pe_call ih (hr.mono (by first | exact Nat.le_refl _ | (simp only [Nat.add_eq]; omega) | omega | decide)) (by rfl) T.g__law_read T.F__law_read.kp T.b__law_read .nil pass0 (pa_cons (pv 0) (pa_cons (pv 1) (pa_cons (pe_op op_add (pv 2) (pe_int)) pa_nil)))))
      (Evl.pss_cut (ps_if (pt_cmpR Xk.op_nIsN (pv 9) (pe_non) (nomark _)) (pss_one (ps_ret (pe_non))) pss_nil)
      (pss_cons (ps_expr (pe_bm PySem.F.plainAttrs_list PySem.F.slot_list_append PySem.F.type_list_append mt_append (pv 7) (pa_cons (pe_ix (Xk.k_ixL (K := K) (by rfl)) (pv 9) (pe_int) (fun _ _ => rfl)) pa_nil)))
      (pss_one (ps_set (i := 1) sc__law_read.nd rfl (Or.inl rfl) (pe_ix (Xk.k_ixL (K := K) (by rfl)) (pv 9) (pe_int) (fun _ _ => rfl))))))))
      (pss_one (ps_ret (pe_lst (pa_cons (pe_callTy (Xk.k_tuple (K := K) (by rfl)) (by rfl) T.m_tuple (by decide +kernel) (pa_cons (pv 7) pa_nil)) (pa_cons (pv 1) pa_nil))))))))))))))))), ?_⟩
    wtm_at "x0"
    obtain ⟨s, hs⟩ : ∃ s, xs.drop i = s := ⟨_, rfl⟩
    have hsl : s.length = xs.length - i := by rw [← hs, drop_len]
    rw [hs] at q1 q2
    cases s with
    | nil =>
      rw [List.length_nil] at hsl
      have hend : ((xs.map V.int).length : Int) ≤ (i : Int) := by rw [List.length_map]; omega
      refine Xk.x_nocut ?_
      wtm_at "xs"
      exact q2 rfl _ (Same.refl _)
    | cons c u =>
      obtain ⟨hd1, hil, hc⟩ := drop_suc hs
      have hcv : (xs.map V.int)[i]? = some (.int c) := by rw [List.getElem?_map, hc]; rfl
      have hcb := hO c (List.mem_of_getElem? hc)
      have hin : ¬ (((xs.map V.int).length : Int) ≤ (i : Int)) := by rw [List.length_map]; omega
      rw [List.length_cons] at hsl
      unfold rdD at q1 q2
      rw [rdC_cons] at q1 q2
      by_cases c5 : (4 : Int) < c
      · rw [if_neg (by omega), if_neg (by omega), if_neg (by omega), if_neg (by omega)] at q2
        refine Xk.x_nocut ?_
        wtm_at "xs"
        exact q2 rfl _ (Same.refl _)
      refine fall ?_ ?_
      · wtm_at "xs"
        exact ⟨rfl, rfl⟩
      by_cases c0 : c = 0
      · have e0 : V.int c = V.int 0 := by rw [c0]
        rw [if_pos c0] at q1
        refine Xk.x_nocut ?_
        wtm_at "xs"
        intro p H1 hp1 s1 h1
        refine q1 .none u rfl H1 p .non hp1 s1 ?_ Xk.pk_non
        rw [h1, show xs.length - u.length = i + 1 by omega]
        rfl
      have n0 : ¬ (V.int c = V.int 0) := fun e => c0 (by injection e)
      rw [if_neg c0] at q1 q2
      refine fall ?_ ?_
      · wtm_at "xs"
        exact ⟨rfl, rfl⟩
      wtm_at "xs"
      refine ⟨a, xs, i + 1, by rfl, ha, hl, hO, hil, fun N s' hn H1 p hp1 s1 e1 => ?_, fun hn => ?_⟩
      · rw [hd1] at hn
        have hn0 := rdS_pos (fun x hx => hO x (by rw [← hd1] at hx; exact List.mem_of_mem_drop hx)) hn
        obtain ⟨hsuf, hlt⟩ := rdS_suf hn
        have hdr : xs.drop (xs.length - s'.length) = s' := suf_of (e := i + 1) (by rw [hd1]; exact hsuf)
        obtain ⟨st, hst⟩ : ∃ st, xs.length - s'.length = st := ⟨_, rfl⟩
        have hsl2 : s'.length = xs.length - st := by omega
        have hstl : st ≤ xs.length := by omega
        rw [hst] at hdr e1
        have ha1 := Xk.sq_same ha s1
        refine fall ?_ ?_
        · wtm_at "xs"
          exact ⟨rfl, rfl⟩
        by_cases c12 : c = 1 ∨ c = 2
        · rw [if_pos c12] at q1 q2
          unfold rdN at q1 q2
          rw [hn] at q1 q2
          dsimp only at q1 q2
          have c3 : c < 3 := by omega
          refine Xk.x_nocut ?_
          wtm_at "xs"
          by_cases hb : big (num c N) = true
          · rw [if_pos ⟨rfl, hb⟩] at q2
            have hb2 : (1000000000000000000 : Int) < N + c - 1 := by
              unfold big num at hb
              rcases c12 with rfl | rfl
              · simp at hb
                omega
              · simp at hb
                omega
            refine Xk.x_nocut ?_
            wtm_at "xs"
            exact q2 rfl _ s1
          · rw [if_neg (fun z => hb z.2)] at q1
            have hb2 : ¬ ((1000000000000000000 : Int) < N + c - 1) := by
              unfold big num at hb
              rcases c12 with rfl | rfl
              · simp at hb
                omega
              · simp at hb
                omega
            refine fall ?_ ?_
            · wtm_at "xs"
              exact ⟨rfl, rfl⟩
            wtm_at "xs"
            intro p3 H3 hp3 s3 h3
            wtm_at "xs"
            have e13 := s3 _ _ e1
            refine Xk.x_ixL (Xk.sq_of h3) (show atI [V.int N, V.int (-N - 1)] (c - 1) = some (.int (num c N)) from ?_) ?_
            · rcases c12 with rfl | rfl <;> rfl
            wtm_at "xs"
            intro p4 H4 hp4 s4 h4
            refine q1 _ s' rfl H4 p4 (.int (num c N)) (by wtm_at "free") ((s1.trans s3).trans s4) ?_ Xk.pk_int
            rw [h4, hst]
        have c3 : ¬ (c < 3) := by omega
        rw [if_neg c12] at q1 q2
        refine fall ?_ ?_
        · wtm_at "xs"
          exact ⟨rfl, rfl⟩
        by_cases hbig : (s'.length : Int) < N
        · have hb : ((xs.map V.int).length : Int) - (st : Int) < N := by rw [List.length_map]; omega
          refine Xk.x_nocut ?_
          wtm_at "xs"
          refine q2 ?_ _ s1
          split
          · rw [show rdX u = none by unfold rdX; rw [hn]; dsimp only; rw [if_pos hbig]]
            rfl
          split
          · unfold rdU
            cases r with
            | zero => rfl
            | succ k =>
              rw [up_succ]
              simp only [hn]
              rw [its_long (rdD_ok true k) (by omega) (by omega)]
              rfl
          · rfl
        have hb : ¬ (((xs.map V.int).length : Int) - (st : Int) < N) := by rw [List.length_map]; omega
        refine fall ?_ ?_
        · wtm_at "xs"
          exact ⟨rfl, rfl⟩
        by_cases c3e : c = 3
        · rw [if_pos c3e] at q1 q2
          have hx : rdX u = if (s'.take N.toNat).all tI = true then some (mkT (s'.take N.toNat), s'.drop N.toNat) else none := by
            unfold rdX
            rw [hn]
            dsimp only
            rw [if_neg hbig]
          obtain ⟨cs, hcs⟩ : ∃ cs, s'.take N.toNat = cs := ⟨_, rfl⟩
          have hcl : cs.length ≤ 100000 := by rw [← hcs, List.length_take]; omega
          rw [hcs] at hx
          have e3 : V.int c = V.int 3 := by rw [c3e]
          refine Xk.x_nocut ?_
          wtm_at "xs"
          intro p5 H5 hp5 s5 e5
          rw [cut_by (j := st + N.toNat) rfl (by omega), Nat.add_sub_cancel_left, hdr, hcs] at e5
          have e15 := s5 _ _ e1
          wtm_at "xs"
          refine Xk.x_forL (fun j σ' H' => H' = H5 ∧ ∃ y, σ' = [some (.ref a), some (.int (i : Int)), some (.int ((40 - r : Nat) : Int)), some (.int c), some (.ref p), some (.ref p5), y, none, none, none] ∧ (cs.take j).all tI = true) (Xk.sq_of e5) ⟨rfl, _, rfl, rfl⟩ ?_ ?_ ?_
          · rintro j σ' H' hj ⟨rfl, _⟩
            exact Xk.sq_of e5
          · rintro j x σ' H' hx2 ⟨rfl, y, rfl, hall⟩
            obtain ⟨d, hd, rfl⟩ : ∃ d : Int, cs[j]? = some d ∧ x = .int d := by
              rw [List.getElem?_map] at hx2
              cases e : cs[j]? with
              | none => rw [e] at hx2; cases hx2
              | some d => rw [e] at hx2; exact ⟨d, rfl, (Option.some.inj hx2).symm⟩
            wtm_at "xs"
            cases ht : tI d with
            | true =>
              have h0 := of_decide_eq_true ht
              have g1 : ¬ (d < 32) := by omega
              have g2 : ¬ ((126 : Int) < d) := by omega
              have g3 : ¬ (V.int d = V.int 37) := fun e => by
                injection e with e
                omega
              wtm_at "xs"
              exact ⟨rfl, _, rfl, by rw [List.take_add_one, hd, List.all_append, hall]; simp [ht]⟩
            | false =>
              have h0 := of_decide_eq_false ht
              have hno : ¬ (cs.all tI = true) := fun z => by
                have := List.all_eq_true.mp z d (List.mem_of_getElem? hd)
                rw [ht] at this
                cases this
              rw [if_neg hno] at hx
              have fin : Q .non H' := q2 (by rw [hx]; rfl) _ (s1.trans s5)
              by_cases g1 : d < 32
              · wtm_at "xs"
                exact fin
              by_cases g2 : (126 : Int) < d
              · wtm_at "xs"
                exact fin
              have g3 : V.int d = V.int 37 := by congr 1; omega
              wtm_at "xs"
              exact fin
          · rintro σ' H' ⟨rfl, y, rfl, hall⟩
            rw [List.length_map, List.take_length] at hall
            rw [if_pos hall] at hx
            wtm_at "xs"
            refine ⟨rfl, ?_⟩
            wtm_at "xs"
            refine Xk.x_lcL (fun Dl j H2 => Same H' H2 ∧ H2 Dl = some (.lst ((cs.take j).map sg))) (Xk.sq_of e5) ?_ ?_ ?_ ?_
            · intro Dl hD
              exact ⟨Xk.same_fr hD, upd_same⟩
            · rintro Dl j H2 hD ⟨s3, h3⟩
              exact Xk.sq_of (s3 _ _ e5)
            · rintro Dl hD j x H2 hx2 ⟨s3, h3⟩
              obtain ⟨d, hd, rfl⟩ : ∃ d : Int, cs[j]? = some d ∧ x = .int d := by
                rw [List.getElem?_map] at hx2
                cases e : cs[j]? with
                | none => rw [e] at hx2; cases hx2
                | some d => rw [e] at hx2; exact ⟨d, rfl, (Option.some.inj hx2).symm⟩
              have ht := List.all_eq_true.mp hall d (List.mem_of_getElem? hd)
              wtm_at "xs"
              refine ⟨rfl, ?_⟩
              wtm_at "xs"
              refine ⟨d, rfl, ht, ?_⟩
              refine ⟨_, h3, Xk.size_lt (by have := Xk.at_lt hd; simp only [List.length_map, List.length_take]; omega), Xk.same_mut s3 hD, ?_⟩
              rw [upd_same, List.take_add_one, hd, List.map_append]
              have e7 : sg d = V.str ⟨#[d.toNat]⟩ := if_pos ht
              rw [show ((some d).toList.map sg) = [sg d] from rfl, e7]
            · rintro Dl H2 hD ⟨s3, h3⟩
              rw [List.length_map, List.take_length] at h3
              wtm_at "xs"
              refine ⟨"", Dl, (cs.map Int.toNat).map fun c => ⟨#[c]⟩, rfl, rfl, .inl (Xk.sq_of (by rw [h3, sg_all cs hall])), by rw [sum_ones, List.length_map, List.length_map]; show _ + _ * 0 ≤ 16777216; omega, ?_⟩
              rw [join_one]
              have e25 := s3 _ _ e15
              wtm_at "xs"
              intro p6 H6 hp6 s6 h6
              refine q1 _ _ (by rw [hx]; rfl) H6 p6 _ (by wtm_at "free") (((s1.trans s5).trans s3).trans s6) ?_ (Xk.pk_str (Xk.lay_str (okC_tx (rdX_ok hx).2.2)))
              rw [h6, List.length_drop, show xs.length - (s'.length - N.toNat) = st + N.toNat by omega, show ((st + N.toNat : Nat) : Int) = (st : Int) + N by omega]
              rfl
        have c4e : c = 4 := by omega
        rw [if_neg c3e, if_pos c4e] at q1 q2
        have n3 : ¬ (V.int c = V.int 3) := fun e => c3e (by injection e)
        refine fall ?_ ?_
        · wtm_at "xs"
          exact ⟨rfl, rfl⟩
        cases r with
        | zero =>
          have h0 : V.int ((40 - 0 : Nat) : Int) = V.int 40 := rfl
          refine Xk.x_nocut ?_
          wtm_at "xs"
          exact q2 rfl _ s1
        | succ k =>
        have h0 : ¬ (V.int ((40 - (k + 1) : Nat) : Int) = V.int 40) := fun e => by
          injection e with e
          omega
        refine fall ?_ ?_
        · wtm_at "xs"
          exact ⟨rfl, rfl⟩
        rw [up_succ, rdU_some hn] at q1 q2
        wtm_at "xs"
        intro p2 H2 hp2 s2 e2
        have e12 := s2 _ _ e1
        wtm_at "xs"
        obtain ⟨R, hR⟩ : ∃ R, R = its (rdD true k) N.toNat s' [] := ⟨_, rfl⟩
        rw [← hR] at q1 q2
        refine Xk.x_range (fun j σ' H' => ∃ (e : Nat) (acc : List PyData) (vs : List V) (y1 y2 : Option V), σ' = [some (.ref a), some (.int (e : Int)), some (.int ((40 - (k + 1) : Nat) : Int)), some (.int c), some (.ref p), none, none, some (.ref p2), y1, y2] ∧ Same H H' ∧ H' p2 = some (.lst vs) ∧ Xk.PkAll K H' k vs acc ∧ e ≤ xs.length ∧ acc.length + 1 ≤ e ∧ R = its (rdD true k) (N.toNat - j) (xs.drop e) acc) ⟨hn0, by omega⟩ ⟨st, [], [], _, _, rfl, s1.trans s2, e2, Xk.pk_nil, by omega, by rw [List.length_nil]; omega, by rw [hR, hdr]; rfl⟩ ?_ ?_
        · rintro j σ' H' hj ⟨e, acc, vs, y1, y2, rfl, sH, hp2', hpk, he, hac, hR⟩
          have hvl := hpk.len
          obtain ⟨f, hf⟩ : ∃ f, N.toNat - j = f + 1 := ⟨N.toNat - j - 1, by omega⟩
          rw [hf] at hR
          obtain ⟨m, rfl⟩ : ∃ m2, n = m2 + 1 := ⟨n - 1, by omega⟩
          have haH := Xk.sq_same ha sH
          wtm_at "xs"
          refine ⟨m, rfl, a, xs, e, k, by rw [show (((40 - (k + 1) : Nat) : Int) + 1) = ((40 - k : Nat) : Int) by omega], haH, hl, hO, by omega, by omega, fun d s2' hd H4 p4 v hp4 s4 e4 hv => ?_, fun hd H4 s4 => ?_⟩
          · have hp4' := s4 _ _ hp2'
            obtain ⟨k1, k2, k3, k4⟩ := rdD_ok true k _ d s2' (by rw [drop_len]; omega) hd
            rw [drop_len] at k2
            rw [its_some hd] at hR
            have hz9 : vs.length < 100000 := by omega
            wtm_at "xs"
            refine fall ?_ ?_
            · wtm_at "xs"
              exact ⟨rfl, rfl⟩
            wtm_at "xs"
            refine ⟨xs.length - s2'.length, acc ++ [d], vs ++ [v], _, _, rfl, Xk.same_mut (sH.trans s4) (by wtm_at "free"), upd_same, Xk.pk_snoc ((hpk.same s4).st (Xk.tt_mutL (K := K) hp4')) (hv.st (Xk.tt_mutL (K := K) hp4')), by omega, by rw [List.length_append, List.length_singleton]; omega, ?_⟩
            rw [hR, suf_of k1, show N.toNat - (j + 1) = f by omega]
          · wtm_at "xs"
            refine Xk.x_nocut ?_
            wtm_at "xs"
            exact q2 (by rw [hR, its_none hd]; rfl) _ (sH.trans s4)
        · rintro σ' H' ⟨e, acc, vs, y1, y2, rfl, sH, hp2', hpk, he, hac, hR⟩
          rw [Nat.sub_self, its_0] at hR
          wtm_at "xs"
          intro p3 H3 hp3 s3 e3
          wtm_at "xs"
          intro p4 H4 hp4 s4 e4
          refine q1 (.tuple acc) (xs.drop e) (by rw [hR]; rfl) H4 p4 (.ref p3) (by wtm_at "free") (by wtm_at "sm") ?_ (Xk.pk_tup (Xk.st_of (s4 _ _ e3)) ((hpk.same s3).same s4))
          rw [e4, drop_len, show xs.length - (xs.length - e) = e by omega]
      · rw [hd1] at hn
        wtm_at "xs"
        refine Xk.x_nocut ?_
        wtm_at "xs"
        refine q2 ?_ _ (Same.refl _)
        split
        · unfold rdN; rw [hn]
        split
        · rw [show rdX u = none by unfold rdX; rw [hn]]; rfl
        split
        · unfold rdU
          cases up true r with
          | none => rfl
          | some rd => simp only [hn]
        · rfl
theorem ok__law_read (T : Txt K mg) : FnOk P w K mg base CX0 44 T.f__law_read T.d__law_read ["octets", "at", "depth"] (sp__law_read K 42) := okr__law_read T 42
--CUT--
def cutI (xs : List Int) (lo hi : Option Int) : List Int := (xs.drop (HT.sIx xs.length 0 lo)).take (HT.sIx xs.length xs.length hi - HT.sIx xs.length 0 lo)
theorem cutI_map (xs : List Int) (lo hi : Option Int) : cutV (xs.map V.int) lo hi = (cutI xs lo hi).map V.int := by
  unfold cutV cutI
  rw [List.length_map, List.map_take, List.map_drop]
theorem oc_cut {xs : List Int} {lo hi : Option Int} (h : Oc xs) : Oc (cutI xs lo hi) := fun x hx => h x (List.mem_of_mem_drop (List.mem_of_mem_take hx))
theorem cutI_L (xs : List Int) (j : Nat) : (cutI xs none (some (j : Int))).length ≤ j := by
  unfold cutI
  rw [HT.sIx_nat, HT.sIx_none, List.length_take]
  omega
theorem cutI_R (xs : List Int) (j : Nat) : (cutI xs (some (j : Int)) none).length ≤ xs.length - j := by
  unfold cutI
  rw [HT.sIx_nat, HT.sIx_none, List.length_take, List.length_drop]
  omega
theorem oc_app {xs ys : List Int} (h : Oc xs) (h' : Oc ys) : Oc (xs ++ ys) := fun x hx => (List.mem_append.mp hx).elim (h x) (h' x)
theorem oc_one {x : Int} (h : 0 ≤ x ∧ x ≤ 255) : Oc [x] := fun y hy => by
  rw [List.mem_singleton] at hy
  rw [hy]
  exact h
theorem oc_sevens : ∀ (k n : Nat), n ≤ k → Oc (sevens n)
  | 0, n, h => by
    rw [sevens_lt (by omega)]
    exact oc_one (by omega)
  | k + 1, n, h => by
    by_cases c : n < 128
    · rw [sevens_lt c]
      exact oc_one (by omega)
    · rw [sevens_ge c]
      exact oc_app (xs := [_]) (oc_one (by omega)) (oc_sevens k (n / 128) (by omega))
theorem app_map (xs ys : List Int) : xs.map V.int ++ ys.map V.int = (xs ++ ys).map V.int := (List.map_append ..).symm
theorem rep_step {H : Hp} {Q : VK} {a : Addr} {vs : List V} {i : Int} {n : Nat} (h : H a = some (.lst vs)) (hi : i = (n : Int)) (hn : n ≤ 1000) (hz : vs.length * n ≤ 100000) (q : ∀ p H', Xk.Fr p H → Same H H' → H' p = some (.lst (List.replicate n vs).flatten) → Q (.ref p) H') : rRep (.ref a) (.int i) H Q := by
  subst hi
  refine ⟨a, _, _, rfl, rfl, h, by omega, by omega, Xk.size_ok (by rw [Int.toNat_natCast]; exact hz), fun p7 hp7 => ?_⟩
  rw [Int.toNat_natCast]
  exact q p7 _ ⟨hp7⟩ (Xk.same_new hp7) upd_same
theorem cat_step {H : Hp} {Q : VK} {a c : Addr} {xs ys : List Int} (h : H a = some (.lst (xs.map V.int))) (h' : H c = some (.lst (ys.map V.int))) (hz : xs.length + ys.length ≤ 100000) (q : ∀ p H2, Xk.Fr p H → Same H H2 → H2 p = some (.lst ((xs ++ ys).map V.int)) → Q (.ref p) H2) : rCat (.ref a) (.ref c) H Q :=
  Xk.x_cat h h' (by rw [List.length_map, List.length_map]; exact hz) fun p H2 f s e => q p H2 f s (by rw [e, app_map])
theorem oc_rep {n : Nat} {ys : List Int} (h : Oc ys) : Oc (List.replicate n ys).flatten := fun x hx => by
  obtain ⟨l, hl, hx⟩ := List.mem_flatten.mp hx
  rw [(List.mem_replicate.mp hl).2] at hx
  exact h x hx
theorem rep_map (n : Nat) (ys : List Int) : (List.replicate n (ys.map V.int)).flatten = (List.replicate n ys).flatten.map V.int := by
  rw [List.map_flatten, List.map_replicate]
theorem rep_length (n : Nat) (ys : List Int) : (List.replicate n ys).flatten.length = n * ys.length := by
  rw [List.length_flatten, List.map_replicate, List.sum_replicate_nat]
def sp__law_spoilt (K : PySem.W.Frag) : Sp := fun vs H Q _ => ∃ (l a : Addr) (xs : List Int) (n : Int), vs = [.ref l, .ref a] ∧ l ≠ a ∧ H l = some (.lst (xs.map V.int)) ∧ Oc xs ∧ xs.length ≤ 50000 ∧ H a = some (.lst [.int n]) ∧ ∀ H' p ys, Xk.But a H H' → H' p = some (.lst (ys.map V.int)) → Oc ys → ys.length ≤ xs.length + 300 → Q (.ref p) H'
theorem ok__law_spoilt (T : Txt K mg) : FnOk P w K mg base CX0 2 T.f__law_spoilt T.d__law_spoilt ["octets", "box"] (sp__law_spoilt K) := by
  refine T.F__law_spoilt.ok sc__law_spoilt (fun vs H Q E h => ?_) (fun cdv A outer s H vs Q E hr h => ?_)
  · obtain ⟨l, a, xs, n, rfl, _⟩ := h
    rfl
  obtain ⟨l, a, xs, n, rfl, hla, hx, hO, hl, hb, q⟩ := h
  refine ⟨_, (pss_cons (ps_set (i := 2) sc__law_spoilt.nd rfl (Or.inl rfl) (pe_call (ok__law_take T) (hr.mono (by decide)) (by rfl) T.g__law_take T.F__law_take.kp T.b__law_take .nil pass0 (pa_cons (pv 1) (pa_cons (pe_int) pa_nil))))
      (pss_cons (ps_set (i := 3) sc__law_spoilt.nd rfl (Or.inl rfl) (pe_call (ok__law_take T) (hr.mono (by decide)) (by rfl) T.g__law_take T.F__law_take.kp T.b__law_take .nil pass0 (pa_cons (pv 1) (pa_cons (pe_op op_add (pe_callB (Xk.k_len (K := K) (by rfl)) (by rfl) T.m_len PySem.boot_len (pa_cons (pv 0) pa_nil)) (pe_int)) pa_nil))))
      (pss_cons (ps_set (i := 4) sc__law_spoilt.nd rfl (Or.inl rfl) (pe_ix (Xk.k_ixL (K := K) (by rfl)) (pe_lst (pa_cons (pe_call (ok__law_take T) (hr.mono (by decide)) (by rfl) T.g__law_take T.F__law_take.kp T.b__law_take .nil pass0 (pa_cons (pv 1) (pa_cons (pe_int) pa_nil))) (pa_cons (pe_call (ok__law_take T) (hr.mono (by decide)) (by rfl) T.g__law_take T.F__law_take.kp T.b__law_take .nil pass0 (pa_cons (pv 1) (pa_cons (pe_int) pa_nil))) pa_nil))) (pe_call (ok__law_take T) (hr.mono (by decide)) (by rfl) T.g__law_take T.F__law_take.kp T.b__law_take .nil pass0 (pa_cons (pv 1) (pa_cons (pe_int) pa_nil))) (fun _ _ => rfl)))
      (Evl.pss_cut (ps_if (pt_cmpR op_eq (pv 2) (pe_int) (nomark _)) (pss_one (ps_ret (pe_slice (Xk.k_slL (K := K) (by rfl)) (pv 0) po_none (po_some (pv 3))))) pss_nil)
      (Evl.pss_cut (ps_if (pt_cmpR op_eq (pv 2) (pe_int) (nomark _)) (pss_one (ps_ret (pe_op op_cat (pv 0) (pe_op op_rep (pe_lst (pa_cons (pv 4) pa_nil)) (pe_op op_add (pe_int) (pe_call (ok__law_take T) (hr.mono (by decide)) (by rfl) T.g__law_take T.F__law_take.kp T.b__law_take .nil pass0 (pa_cons (pv 1) (pa_cons (pe_int) pa_nil)))))))) pss_nil)
      (Evl.pss_cut (ps_if (pt_cmpR op_lt (pv 2) (pe_int) (nomark _)) (pss_one (ps_ret (pe_op op_cat (pe_op op_cat (pe_slice (Xk.k_slL (K := K) (by rfl)) (pv 0) po_none (po_some (pv 3))) (pe_lst (pa_cons (pv 4) pa_nil))) (pe_slice (Xk.k_slL (K := K) (by rfl)) (pv 0) (po_some (pe_op op_add (pv 3) (pe_int))) po_none)))) pss_nil)
      (Evl.pss_cut (ps_if (pt_cmpR op_eq (pv 2) (pe_int) (nomark _)) (pss_one (ps_ret (pe_op op_cat (pe_op op_cat (pe_slice (Xk.k_slL (K := K) (by rfl)) (pv 0) po_none (po_some (pv 3))) (pe_lst (pa_cons (pv 4) pa_nil))) (pe_slice (Xk.k_slL (K := K) (by rfl)) (pv 0) (po_some (pv 3)) po_none)))) pss_nil)
      (Evl.pss_cut (ps_if (pt_cmpR op_eq (pv 2) (pe_int) (nomark _)) (pss_one (ps_ret (pe_op op_cat (pe_slice (Xk.k_slL (K := K) (by rfl)) (pv 0) po_none (po_some (pv 3))) (pe_slice (Xk.k_slL (K := K) (by rfl)) (pv 0) (po_some (pe_op op_add (pv 3) (pe_int))) po_none)))) pss_nil)
      (Evl.pss_cut (ps_if (pt_cmpR op_eq (pv 2) (pe_int) (nomark _)) (pss_one (ps_ret (pe_op op_cat (pe_lst (pa_cons (pe_op op_add (pe_int) (pe_op op_mod (pv 3) (pe_int))) pa_nil)) (pe_call (ok__law_sevens T) (hr.mono (by decide)) (by rfl) T.g__law_sevens T.F__law_sevens.kp T.b__law_sevens .nil pass0 (pa_cons (pe_op op_sub (pe_op op_add (pe_op op_pow (pe_int) (pe_int)) (pe_op op_mod (pv 4) (pe_int))) (pe_int)) pa_nil))))) pss_nil)
      (Evl.pss_cut (ps_if (pt_cmpR op_eq (pv 2) (pe_int) (nomark _)) (pss_one (ps_ret (pe_op op_cat (pe_op op_rep (pe_lst (pa_cons (pe_int) (pa_cons (pe_int) pa_nil))) (pe_op op_add (pe_int) (pe_op op_mod (pv 4) (pe_int)))) (pe_ix (Xk.k_ixL (K := K) (by rfl)) (pe_lst (pa_cons (pe_lst (pa_cons (pe_int) pa_nil)) (pa_cons (pe_lst (pa_cons (pe_int) (pa_cons (pe_int) pa_nil))) (pa_cons (pe_lst (pa_cons (pe_int) (pa_cons (pe_int) (pa_cons (pe_int) pa_nil)))) (pa_cons (pe_op op_cat (pe_lst (pa_cons (pe_int) (pa_cons (pe_int) (pa_cons (pe_int) pa_nil)))) (pe_op op_rep (pe_lst (pa_cons (pe_int) pa_nil)) (pe_int))) pa_nil))))) (pe_op op_mod (pv 3) (pe_int)) (fun _ _ => rfl))))) pss_nil)
      (pss_one (ps_ret (pe_op op_cat (pe_lst (pa_cons (pe_call (ok__law_take T) (hr.mono (by decide)) (by rfl) T.g__law_take T.F__law_take.kp T.b__law_take .nil pass0 (pa_cons (pv 1) (pa_cons (pe_int) pa_nil))) pa_nil)) (pe_lc (own := [("k", 5)]) (g := gName 5) (tt := tYes) rfl sc__law_spoilt.nd  (pi_range1 (by rfl) T.m_range (pa_cons (pe_op op_mod (pv 3) (pe_int)) pa_nil)) (blkOk_by (N := N__law_spoilt) (sc := defScope s__law_spoilt) (own := [("k", 5)]) (by decide +kernel)) (fun _ _ _ _ _ => pg_name (i := 5) sc__law_spoilt.nd rfl (Or.inl rfl)) (fun _ _ _ _ _ => pts_nil) (fun _ _ _ _ _ => (pe_call (ok__law_take T) (hr.mono (by decide)) (by rfl) T.g__law_take T.F__law_take.kp T.b__law_take .nil pass0 (pa_cons (pv 1) (pa_cons (pe_int) pa_nil)))))))))))))))))), ?_⟩
  wtm_at "x0"
  wtm_at "xs"
  refine draw hb (by decide) fun j1 m1 H1 hj1 b1 h1 => ?_
  wtm_at "xs"
  refine draw h1 (by rw [List.length_map]; omega) fun j2 m2 H2 hj2 b2 h2 => ?_
  rw [List.length_map] at hj2
  wtm_at "xs"
  refine draw h2 (by decide) fun j3 m3 H3 hj3 b3 h3 => ?_
  wtm_at "xs"
  refine draw h3 (by decide) fun j4 m4 H4 hj4 b4 h4 => ?_
  wtm_at "xs"
  intro p5 H5 hp5 s5 h5
  wtm_at "xs"
  refine draw (s5 _ _ h4) (by decide) fun j6 m6 H6 hj6 b6 h6 => ?_
  have hne : p5 ≠ a := Ne.symm (ne_of_none h4 hp5.is)
  have h56 := b6 _ _ hne h5
  obtain ⟨u, hu, hu1⟩ : ∃ u : Int, [V.int (j3 : Int), V.int (j4 : Int)][j6]? = some (.int u) ∧ 0 ≤ u ∧ u ≤ 255 := by
    rcases (show j6 = 0 ∨ j6 = 1 by omega) with rfl | rfl
    · exact ⟨_, rfl, by omega, by omega⟩
    · exact ⟨_, rfl, by omega, by omega⟩
  have bt : Xk.But a H H6 := Xk.but_trans (Xk.but_trans (Xk.but_trans (Xk.but_trans (Xk.but_trans b1 b2) b3) b4) (Xk.but_same s5)) b6
  have hx6 := bt _ _ hla hx
  wtm_at "xs"
  clear h56 h5 hp5 hne h4 h3 h2 h1
  have Ll := cutI_L xs j2
  have Lr := cutI_R xs j2
  have Lr1 := cutI_R xs (j2 + 1)
  have eR1 : cutV (xs.map V.int) (some ((j2 : Int) + 1)) none = (cutI xs (some (((j2 + 1 : Nat)) : Int)) none).map V.int := cutI_map xs (some ((j2 : Int) + 1)) none
  by_cases k0 : j1 = 0
  · have k0' : V.int (j1 : Int) = V.int 0 := by rw [k0]; rfl
    refine Xk.x_nocut ?_
    wtm_at "xs"
    intro p7 H7 hp7 s7 h7
    rw [cutI_map] at h7
    exact q H7 p7 _ (Xk.but_trans bt (Xk.but_same s7)) h7 (oc_cut hO) (by omega)
  have k0' : ¬ (V.int (j1 : Int) = V.int 0) := fun e => by
    injection e with e
    omega
  refine fall ?_ ?_
  · wtm_at "xs"
    exact ⟨rfl, rfl⟩
  by_cases k1 : j1 = 1
  · have k1' : V.int (j1 : Int) = V.int 1 := by rw [k1]; rfl
    refine Xk.x_nocut ?_
    wtm_at "xs"
    intro p7 H7 hp7 s7 h7
    wtm_at "xs"
    refine draw (s7 _ _ h6) (by decide) fun j8 m8 H8 hj8 b8 h8 => ?_
    have hne7 : p7 ≠ a := Ne.symm (ne_of_none h6 hp7.is)
    have h78 := b8 _ _ hne7 h7
    have hx8 := b8 _ _ hla (s7 _ _ hx6)
    wtm_at "xs"
    refine rep_step h78 (n := 1 + j8) (by omega) (by omega) (by show 1 * _ ≤ _; omega) fun p9 H9 hp9 s9 h9 => ?_
    rw [show [V.int u] = [u].map V.int from rfl, rep_map] at h9
    refine cat_step (s9 _ _ hx8) h9 (by rw [rep_length]; show _ + (1 + j8) * 1 ≤ _; omega) fun p10 H10 hp10 s10 h10 => ?_
    exact q H10 p10 _ (Xk.but_trans (Xk.but_trans (Xk.but_trans (Xk.but_trans bt (Xk.but_same s7)) b8) (Xk.but_same s9)) (Xk.but_same s10)) h10 (oc_app hO (oc_rep (oc_one hu1))) (by rw [List.length_append, rep_length]; show _ + (1 + j8) * 1 ≤ _; omega)
  have k1' : ¬ (V.int (j1 : Int) = V.int 1) := fun e => by
    injection e with e
    omega
  refine fall ?_ ?_
  · wtm_at "xs"
    exact ⟨rfl, rfl⟩
  by_cases k2 : (j1 : Int) < 4
  · refine Xk.x_nocut ?_
    wtm_at "xs"
    intro p7 H7 hp7 s7 h7
    rw [cutI_map] at h7
    wtm_at "xs"
    intro p8 H8 hp8 s8 h8
    rw [show [V.int u] = [u].map V.int from rfl] at h8
    refine cat_step (s8 _ _ h7) h8 (by show _ + 1 ≤ _; omega) fun p9 H9 hp9 s9 h9 => ?_
    have hx9 := s9 _ _ (s8 _ _ (s7 _ _ hx6))
    wtm_at "xs"
    intro p10 H10 hp10 s10 h10
    rw [eR1] at h10
    refine cat_step (s10 _ _ h9) h10 (by rw [List.length_append]; show _ + 1 + _ ≤ _; omega) fun p11 H11 hp11 s11 h11 => ?_
    exact q H11 p11 _ (Xk.but_trans bt (Xk.but_same ((((s7.trans s8).trans s9).trans s10).trans s11))) h11 (oc_app (oc_app (oc_cut hO) (oc_one hu1)) (oc_cut hO)) (by rw [List.length_append, List.length_append]; show _ + 1 + _ ≤ _; omega)
  refine fall ?_ ?_
  · wtm_at "xs"
    exact ⟨rfl, rfl⟩
  by_cases k4 : j1 = 4
  · have k4' : V.int (j1 : Int) = V.int 4 := by rw [k4]; rfl
    refine Xk.x_nocut ?_
    wtm_at "xs"
    intro p7 H7 hp7 s7 h7
    rw [cutI_map] at h7
    wtm_at "xs"
    intro p8 H8 hp8 s8 h8
    rw [show [V.int u] = [u].map V.int from rfl] at h8
    refine cat_step (s8 _ _ h7) h8 (by show _ + 1 ≤ _; omega) fun p9 H9 hp9 s9 h9 => ?_
    have hx9 := s9 _ _ (s8 _ _ (s7 _ _ hx6))
    wtm_at "xs"
    intro p10 H10 hp10 s10 h10
    rw [cutI_map] at h10
    refine cat_step (s10 _ _ h9) h10 (by rw [List.length_append]; show _ + 1 + _ ≤ _; omega) fun p11 H11 hp11 s11 h11 => ?_
    exact q H11 p11 _ (Xk.but_trans bt (Xk.but_same ((((s7.trans s8).trans s9).trans s10).trans s11))) h11 (oc_app (oc_app (oc_cut hO) (oc_one hu1)) (oc_cut hO)) (by rw [List.length_append, List.length_append]; show _ + 1 + _ ≤ _; omega)
  have k4' : ¬ (V.int (j1 : Int) = V.int 4) := fun e => by
    injection e with e
    omega
  refine fall ?_ ?_
  · wtm_at "xs"
    exact ⟨rfl, rfl⟩
  by_cases k5 : j1 = 5
  · have k5' : V.int (j1 : Int) = V.int 5 := by rw [k5]; rfl
    refine Xk.x_nocut ?_
    wtm_at "xs"
    intro p7 H7 hp7 s7 h7
    rw [cutI_map] at h7
    have hx9 := s7 _ _ hx6
    wtm_at "xs"
    intro p10 H10 hp10 s10 h10
    rw [eR1] at h10
    refine cat_step (s10 _ _ h7) h10 (by omega) fun p11 H11 hp11 s11 h11 => ?_
    exact q H11 p11 _ (Xk.but_trans bt (Xk.but_same ((s7.trans s10).trans s11))) h11 (oc_app (oc_cut hO) (oc_cut hO)) (by rw [List.length_append]; omega)
  have k5' : ¬ (V.int (j1 : Int) = V.int 5) := fun e => by
    injection e with e
    omega
  refine fall ?_ ?_
  · wtm_at "xs"
    exact ⟨rfl, rfl⟩
  by_cases k6 : j1 = 6
  · have k6' : V.int (j1 : Int) = V.int 6 := by rw [k6]; rfl
    refine Xk.x_nocut ?_
    wtm_at "xs"
    intro p7 H7 hp7 s7 h7
    wtm_at "xs"
    have p18 : (10 : Int) ^ Int.toNat 18 = 1000000000000000000 := by decide +kernel
    have p128 : (128 : Nat) ^ 10 = 1180591620717411303424 := by decide +kernel
    obtain ⟨N, hN⟩ := Int.eq_ofNat_of_zero_le (show 0 ≤ (10 : Int) ^ Int.toNat 18 + u % 4 - 1 by omega)
    have hN2 : N < 128 ^ 10 := by omega
    rw [hN]
    refine ⟨N, rfl, hN2, fun H8 p8 hp8 s8 h8 => ?_⟩
    have hs7 := sevens_len (k := 9) hN2
    have h78 := s8 _ _ h7
    rw [show [V.int (1 + (j2 : Int) % 2)] = [1 + (j2 : Int) % 2].map V.int from rfl] at h78
    refine cat_step h78 h8 (by show 1 + _ ≤ _; omega) fun p9 H9 hp9 s9 h9 => ?_
    exact q H9 p9 _ (Xk.but_trans bt (Xk.but_same ((s7.trans s8).trans s9))) h9 (oc_app (oc_one (by omega)) (oc_sevens N N (Nat.le_refl _))) (by rw [List.length_append]; show 1 + _ ≤ _; omega)
  have k6' : ¬ (V.int (j1 : Int) = V.int 6) := fun e => by
    injection e with e
    omega
  refine fall ?_ ?_
  · wtm_at "xs"
    exact ⟨rfl, rfl⟩
  by_cases k7 : j1 = 7
  · have k7' : V.int (j1 : Int) = V.int 7 := by rw [k7]; rfl
    refine Xk.x_nocut ?_
    wtm_at "xs"
    intro p7 H7 hp7 s7 h7
    wtm_at "xs"
    refine rep_step h7 (n := (39 + u % 4).toNat) (by omega) (by omega) (by show 2 * _ ≤ _; omega) fun p9 H9 hp9 s9 h9 => ?_
    rw [show [V.int 4, V.int 1] = [4, 1].map V.int from rfl, rep_map] at h9
    have rl : (List.replicate (39 + u % 4).toNat [(4 : Int), 1]).flatten.length ≤ 100 := by
      rw [rep_length]
      show _ * 2 ≤ _
      omega
    have ro : Oc (List.replicate (39 + u % 4).toNat [(4 : Int), 1]).flatten := oc_rep (oc_app (xs := [4]) (oc_one (by decide)) (oc_one (by decide)))
    generalize (List.replicate (39 + u % 4).toNat [(4 : Int), 1]).flatten = R at h9 rl ro
    wtm_at "xs"
    intro p10 H10 hp10 s10 h10
    wtm_at "xs"
    intro p11 H11 hp11 s11 h11
    wtm_at "xs"
    intro p12 H12 hp12 s12 h12
    wtm_at "xs"
    intro p13 H13 hp13 s13 h13
    wtm_at "xs"
    intro p14 H14 hp14 s14 h14
    wtm_at "xs"
    refine rep_step h14 (n := 129) rfl (by decide) (by decide) fun p15 H15 hp15 s15 h15 => ?_
    rw [show [V.int 65] = [65].map V.int from rfl, rep_map] at h15
    have h135 := s15 _ _ (s14 _ _ h13)
    rw [show [V.int 3, V.int 129, V.int 0] = [3, 129, 0].map V.int from rfl] at h135
    refine cat_step h135 h15 (by rw [rep_length]; decide) fun p16 H16 hp16 s16 h16 => ?_
    wtm_at "xs"
    intro p17 H17 hp17 s17 h17
    wtm_at "xs"
    have st : Same H9 H17 := ((((((s10.trans s11).trans s12).trans s13).trans s14).trans s15).trans s16).trans s17
    obtain ⟨pt, T, hpt, hT, hTo, hTl⟩ : ∃ pt T, [V.ref p10, V.ref p11, V.ref p12, V.ref p16][j2 % 4]? = some (.ref pt) ∧ H17 pt = some (.lst (T.map V.int)) ∧ Oc T ∧ T.length ≤ 140 := by
      generalize hj : j2 % 4 = j
      rcases (show j = 0 ∨ j = 1 ∨ j = 2 ∨ j = 3 by omega) with rfl | rfl | rfl | rfl
      · exact ⟨p10, [0], rfl, s17 _ _ (s16 _ _ (s15 _ _ (s14 _ _ (s13 _ _ (s12 _ _ (s11 _ _ h10)))))), oc_one (by decide), by decide⟩
      · exact ⟨p11, [4, 0], rfl, s17 _ _ (s16 _ _ (s15 _ _ (s14 _ _ (s13 _ _ (s12 _ _ h11))))), oc_app (xs := [4]) (oc_one (by decide)) (oc_one (by decide)), by decide⟩
      · exact ⟨p12, [1, 128, 0], rfl, s17 _ _ (s16 _ _ (s15 _ _ (s14 _ _ (s13 _ _ h12)))), oc_app (xs := [1]) (oc_one (by decide)) (oc_app (xs := [128]) (oc_one (by decide)) (oc_one (by decide))), by decide⟩
      · exact ⟨p16, _, rfl, s17 _ _ h16, oc_app (oc_app (xs := [3]) (oc_one (by decide)) (oc_app (xs := [129]) (oc_one (by decide)) (oc_one (by decide)))) (oc_rep (oc_one (by decide))), by rw [List.length_append, rep_length]; decide⟩
    rw [show (j2 : Int) % 4 = ((j2 % 4 : Nat) : Int) by omega]
    refine Xk.x_ixL (Xk.sq_of h17) (atI_nat (j := j2 % 4) hpt) ?_
    refine cat_step (st _ _ h9) hT (by omega) fun p18 H18 hp18 s18 h18 => ?_
    exact q H18 p18 _ (Xk.but_trans bt (Xk.but_same (((s7.trans s9).trans st).trans s18))) h18 (oc_app ro hTo) (by rw [List.length_append]; omega)
  have k7' : ¬ (V.int (j1 : Int) = V.int 7) := fun e => by
    injection e with e
    omega
  refine fall ?_ ?_
  · wtm_at "xs"
    exact ⟨rfl, rfl⟩
  wtm_at "xs"
  refine draw h6 (by decide) fun j8 m8 H8 hj8 b8 h8 => ?_
  wtm_at "xs"
  intro p9 H9 hp9 s9 h9
  wtm_at "xs"
  have h9a := s9 _ _ h8
  have hne9 : p9 ≠ a := Ne.symm (ne_of_none h8 hp9.is)
  refine Xk.x_lcR (fun Dl i H' => Xk.But a H9 H' ∧ (∃ m, H' a = some (.lst [.int m])) ∧ ∃ ys : List Int, H' Dl = some (.lst (ys.map V.int)) ∧ Oc ys ∧ ys.length = i) ⟨by omega, by omega⟩ ?_ ?_ ?_
  · intro Dl hD
    have hDa : a ≠ Dl := ne_of_none h9a hD.is
    exact ⟨Xk.but_new (Xk.But.refl _ _) hD, ⟨_, (upd_ne hDa).trans h9a⟩, [], upd_same, (fun x hx => absurd hx List.not_mem_nil), rfl⟩
  · rintro Dl hD i H' hi ⟨b10, ⟨m, hm⟩, ys, hy, hyo, hyl⟩
    have hDa : a ≠ Dl := ne_of_none h9a hD.is
    wtm_at "xs"
    refine ⟨rfl, ?_⟩
    wtm_at "xs"
    refine draw hm (by decide) fun j11 m11 H11 hj11 b11 h11 => ?_
    have hy11 := b11 _ _ (Ne.symm hDa) hy
    refine ⟨_, hy11, Xk.size_lt (by rw [List.length_map]; omega), Xk.but_new (Xk.but_trans b10 b11) hD, ⟨_, (upd_ne hDa).trans h11⟩, ys ++ [(j11 : Int)], by rw [upd_same, map_snoc], oc_app hyo (oc_one (by omega)), by rw [List.length_append, hyl]; rfl⟩
  · rintro Dl H' hD ⟨b10, _, ys, hy, hyo, hyl⟩
    have h99 := b10 _ _ hne9 h9
    rw [show [V.int (j8 : Int)] = [(j8 : Int)].map V.int from rfl] at h99
    refine cat_step h99 hy (by show 1 + _ ≤ _; omega) fun p12 H12 hp12 s12 h12 => ?_
    exact q H12 p12 _ (Xk.but_trans (Xk.but_trans (Xk.but_trans (Xk.but_trans bt b8) (Xk.but_same s9)) b10) (Xk.but_same s12)) h12 (oc_app (oc_one (by omega)) hyo) (by rw [List.length_append]; show 1 + _ ≤ _; omega)
--CUT--
def sp__law_told (K : PySem.W.Frag) (C : Addr) : Sp := fun vs H Q _ => ∃ (a : Addr) (xs : List Int), vs = [.ref a] ∧ SqL K H a (xs.map V.int) ∧ xs.length ≤ 100000 ∧ Oc xs ∧
  (∀ d, rdW xs = some d → ∀ H' p v, Same H H' → H' p = some (.lst [.str "data", v]) → Xk.Pk K H' 40 v d → Q (.ref p) H') ∧
  (rdW xs = none → ∀ H' p, Same H H' → H' p = some (.lst [.str "malformed", .non]) → Q (.ref p) H')
theorem ok__law_told (T : Txt K mg) (M : Xk.MalT P K mg s_Mal T.C_Malformed T.f_Mal) : FnOk P w K mg base CX0 90 T.f__law_told T.d__law_told ["octets"] (sp__law_told K T.C_Malformed) := by
  refine T.F__law_told.ok sc__law_told (fun vs H Q E h => ?_) (fun cdv A outer s H vs Q E hr h => ?_)
  · obtain ⟨a, xs, rfl, _⟩ := h
    rfl
  obtain ⟨a, xs, rfl, ha, hl, hO, q1, q2⟩ := h
  refine ⟨_, (pss_one (Xk.ps_tryE (i := 1) rfl rfl sc__law_told.nd rfl rfl ⟨rfl, by decide, .inl T.g_CrossError⟩ (fun W pn xe tk _ => (pss_one (ps_ret (pe_lst (pa_cons (pe_str) (pa_cons (pe_callS (ok_unpack T M) (hr.mono (by decide)) (by rfl) T.g_unpack T.F_unpack.kp T.b_unpack (fun σ => passAt tk σ) (pa_cons (pv 0) pa_nil)) pa_nil)))))) (fun a oe cls d pn hz hf => (Evl.pss_cut (ps_if (PW.pt (pw_or (pt_not (pt_val (pe_callB (Xk.k_isD (K := K) (by rfl) List.mem_cons_self hz hf) (by rfl) T.m_isinstance (by decide +kernel) (pa_cons (pv 1) (pa_cons (pe_glob (by rfl) T.g_Malformed Xk.rel_ref) pa_nil))))) (pw_or (pt_not (pt_val (pe_callB (Xk.k_isD (K := K) (by rfl) List.mem_cons_self hz hf) (by rfl) T.m_isinstance (by decide +kernel) (pa_cons (pv 1) (pa_cons (pe_bltn (v := .ty "ValueError") (u := .type "ValueError") (by rfl) T.m_ValueError (by decide +kernel) Xk.rel_ty) pa_nil))))) (pw_or1 (pt_val (pe_callB (Xk.k_isD (K := K) (by rfl) List.mem_cons_self hz hf) (by rfl) T.m_isinstance (by decide +kernel) (pa_cons (pv 1) (pa_cons (pe_tup (pa_cons (pe_glob (by rfl) T.g_NoMessage Xk.rel_ref) (pa_cons (pe_glob (by rfl) T.g_LinkCut Xk.rel_ref) pa_nil))) pa_nil)))))))) (pss_one (ps_ret (pe_lst (pa_cons (pe_str) (pa_cons (pe_non) pa_nil))))) pss_nil)
      (pss_one (ps_ret (pe_lst (pa_cons (pe_ix (Xk.k_ixL (K := K) (by rfl)) (pe_lst (pa_cons (pe_str) (pa_cons (pe_str) pa_nil))) (pe_callTy Xk.call_nInt (by rfl) T.m_int (by decide +kernel) (pa_cons (pe_cmpR op_eq (Xk.k_xf T.X_Mal M.noN hz hf (pv 1)) (pe_int) (nomark _)) pa_nil)) (fun _ _ => rfl)) (pa_cons (pe_non) pa_nil))))))))), ?_⟩
  wtm_at "x0"
  wtm_at "xs"
  refine ⟨a, xs, rfl, ha, hl, hO, fun d hd H' v s1 hv => ?_, fun hr dd H' s1 hdd h1 => ?_⟩
  · wtm_at "xs"
    intro p2 H2 hp2 s2 h2
    exact q1 d hd H2 p2 v (s1.trans s2) h2 (hv.same s2)
  refine Xk.x_was (Xk.exm_one T.N_CrossError T.s_Malformed_CrossError) fun e he => ?_
  have kM : PySem.W.kitOne K (.ref T.C_Malformed) (.ref T.C_Malformed) = some true := Xk.kit_ref2 T.S_Mal T.N_Malformed T.S_Mal
  have kV : PySem.W.kitOne K (.ref T.C_Malformed) (.type "ValueError") = some true := Xk.kit_type (by decide +kernel) T.V_Mal
  have kN : PySem.W.kitOne K (.ref T.C_Malformed) (.ref T.C_NoMessage) = some false := Xk.kit_ref2 T.S_Mal T.N_NoMessage T.s_Malformed_NoMessage
  have kL : PySem.W.kitOne K (.ref T.C_Malformed) (.ref T.C_LinkCut) = some false := Xk.kit_ref2 T.S_Mal T.N_LinkCut T.s_Malformed_LinkCut
  refine Xk.x_cut (fun σ2 H2 => Same H' H2 ∧ σ2 = [some (.ref a), some (.ref e)]) ?_ ?_
  · wtm_at "xs"
    refine Xk.x_isD T.E_Mal h1 kM ?_
    wtm_at "xs"
    refine Xk.x_isDT T.E_Mal h1 kV ?_
    wtm_at "xs"
    intro p2 H2 hp2 s2 h2
    wtm_at "xs"
    refine Xk.x_isDtup T.E_Mal (s2 _ _ h1) (cs := [T.C_NoMessage, T.C_LinkCut]) h2 (Xk.kit_two kN kL) ?_
    wtm_at "xs"
    exact ⟨s2, rfl⟩
  rintro σ2 H2 ⟨s2, rfl⟩
  wtm_at "xs"
  intro p3 H3 hp3 s3 h3
  wtm_at "xs"
  refine Xk.x_xf rfl (s3 _ _ (s2 _ _ h1)) rfl ?_
  wtm_at "xs"
  intro p4 H4 hp4 s4 h4
  exact q2 hr H4 p4 (((s1.trans s2).trans s3).trans s4) h4
--CUT--
theorem oc_codes {z : Str} (h : Xk.AllC tx z = true) : Oc (z.cps.toList.map fun c : Nat => (c : Int)) := fun x hx => by
  obtain ⟨c, hc, rfl⟩ := List.mem_map.mp hx
  unfold Xk.AllC at h
  have h1 := List.all_eq_true.mp (by simpa using h : z.cps.toList.all tx = true) c hc
  rcases tx_where c h1 with ⟨g1, g2, _⟩ | ⟨g1, g2, _⟩ <;> omega
mutual
theorem oc_pack : ∀ d : PyData, Gd d → Oc (packD d)
  | .none, _ => by
    rw [packD]
    exact oc_one (by decide)
  | .int i, _ => by
    rw [packD]
    by_cases h : 0 ≤ i
    · rw [intD_pos h]
      exact oc_app (xs := [1]) (oc_one (by decide)) (oc_sevens _ _ (Nat.le_refl _))
    · rw [intD_neg h]
      exact oc_app (xs := [2]) (oc_one (by decide)) (oc_sevens _ _ (Nat.le_refl _))
  | .str s, h => by
    rw [Gd] at h
    rw [packD]
    exact oc_app (xs := [3]) (oc_one (by decide)) (oc_app (oc_sevens _ _ (Nat.le_refl _)) (oc_codes h.2))
  | .tuple ds, h => by
    rw [Gd] at h
    rw [packD]
    exact oc_app (xs := [4]) (oc_one (by decide)) (oc_app (oc_sevens _ _ (Nat.le_refl _)) (oc_packAll ds h.2))
  | .bool b, h => by simp only [Gd] at h
  | .list ds, h => by simp only [Gd] at h
  | .dict ds, h => by simp only [Gd] at h
theorem oc_packAll : ∀ ds : List PyData, GdAll ds → Oc (packAll ds)
  | [], _ => by
    rw [packAll]
    exact fun x hx => absurd hx List.not_mem_nil
  | d :: ds, h => by
    rw [GdAll] at h
    rw [packAll]
    exact oc_app (oc_pack d h.1) (oc_packAll ds h.2)
end
def sp_law (K : PySem.W.Frag) : Sp := fun vs H Q _ => ∃ (a : Addr) (ns : List Int), vs = [.ref a] ∧ SqL K H a (ns.map V.int) ∧ ns.length ≤ 63 ∧ ∀ H', Q (.bl true) H'
theorem ok_law (T : Txt K mg) (M : Xk.MalT P K mg s_Mal T.C_Malformed T.f_Mal) : FnOk P w K mg base CX0 91 T.f_law T.d_law ["script"] (sp_law K) := by
  refine T.F_law.ok sc_law (fun vs H Q E h => ?_) (fun cdv A outer s H vs Q E hr h => ?_)
  · obtain ⟨a, ns, rfl, _⟩ := h
    rfl
  obtain ⟨a, ns, rfl, hS, hl, q⟩ := h
  refine ⟨_, (pss_cons (ps_for PassesOwn.never rfl (pi_range1 (by rfl) T.m_range (pa_cons (pe_int) pa_nil)) (pg_name (i := 1) sc_law.nd rfl (Or.inl rfl)) (pss_cons (ps_set (i := 2) sc_law.nd rfl (Or.inl rfl) (pe_call (ok__law_pack T) (hr.mono (by decide)) (by rfl) T.g__law_pack T.F__law_pack.kp T.b__law_pack .nil pass0 (pa_cons (pe_call (ok__law_drawn T) (hr.mono (by decide)) (by rfl) T.g__law_drawn T.F__law_drawn.kp T.b__law_drawn .nil pass0 (pa_cons (pe_op op_add (pe_op op_mul (pe_call (ok__law_row T) (hr.mono (by decide)) (by rfl) T.g__law_row T.F__law_row.kp T.b__law_row .nil pass0 (pa_cons (pv 0) (pa_cons (pv 1) pa_nil))) (pe_int)) (pe_callTy Xk.call_nInt (by rfl) T.m_int (by decide +kernel) (pa_cons (pe_call (ok__law_row T) (hr.mono (by decide)) (by rfl) T.g__law_row T.F__law_row.kp T.b__law_row .nil pass0 (pa_cons (pv 0) (pa_cons (pe_op op_add (pe_int) (pv 1)) pa_nil))) pa_nil))) pa_nil)) pa_nil)))
      (pss_one (ps_for PassesOwn.never rfl (pi_range1 (by rfl) T.m_range (pa_cons (pe_int) pa_nil)) (pg_name (i := 3) sc_law.nd rfl (Or.inl rfl)) (pss_cons (ps_set (i := 4) sc_law.nd rfl (Or.inl rfl) (pe_call (ok__law_read T) (hr.mono (by decide)) (by rfl) T.g__law_read T.F__law_read.kp T.b__law_read .nil pass0 (pa_cons (pv 2) (pa_cons (pe_int) (pa_cons (pe_int) pa_nil)))))
      (pss_cons (ps_set (i := 5) sc_law.nd rfl (Or.inl rfl) (pe_callTy (Xk.k_list (K := K) (by rfl)) (by rfl) T.m_list (by decide +kernel) (pa_cons (pv 2) pa_nil)))
      (pss_cons (ps_set (i := 6) sc_law.nd rfl (Or.inl rfl) (pe_call (ok__law_told T M) (hr.mono (by decide)) (by rfl) T.g__law_told T.F__law_told.kp T.b__law_told .nil pass0 (pa_cons (pv 5) pa_nil)))
      (Evl.pss_cut (ps_if (pt_cmpR (Xk.k_neD (K := K) hr.units (by rfl)) (pv 5) (pv 2) (nomark _)) (pss_one (ps_ret (pe_bl))) pss_nil)
      (Evl.pss_cut (ps_if (PW.pt (pw_or (pt_cmpR Xk.op_nIsN (pv 4) (pe_non) (nomark _)) (pw_or1 (pt_cmpR op_ne (pe_ix (Xk.k_ixL (K := K) (by rfl)) (pv 4) (pe_int) (fun _ _ => rfl)) (pe_callB (Xk.k_len (K := K) (by rfl)) (by rfl) T.m_len PySem.boot_len (pa_cons (pv 2) pa_nil)) (nomark _))))) (pss_one (ps_if (pt_cmpR op_ne (pe_ix (Xk.k_ixL (K := K) (by rfl)) (pv 6) (pe_int) (fun _ _ => rfl)) (pe_str) (nomark _)) (pss_one (ps_ret (pe_bl))) pss_nil)) (pss_one (ps_if (PW.pt (pw_or (pt_cmpR op_ne (pe_ix (Xk.k_ixL (K := K) (by rfl)) (pv 6) (pe_int) (fun _ _ => rfl)) (pe_str) (nomark _)) (pw_or1 (pt_not (pt_val (pe_call (ok__law_alike T) (hr.mono (by decide)) (by rfl) T.g__law_alike T.F__law_alike.kp T.b__law_alike .nil pass0 (pa_cons (pe_ix (Xk.k_ixL (K := K) (by rfl)) (pv 6) (pe_int) (fun _ _ => rfl)) (pa_cons (pe_ix (Xk.k_ixL (K := K) (by rfl)) (pv 4) (pe_int) (fun _ _ => rfl)) pa_nil)))))))) (pss_one (ps_ret (pe_bl))) pss_nil)))
      (pss_one (ps_set (i := 2) sc_law.nd rfl (Or.inl rfl) (pe_call (ok__law_spoilt T) (hr.mono (by decide)) (by rfl) T.g__law_spoilt T.F__law_spoilt.kp T.b__law_spoilt .nil pass0 (pa_cons (pv 2) (pa_cons (pe_lst (pa_cons (pe_op op_add (pe_op op_mul (pe_call (ok__law_row T) (hr.mono (by decide)) (by rfl) T.g__law_row T.F__law_row.kp T.b__law_row .nil pass0 (pa_cons (pv 0) (pa_cons (pe_op op_add (pe_int) (pv 1)) pa_nil))) (pe_int)) (pe_callTy Xk.call_nInt (by rfl) T.m_int (by decide +kernel) (pa_cons (pe_call (ok__law_row T) (hr.mono (by decide)) (by rfl) T.g__law_row T.F__law_row.kp T.b__law_row .nil pass0 (pa_cons (pv 0) (pa_cons (pe_op op_add (pe_int) (pv 1)) pa_nil))) pa_nil))) pa_nil)) pa_nil))))))))))))))
      (pss_one (ps_ret (pe_bl)))), ?_⟩
  wtm_at "x0"
  wtm_at "xs"
  refine Xk.x_range (fun i σ' H' => Same H H' ∧ ∃ y1 y2 y3 y4 y5 y6, σ' = [some (.ref a), y1, y2, y3, y4, y5, y6]) ⟨by omega, by omega⟩ ⟨Same.refl _, _, _, _, _, _, _, rfl⟩ ?_ ?_
  · rintro i σ' H' hi ⟨s3, y1, y2, y3, y4, y5, y6, rfl⟩
    have hS' := Xk.sq_same hS s3
    wtm_at "xs"
    refine ⟨a, i, ns, rfl, hS', hl, by omega, by omega, fun n0 hn0 => ?_⟩
    wtm_at "xs"
    refine ⟨a, 10 + i, ns, rfl, hS', hl, by omega, by omega, fun n1 hn1 => ?_⟩
    wtm_at "xs"
    refine ⟨_, rfl, fun H4 v d s4 hv hg hdp hpl => ?_⟩
    wtm_at "xs"
    refine ⟨41, rfl, v, d, rfl, hv, hg, hpl, fun H5 p5 hp5 s5 h5 => ?_⟩
    have hOc := oc_pack d hg
    have sH5 := (s3.trans s4).trans s5
    generalize packD d = xs0 at hOc hpl h5
    clear hv hg hdp
    wtm_at "xs"
    refine Xk.x_range (fun j σ' H' => Same H H' ∧ ∃ (p : Addr) (xs : List Int) (y3 y4 y5 y6 : Option V), σ' = [some (.ref a), some (.int (i : Int)), some (.ref p), y3, y4, y5, y6] ∧ H' p = some (.lst (xs.map V.int)) ∧ Oc xs ∧ xs.length ≤ 40000 + 300 * j) ⟨by omega, by omega⟩ ⟨sH5, _, _, _, _, _, _, rfl, h5, hOc, by omega⟩ ?_ ?_
    · rintro j σ' H' hj ⟨sH, p, xs, y3, y4, y5, y6, rfl, hp, hO, hxl⟩
      have hSj := Xk.sq_same hS sH
      have hlen : (xs.map V.int).length = xs.length := List.length_map ..
      have fin : ∀ (D : Ends) (H8 : Hp) (y4 y5 y6 : Option V), (∀ σ' H', (Same H H' ∧ ∃ (p : Addr) (xs : List Int) (y3 y4 y5 y6 : Option V), σ' = [some (.ref a), some (.int (i : Int)), some (.ref p), y3, y4, y5, y6] ∧ H' p = some (.lst (xs.map V.int)) ∧ Oc xs ∧ xs.length ≤ 40000 + 300 * (j + 1)) → D.nx σ' H') → Same H' H8 →
          tAsg (tCall (sp__law_spoilt K) [] E0 (tCons (tVar 2) (tCons (tLst (tCons (tOp (rI0 fun i j => V.int (i + j)) (tOp (rI CMul fun i j => V.int (i * j)) (tCall (sp__law_row K) [] E0 (tCons (tVar 0) (tCons (tOp (rI0 fun i j => V.int (i + j)) (tC (V.int 20)) (tVar 1)) tNil))) (tC (V.int 2147483647)))
            (tCB Xk.nInt (tCons (tCall (sp__law_row K) [] E0 (tCons (tVar 0) (tCons (tOp (rI0 fun i j => V.int (i + j)) (tC (V.int 30)) (tVar 1)) tNil))) tNil))) tNil)) tNil))) (gName 2) D [some (.ref a), some (.int (i : Int)), some (.ref p), some (.int (j : Int)), y4, y5, y6] H8 := by
        intro D H8 y4 y5 y6 hD s8
        have hS8 := Xk.sq_same hSj s8
        have hp8 := s8 _ _ hp
        wtm_at "xs"
        refine ⟨a, 20 + i, ns, rfl, hS8, hl, by omega, by omega, fun n2 hn2 => ?_⟩
        wtm_at "xs"
        refine ⟨a, 30 + i, ns, rfl, hS8, hl, by omega, by omega, fun n3 hn3 => ?_⟩
        wtm_at "xs"
        intro p9 H9 hp9 s9 h9
        wtm_at "xs"
        refine ⟨p, p9, xs, _, rfl, ne_of_none hp8 hp9.is, s9 _ _ hp8, hO, by omega, h9, fun H10 p10 ys b10 h10 hyo hyl => hD _ _ ⟨Xk.same_but b10 (Xk.free_back hp9 (sH.trans s8)) ((sH.trans s8).trans s9), p10, ys, _, _, _, _, rfl, h10, hyo, by omega⟩⟩
      wtm_at "xs"
      refine ⟨41, rfl, p, xs, 0, 40, by rfl, Xk.sq_of hp, by omega, hO, by decide, by decide, fun d s' hd H6 p6 v hp6 s6 h6 hv => ?_, fun hd H6 s6 => ?_⟩
      · rw [List.drop_zero] at hd
        have hw : rdW xs = if s' = [] then some d else none := by rw [rdW_law, hd]
        have k := rdD_ok true 40 _ d s' (by omega) hd
        have hp6' := s6 _ _ hp
        wtm_at "xs"
        intro p7 H7 hp7 s7 h7
        have h67 := s7 _ _ h6
        have hp67 := s7 _ _ hp6'
        wtm_at "xs"
        refine ⟨p7, xs, rfl, Xk.sq_of h7, by omega, hO, fun d2 hd2 H8 p8 v8 s8 h8 hv8 => ?_, fun hd2 H8 p8 s8 h8 => ?_⟩
        · have hs0 : s' = [] := by
            by_cases h : s' = []
            · exact h
            · rw [hw, if_neg h] at hd2
              cases hd2
          subst hs0
          rw [hw, if_pos rfl] at hd2
          cases hd2
          have h68 := s8 _ _ h67
          have hp68 := s8 _ _ hp67
          have h78 := s8 _ _ h7
          have hv68 := (hv.same s7).same s8
          wtm_at "xs"
          refine fall ?_ ?_
          · wtm_at "xs"
            refine Xk.x_neInts (Xk.sq_of h78) (Xk.sq_of hp68) ?_
            rw [decide_eq_true rfl]
            wtm_at "xs"
            exact ⟨rfl, rfl⟩
          have he : V.int ((xs.length - ([] : List Int).length : Nat) : Int) = V.int ((xs.map V.int).length : Int) := by rw [hlen]; rfl
          refine fall ?_ ?_
          · wtm_at "xs"
            refine ⟨41, rfl, _, _, d, rfl, by decide, hv8.mono (by decide), hv68.mono (by decide), k.2.2.1, ?_⟩
            wtm_at "xs"
            exact ⟨rfl, rfl⟩
          exact fin _ H8 _ _ _ (fun _ _ h => h) ((s6.trans s7).trans s8)
        · have hs0 : s' ≠ [] := fun h => by
            rw [hw, if_pos h] at hd2
            cases hd2
          have h68 := s8 _ _ h67
          have hp68 := s8 _ _ hp67
          have h78 := s8 _ _ h7
          wtm_at "xs"
          refine fall ?_ ?_
          · wtm_at "xs"
            refine Xk.x_neInts (Xk.sq_of h78) (Xk.sq_of hp68) ?_
            rw [decide_eq_true rfl]
            wtm_at "xs"
            exact ⟨rfl, rfl⟩
          have hpos : 0 < s'.length := List.length_pos_iff.mpr hs0
          have he : ¬ (V.int ((xs.length - s'.length : Nat) : Int) = V.int ((xs.map V.int).length : Int)) := fun e => by
            injection e with e
            rw [hlen] at e
            omega
          refine fall ?_ ?_
          · wtm_at "xs"
            exact ⟨rfl, rfl⟩
          exact fin _ H8 _ _ _ (fun _ _ h => h) ((s6.trans s7).trans s8)
      · rw [List.drop_zero] at hd
        have hw : rdW xs = none := by rw [rdW_law, hd]
        have hp6' := s6 _ _ hp
        wtm_at "xs"
        intro p7 H7 hp7 s7 h7
        have hp67 := s7 _ _ hp6'
        wtm_at "xs"
        refine ⟨p7, xs, rfl, Xk.sq_of h7, by omega, hO, fun d2 hd2 => (by rw [hw] at hd2; cases hd2), fun hd2 H8 p8 s8 h8 => ?_⟩
        have hp68 := s8 _ _ hp67
        have h78 := s8 _ _ h7
        wtm_at "xs"
        refine fall ?_ ?_
        · wtm_at "xs"
          refine Xk.x_neInts (Xk.sq_of h78) (Xk.sq_of hp68) ?_
          rw [decide_eq_true rfl]
          wtm_at "xs"
          exact ⟨rfl, rfl⟩
        refine fall ?_ ?_
        · wtm_at "xs"
          exact ⟨rfl, rfl⟩
        exact fin _ H8 _ _ _ (fun _ _ h => h) ((s6.trans s7).trans s8)
    · rintro σ' H' ⟨sH, p, xs, y3, y4, y5, y6, rfl, hp, hO, hxl⟩
      exact ⟨sH, _, _, _, _, _, _, rfl⟩
  · rintro σ' H' ⟨s3, y1, y2, y3, y4, y5, y6, rfl⟩
    wtm_at "xs"
    exact q H'
end
theorem all_mk {l : PySem.W.OpenLaw} {w : World} {K : PySem.W.Frag} {h : Heap} {mg : Str → Option Value} {fa C_CrossError C_Malformed C_NoMessage C_LinkCut f_Mal dTM cdaM ccM f_sign_of f_unpack f__read_whole f__has_great_integer f__read_data f__read_integer f__read_text f__read_tuple f__read_sevens f__octet_at f__law_row f__law_sign f__law_text f__law_take f__law_integer f__law_data f__law_drawn f__law_sevens f__law_pack f__law_alike f__law_read_sevens f__law_read f__law_char f__law_spoilt f__law_told f_law : Addr} (X : K.In h) (G : h.Ns mainGlobals mg) (hfa : mg "law" = some (.ref fa))
    {odM anM dnM cldM cddM ddM od_sign_of an_sign_of od_unpack an_unpack od__read_whole an__read_whole od__has_great_integer an__has_great_integer od__read_data an__read_data od__read_integer an__read_integer od__read_text an__read_text od__read_tuple an__read_tuple od__read_sevens an__read_sevens od__octet_at an__octet_at od__law_row an__law_row od__law_sign an__law_sign od__law_text an__law_text od__law_take an__law_take od__law_integer an__law_integer od__law_data an__law_data od__law_drawn an__law_drawn od__law_sevens an__law_sevens od__law_pack an__law_pack od__law_alike an__law_alike od__law_read_sevens an__law_read_sevens od__law_read an__law_read od__law_char an__law_char od__law_spoilt an__law_spoilt od__law_told an__law_told od_law an_law : Option Addr} {slM sdM cslM ccsM sl_sign_of sl_unpack sl__read_whole sl__has_great_integer sl__read_data sl__read_integer sl__read_text sl__read_tuple sl__read_sevens sl__octet_at sl__law_row sl__law_sign sl__law_text sl__law_take sl__law_integer sl__law_data sl__law_drawn sl__law_sevens sl__law_pack sl__law_alike sl__law_read_sevens sl__law_read sl__law_char sl__law_spoilt sl__law_told sl_law : Array (Option Value)} {ocM kVM dcM pmM ctM clM cclM oc_sign_of kV_sign_of dc_sign_of pm_sign_of cd_sign_of ct_sign_of oc_unpack kV_unpack dc_unpack pm_unpack cd_unpack ct_unpack oc__read_whole kV__read_whole dc__read_whole pm__read_whole cd__read_whole ct__read_whole oc__has_great_integer kV__has_great_integer dc__has_great_integer pm__has_great_integer cd__has_great_integer ct__has_great_integer oc__read_data kV__read_data dc__read_data pm__read_data cd__read_data ct__read_data oc__read_integer kV__read_integer dc__read_integer pm__read_integer cd__read_integer ct__read_integer oc__read_text kV__read_text dc__read_text pm__read_text cd__read_text ct__read_text oc__read_tuple kV__read_tuple dc__read_tuple pm__read_tuple cd__read_tuple ct__read_tuple oc__read_sevens kV__read_sevens dc__read_sevens pm__read_sevens cd__read_sevens ct__read_sevens oc__octet_at kV__octet_at dc__octet_at pm__octet_at cd__octet_at ct__octet_at oc__law_row kV__law_row dc__law_row pm__law_row cd__law_row ct__law_row oc__law_sign kV__law_sign dc__law_sign pm__law_sign cd__law_sign ct__law_sign oc__law_text kV__law_text dc__law_text pm__law_text cd__law_text ct__law_text oc__law_take kV__law_take dc__law_take pm__law_take cd__law_take ct__law_take oc__law_integer kV__law_integer dc__law_integer pm__law_integer cd__law_integer ct__law_integer oc__law_data kV__law_data dc__law_data pm__law_data cd__law_data ct__law_data oc__law_drawn kV__law_drawn dc__law_drawn pm__law_drawn cd__law_drawn ct__law_drawn oc__law_sevens kV__law_sevens dc__law_sevens pm__law_sevens cd__law_sevens ct__law_sevens oc__law_pack kV__law_pack dc__law_pack pm__law_pack cd__law_pack ct__law_pack oc__law_alike kV__law_alike dc__law_alike pm__law_alike cd__law_alike ct__law_alike oc__law_read_sevens kV__law_read_sevens dc__law_read_sevens pm__law_read_sevens cd__law_read_sevens ct__law_read_sevens oc__law_read kV__law_read dc__law_read pm__law_read cd__law_read ct__law_read oc__law_char kV__law_char dc__law_char pm__law_char cd__law_char ct__law_char oc__law_spoilt kV__law_spoilt dc__law_spoilt pm__law_spoilt cd__law_spoilt ct__law_spoilt oc__law_told kV__law_told dc__law_told pm__law_told cd__law_told ct__law_told oc_law kV_law dc_law pm_law cd_law ct_law : Value} {t_BELOW_ZERO t_FROM_ZERO t_HIGH_SIGNS t_LOW_SIGNS t_MOST_DEPTH t_MOST_INTEGER t_NOTHING t_TEXT t_TUPLE : Tok} {nM : Nat} {vsM : Array Value} {t1M t2M tfM : Tok} {fileM nmM qM : Str} {NM : Addr} {bsM bmM subM : List Value} {snM : List Str} {abM : Bool} {colM : Option Bool} {k0M k1M k2M k3M k5M : Option Value}
    (aC_CrossError : PySem.W.nsIn K mainGlobals "CrossError" = some (some (.ref C_CrossError)))
    (xb_CrossError : PySem.W.subIn K (.ref C_CrossError) (.type "BaseException") = some true)
    (xd_CrossError : PySem.W.hasDictIn K C_CrossError = true)
    (xt_CrossError : PySem.W.typeIn K (.ref C_CrossError) = some (.type "type"))
    (aC_Malformed : PySem.W.nsIn K mainGlobals "Malformed" = some (some (.ref C_Malformed)))
    (xb_Malformed : PySem.W.subIn K (.ref C_Malformed) (.type "BaseException") = some true)
    (xd_Malformed : PySem.W.hasDictIn K C_Malformed = true)
    (xt_Malformed : PySem.W.typeIn K (.ref C_Malformed) = some (.type "type"))
    (aC_NoMessage : PySem.W.nsIn K mainGlobals "NoMessage" = some (some (.ref C_NoMessage)))
    (xb_NoMessage : PySem.W.subIn K (.ref C_NoMessage) (.type "BaseException") = some true)
    (xd_NoMessage : PySem.W.hasDictIn K C_NoMessage = true)
    (xt_NoMessage : PySem.W.typeIn K (.ref C_NoMessage) = some (.type "type"))
    (aC_LinkCut : PySem.W.nsIn K mainGlobals "LinkCut" = some (some (.ref C_LinkCut)))
    (xb_LinkCut : PySem.W.subIn K (.ref C_LinkCut) (.type "BaseException") = some true)
    (xd_LinkCut : PySem.W.hasDictIn K C_LinkCut = true)
    (xt_LinkCut : PySem.W.typeIn K (.ref C_LinkCut) = some (.type "type"))
    (ml_cls : K.lookup C_Malformed = some (excClassObj nmM qM C_Malformed NM bsM bmM true snM subM abM colM ddM k0M k1M k2M k3M k5M "ValueError.__new__"))
    (mz_bm : PySem.HandSPX.refsVE bmM = true)
    (ml_k : PySem.W.keepIn K (.ref C_Malformed) = true)
    (ml_i : PySem.W.findIn K (.ref C_Malformed) "__init__" = some (some (.ref f_Mal)))
    (ml_t : PySem.W.typeIn K (.ref f_Mal) = some (.type "function"))
    (ml_sa : PySem.W.findIn K (.ref C_Malformed) "__setattr__" = some (some (.builtin "object.__setattr__")))
    (ml_no : PySem.W.findIn K (.ref C_Malformed) "line" = some none)
    (ml_mr : PySem.W.mroIn K C_Malformed (.ref C_Malformed) = some true)
    (ml_ow : PySem.W.nsIn K cStatics "thirdparty.any" = some none)
    (ms_sm : PySem.W.ks_superIn K C_Malformed C_Malformed "__init__" = some (some (.builtin "ValueError.__init__")))
    (ml_su : PySem.W.nsIn K mainGlobals "super" = some none)
    (mz_tp : (l.prog.main.scope.names.lookup ("super" : Str)).isSome = false)
    (ml_fn : K.lookup f_Mal = some ⟨ocM, odM, .func (Xk.initFn s_Mal dTM kVM dcM pmM anM cdaM ctM ccM), slM⟩)
    (ml_cd : PySem.W.codeIn K (.ref cdaM) "Malformed.__init__" = true)
    (ml_dT : K.lookup dTM = some ⟨.type "tuple", dnM, .seq #[.str "" t1M, .int 0 t2M] nM, sdM⟩)
    (ml_cc : K.lookup ccM = some ⟨clM, cldM, .cell (some (.ref C_Malformed)), cslM⟩)
    (ml_co : K.lookup cdaM = some ⟨cclM, cddM, .fields vsM, ccsM⟩)
    (mz_v2 : vsM[2]? = some (.str fileM tfM))
    (mz_fl : ((l.prog.main.file : Str) == fileM) = true)
    (x1_Malformed : PySem.W.findIn K (.ref C_Malformed) "__getattribute__" = some (some (.builtin "BaseException.__getattribute__")))
    (x2_Malformed : PySem.W.findIn K (.ref C_Malformed) "__getattr__" = some none)
    (x3_Malformed : PySem.W.findIn K (.ref C_Malformed) "__class__" = some (some (.builtin "object.__class__")))
    (x4_Malformed : PySem.W.specialIn K (.builtin "object.__class__") "__get__" = some (some (.builtin "getset_descriptor.__get__")))
    (x5_Malformed : PySem.W.takesIn K (.builtin "object.__class__") = some true)
    (x6_Malformed : PySem.W.mroIn K C_Malformed (.type "object") = some true)
    (x7_Malformed : PySem.W.subIn K (.ref C_Malformed) (.ref C_Malformed) = some true)
    (xs_Malformed_CrossError : PySem.W.subIn K (.ref C_Malformed) (.ref C_CrossError) = some true)
    (xs_Malformed_NoMessage : PySem.W.subIn K (.ref C_Malformed) (.ref C_NoMessage) = some false)
    (xs_Malformed_LinkCut : PySem.W.subIn K (.ref C_Malformed) (.ref C_LinkCut) = some false)
    (xv_Malformed : PySem.W.subIn K (.ref C_Malformed) (.type "ValueError") = some true)
    (xq_NoMessage : PySem.W.excIn K C_NoMessage [.type "ValueError", .type "Exception", .type "BaseException", .type "object"] "ValueError.__new__" = true)
    (xk_NoMessage : PySem.W.keepIn K (.ref C_NoMessage) = true)
    (x1_NoMessage : PySem.W.findIn K (.ref C_NoMessage) "__getattribute__" = some (some (.builtin "BaseException.__getattribute__")))
    (x2_NoMessage : PySem.W.findIn K (.ref C_NoMessage) "__getattr__" = some none)
    (x3_NoMessage : PySem.W.findIn K (.ref C_NoMessage) "__class__" = some (some (.builtin "object.__class__")))
    (x4_NoMessage : PySem.W.specialIn K (.builtin "object.__class__") "__get__" = some (some (.builtin "getset_descriptor.__get__")))
    (x5_NoMessage : PySem.W.takesIn K (.builtin "object.__class__") = some true)
    (x6_NoMessage : PySem.W.mroIn K C_NoMessage (.type "object") = some true)
    (x7_NoMessage : PySem.W.subIn K (.ref C_NoMessage) (.ref C_NoMessage) = some true)
    (xs_NoMessage_CrossError : PySem.W.subIn K (.ref C_NoMessage) (.ref C_CrossError) = some true)
    (xs_NoMessage_Malformed : PySem.W.subIn K (.ref C_NoMessage) (.ref C_Malformed) = some false)
    (xs_NoMessage_LinkCut : PySem.W.subIn K (.ref C_NoMessage) (.ref C_LinkCut) = some false)
    (xv_NoMessage : PySem.W.subIn K (.ref C_NoMessage) (.type "ValueError") = some true)
    (xq_LinkCut : PySem.W.excIn K C_LinkCut [.type "ValueError", .type "Exception", .type "BaseException", .type "object"] "ValueError.__new__" = true)
    (xk_LinkCut : PySem.W.keepIn K (.ref C_LinkCut) = true)
    (x1_LinkCut : PySem.W.findIn K (.ref C_LinkCut) "__getattribute__" = some (some (.builtin "BaseException.__getattribute__")))
    (x2_LinkCut : PySem.W.findIn K (.ref C_LinkCut) "__getattr__" = some none)
    (x3_LinkCut : PySem.W.findIn K (.ref C_LinkCut) "__class__" = some (some (.builtin "object.__class__")))
    (x4_LinkCut : PySem.W.specialIn K (.builtin "object.__class__") "__get__" = some (some (.builtin "getset_descriptor.__get__")))
    (x5_LinkCut : PySem.W.takesIn K (.builtin "object.__class__") = some true)
    (x6_LinkCut : PySem.W.mroIn K C_LinkCut (.type "object") = some true)
    (x7_LinkCut : PySem.W.subIn K (.ref C_LinkCut) (.ref C_LinkCut) = some true)
    (xs_LinkCut_CrossError : PySem.W.subIn K (.ref C_LinkCut) (.ref C_CrossError) = some true)
    (xs_LinkCut_Malformed : PySem.W.subIn K (.ref C_LinkCut) (.ref C_Malformed) = some false)
    (xs_LinkCut_NoMessage : PySem.W.subIn K (.ref C_LinkCut) (.ref C_NoMessage) = some false)
    (xv_LinkCut : PySem.W.subIn K (.ref C_LinkCut) (.type "ValueError") = some true)
    (a_sign_of : PySem.W.nsIn K mainGlobals "sign_of" = some (some (.ref f_sign_of)))
    (l_sign_of : K.lookup f_sign_of = some ⟨oc_sign_of, od_sign_of, .func (PySem.W.fnOf "sign_of" "sign_of" (defArgs s_sign_of) (defBody s_sign_of) (defScope s_sign_of) .none kV_sign_of dc_sign_of pm_sign_of an_sign_of cd_sign_of ct_sign_of), sl_sign_of⟩)
    (c_sign_of : PySem.W.codeIn K cd_sign_of "sign_of" = true)
    (k_sign_of : PySem.W.keepIn K (.ref f_sign_of) = true)
    (a_unpack : PySem.W.nsIn K mainGlobals "unpack" = some (some (.ref f_unpack)))
    (l_unpack : K.lookup f_unpack = some ⟨oc_unpack, od_unpack, .func (PySem.W.fnOf "unpack" "unpack" (defArgs s_unpack) (defBody s_unpack) (defScope s_unpack) .none kV_unpack dc_unpack pm_unpack an_unpack cd_unpack ct_unpack), sl_unpack⟩)
    (c_unpack : PySem.W.codeIn K cd_unpack "unpack" = true)
    (k_unpack : PySem.W.keepIn K (.ref f_unpack) = true)
    (a__read_whole : PySem.W.nsIn K mainGlobals "_read_whole" = some (some (.ref f__read_whole)))
    (l__read_whole : K.lookup f__read_whole = some ⟨oc__read_whole, od__read_whole, .func (PySem.W.fnOf "_read_whole" "_read_whole" (defArgs s__read_whole) (defBody s__read_whole) (defScope s__read_whole) .none kV__read_whole dc__read_whole pm__read_whole an__read_whole cd__read_whole ct__read_whole), sl__read_whole⟩)
    (c__read_whole : PySem.W.codeIn K cd__read_whole "_read_whole" = true)
    (k__read_whole : PySem.W.keepIn K (.ref f__read_whole) = true)
    (a__has_great_integer : PySem.W.nsIn K mainGlobals "_has_great_integer" = some (some (.ref f__has_great_integer)))
    (l__has_great_integer : K.lookup f__has_great_integer = some ⟨oc__has_great_integer, od__has_great_integer, .func (PySem.W.fnOf "_has_great_integer" "_has_great_integer" (defArgs s__has_great_integer) (defBody s__has_great_integer) (defScope s__has_great_integer) .none kV__has_great_integer dc__has_great_integer pm__has_great_integer an__has_great_integer cd__has_great_integer ct__has_great_integer), sl__has_great_integer⟩)
    (c__has_great_integer : PySem.W.codeIn K cd__has_great_integer "_has_great_integer" = true)
    (k__has_great_integer : PySem.W.keepIn K (.ref f__has_great_integer) = true)
    (a__read_data : PySem.W.nsIn K mainGlobals "_read_data" = some (some (.ref f__read_data)))
    (l__read_data : K.lookup f__read_data = some ⟨oc__read_data, od__read_data, .func (PySem.W.fnOf "_read_data" "_read_data" (defArgs s__read_data) (defBody s__read_data) (defScope s__read_data) .none kV__read_data dc__read_data pm__read_data an__read_data cd__read_data ct__read_data), sl__read_data⟩)
    (c__read_data : PySem.W.codeIn K cd__read_data "_read_data" = true)
    (k__read_data : PySem.W.keepIn K (.ref f__read_data) = true)
    (a__read_integer : PySem.W.nsIn K mainGlobals "_read_integer" = some (some (.ref f__read_integer)))
    (l__read_integer : K.lookup f__read_integer = some ⟨oc__read_integer, od__read_integer, .func (PySem.W.fnOf "_read_integer" "_read_integer" (defArgs s__read_integer) (defBody s__read_integer) (defScope s__read_integer) .none kV__read_integer dc__read_integer pm__read_integer an__read_integer cd__read_integer ct__read_integer), sl__read_integer⟩)
    (c__read_integer : PySem.W.codeIn K cd__read_integer "_read_integer" = true)
    (k__read_integer : PySem.W.keepIn K (.ref f__read_integer) = true)
    (a__read_text : PySem.W.nsIn K mainGlobals "_read_text" = some (some (.ref f__read_text)))
    (l__read_text : K.lookup f__read_text = some ⟨oc__read_text, od__read_text, .func (PySem.W.fnOf "_read_text" "_read_text" (defArgs s__read_text) (defBody s__read_text) (defScope s__read_text) .none kV__read_text dc__read_text pm__read_text an__read_text cd__read_text ct__read_text), sl__read_text⟩)
    (c__read_text : PySem.W.codeIn K cd__read_text "_read_text" = true)
    (k__read_text : PySem.W.keepIn K (.ref f__read_text) = true)
    (a__read_tuple : PySem.W.nsIn K mainGlobals "_read_tuple" = some (some (.ref f__read_tuple)))
    (l__read_tuple : K.lookup f__read_tuple = some ⟨oc__read_tuple, od__read_tuple, .func (PySem.W.fnOf "_read_tuple" "_read_tuple" (defArgs s__read_tuple) (defBody s__read_tuple) (defScope s__read_tuple) .none kV__read_tuple dc__read_tuple pm__read_tuple an__read_tuple cd__read_tuple ct__read_tuple), sl__read_tuple⟩)
    (c__read_tuple : PySem.W.codeIn K cd__read_tuple "_read_tuple" = true)
    (k__read_tuple : PySem.W.keepIn K (.ref f__read_tuple) = true)
    (a__read_sevens : PySem.W.nsIn K mainGlobals "_read_sevens" = some (some (.ref f__read_sevens)))
    (l__read_sevens : K.lookup f__read_sevens = some ⟨oc__read_sevens, od__read_sevens, .func (PySem.W.fnOf "_read_sevens" "_read_sevens" (defArgs s__read_sevens) (defBody s__read_sevens) (defScope s__read_sevens) .none kV__read_sevens dc__read_sevens pm__read_sevens an__read_sevens cd__read_sevens ct__read_sevens), sl__read_sevens⟩)
    (c__read_sevens : PySem.W.codeIn K cd__read_sevens "_read_sevens" = true)
    (k__read_sevens : PySem.W.keepIn K (.ref f__read_sevens) = true)
    (a__octet_at : PySem.W.nsIn K mainGlobals "_octet_at" = some (some (.ref f__octet_at)))
    (l__octet_at : K.lookup f__octet_at = some ⟨oc__octet_at, od__octet_at, .func (PySem.W.fnOf "_octet_at" "_octet_at" (defArgs s__octet_at) (defBody s__octet_at) (defScope s__octet_at) .none kV__octet_at dc__octet_at pm__octet_at an__octet_at cd__octet_at ct__octet_at), sl__octet_at⟩)
    (c__octet_at : PySem.W.codeIn K cd__octet_at "_octet_at" = true)
    (k__octet_at : PySem.W.keepIn K (.ref f__octet_at) = true)
    (a__law_row : PySem.W.nsIn K mainGlobals "_law_row" = some (some (.ref f__law_row)))
    (l__law_row : K.lookup f__law_row = some ⟨oc__law_row, od__law_row, .func (PySem.W.fnOf "_law_row" "_law_row" (defArgs s__law_row) (defBody s__law_row) (defScope s__law_row) .none kV__law_row dc__law_row pm__law_row an__law_row cd__law_row ct__law_row), sl__law_row⟩)
    (c__law_row : PySem.W.codeIn K cd__law_row "_law_row" = true)
    (k__law_row : PySem.W.keepIn K (.ref f__law_row) = true)
    (a__law_sign : PySem.W.nsIn K mainGlobals "_law_sign" = some (some (.ref f__law_sign)))
    (l__law_sign : K.lookup f__law_sign = some ⟨oc__law_sign, od__law_sign, .func (PySem.W.fnOf "_law_sign" "_law_sign" (defArgs s__law_sign) (defBody s__law_sign) (defScope s__law_sign) .none kV__law_sign dc__law_sign pm__law_sign an__law_sign cd__law_sign ct__law_sign), sl__law_sign⟩)
    (c__law_sign : PySem.W.codeIn K cd__law_sign "_law_sign" = true)
    (k__law_sign : PySem.W.keepIn K (.ref f__law_sign) = true)
    (a__law_text : PySem.W.nsIn K mainGlobals "_law_text" = some (some (.ref f__law_text)))
    (l__law_text : K.lookup f__law_text = some ⟨oc__law_text, od__law_text, .func (PySem.W.fnOf "_law_text" "_law_text" (defArgs s__law_text) (defBody s__law_text) (defScope s__law_text) .none kV__law_text dc__law_text pm__law_text an__law_text cd__law_text ct__law_text), sl__law_text⟩)
    (c__law_text : PySem.W.codeIn K cd__law_text "_law_text" = true)
    (k__law_text : PySem.W.keepIn K (.ref f__law_text) = true)
    (a__law_take : PySem.W.nsIn K mainGlobals "_law_take" = some (some (.ref f__law_take)))
    (l__law_take : K.lookup f__law_take = some ⟨oc__law_take, od__law_take, .func (PySem.W.fnOf "_law_take" "_law_take" (defArgs s__law_take) (defBody s__law_take) (defScope s__law_take) .none kV__law_take dc__law_take pm__law_take an__law_take cd__law_take ct__law_take), sl__law_take⟩)
    (c__law_take : PySem.W.codeIn K cd__law_take "_law_take" = true)
    (k__law_take : PySem.W.keepIn K (.ref f__law_take) = true)
    (a__law_integer : PySem.W.nsIn K mainGlobals "_law_integer" = some (some (.ref f__law_integer)))
    (l__law_integer : K.lookup f__law_integer = some ⟨oc__law_integer, od__law_integer, .func (PySem.W.fnOf "_law_integer" "_law_integer" (defArgs s__law_integer) (defBody s__law_integer) (defScope s__law_integer) .none kV__law_integer dc__law_integer pm__law_integer an__law_integer cd__law_integer ct__law_integer), sl__law_integer⟩)
    (c__law_integer : PySem.W.codeIn K cd__law_integer "_law_integer" = true)
    (k__law_integer : PySem.W.keepIn K (.ref f__law_integer) = true)
    (a__law_data : PySem.W.nsIn K mainGlobals "_law_data" = some (some (.ref f__law_data)))
    (l__law_data : K.lookup f__law_data = some ⟨oc__law_data, od__law_data, .func (PySem.W.fnOf "_law_data" "_law_data" (defArgs s__law_data) (defBody s__law_data) (defScope s__law_data) .none kV__law_data dc__law_data pm__law_data an__law_data cd__law_data ct__law_data), sl__law_data⟩)
    (c__law_data : PySem.W.codeIn K cd__law_data "_law_data" = true)
    (k__law_data : PySem.W.keepIn K (.ref f__law_data) = true)
    (a__law_drawn : PySem.W.nsIn K mainGlobals "_law_drawn" = some (some (.ref f__law_drawn)))
    (l__law_drawn : K.lookup f__law_drawn = some ⟨oc__law_drawn, od__law_drawn, .func (PySem.W.fnOf "_law_drawn" "_law_drawn" (defArgs s__law_drawn) (defBody s__law_drawn) (defScope s__law_drawn) .none kV__law_drawn dc__law_drawn pm__law_drawn an__law_drawn cd__law_drawn ct__law_drawn), sl__law_drawn⟩)
    (c__law_drawn : PySem.W.codeIn K cd__law_drawn "_law_drawn" = true)
    (k__law_drawn : PySem.W.keepIn K (.ref f__law_drawn) = true)
    (a__law_sevens : PySem.W.nsIn K mainGlobals "_law_sevens" = some (some (.ref f__law_sevens)))
    (l__law_sevens : K.lookup f__law_sevens = some ⟨oc__law_sevens, od__law_sevens, .func (PySem.W.fnOf "_law_sevens" "_law_sevens" (defArgs s__law_sevens) (defBody s__law_sevens) (defScope s__law_sevens) .none kV__law_sevens dc__law_sevens pm__law_sevens an__law_sevens cd__law_sevens ct__law_sevens), sl__law_sevens⟩)
    (c__law_sevens : PySem.W.codeIn K cd__law_sevens "_law_sevens" = true)
    (k__law_sevens : PySem.W.keepIn K (.ref f__law_sevens) = true)
    (a__law_pack : PySem.W.nsIn K mainGlobals "_law_pack" = some (some (.ref f__law_pack)))
    (l__law_pack : K.lookup f__law_pack = some ⟨oc__law_pack, od__law_pack, .func (PySem.W.fnOf "_law_pack" "_law_pack" (defArgs s__law_pack) (defBody s__law_pack) (defScope s__law_pack) .none kV__law_pack dc__law_pack pm__law_pack an__law_pack cd__law_pack ct__law_pack), sl__law_pack⟩)
    (c__law_pack : PySem.W.codeIn K cd__law_pack "_law_pack" = true)
    (k__law_pack : PySem.W.keepIn K (.ref f__law_pack) = true)
    (a__law_alike : PySem.W.nsIn K mainGlobals "_law_alike" = some (some (.ref f__law_alike)))
    (l__law_alike : K.lookup f__law_alike = some ⟨oc__law_alike, od__law_alike, .func (PySem.W.fnOf "_law_alike" "_law_alike" (defArgs s__law_alike) (defBody s__law_alike) (defScope s__law_alike) .none kV__law_alike dc__law_alike pm__law_alike an__law_alike cd__law_alike ct__law_alike), sl__law_alike⟩)
    (c__law_alike : PySem.W.codeIn K cd__law_alike "_law_alike" = true)
    (k__law_alike : PySem.W.keepIn K (.ref f__law_alike) = true)
    (a__law_read_sevens : PySem.W.nsIn K mainGlobals "_law_read_sevens" = some (some (.ref f__law_read_sevens)))
    (l__law_read_sevens : K.lookup f__law_read_sevens = some ⟨oc__law_read_sevens, od__law_read_sevens, .func (PySem.W.fnOf "_law_read_sevens" "_law_read_sevens" (defArgs s__law_read_sevens) (defBody s__law_read_sevens) (defScope s__law_read_sevens) .none kV__law_read_sevens dc__law_read_sevens pm__law_read_sevens an__law_read_sevens cd__law_read_sevens ct__law_read_sevens), sl__law_read_sevens⟩)
    (c__law_read_sevens : PySem.W.codeIn K cd__law_read_sevens "_law_read_sevens" = true)
    (k__law_read_sevens : PySem.W.keepIn K (.ref f__law_read_sevens) = true)
    (a__law_read : PySem.W.nsIn K mainGlobals "_law_read" = some (some (.ref f__law_read)))
    (l__law_read : K.lookup f__law_read = some ⟨oc__law_read, od__law_read, .func (PySem.W.fnOf "_law_read" "_law_read" (defArgs s__law_read) (defBody s__law_read) (defScope s__law_read) .none kV__law_read dc__law_read pm__law_read an__law_read cd__law_read ct__law_read), sl__law_read⟩)
    (c__law_read : PySem.W.codeIn K cd__law_read "_law_read" = true)
    (k__law_read : PySem.W.keepIn K (.ref f__law_read) = true)
    (a__law_char : PySem.W.nsIn K mainGlobals "_law_char" = some (some (.ref f__law_char)))
    (l__law_char : K.lookup f__law_char = some ⟨oc__law_char, od__law_char, .func (PySem.W.fnOf "_law_char" "_law_char" (defArgs s__law_char) (defBody s__law_char) (defScope s__law_char) .none kV__law_char dc__law_char pm__law_char an__law_char cd__law_char ct__law_char), sl__law_char⟩)
    (c__law_char : PySem.W.codeIn K cd__law_char "_law_char" = true)
    (k__law_char : PySem.W.keepIn K (.ref f__law_char) = true)
    (a__law_spoilt : PySem.W.nsIn K mainGlobals "_law_spoilt" = some (some (.ref f__law_spoilt)))
    (l__law_spoilt : K.lookup f__law_spoilt = some ⟨oc__law_spoilt, od__law_spoilt, .func (PySem.W.fnOf "_law_spoilt" "_law_spoilt" (defArgs s__law_spoilt) (defBody s__law_spoilt) (defScope s__law_spoilt) .none kV__law_spoilt dc__law_spoilt pm__law_spoilt an__law_spoilt cd__law_spoilt ct__law_spoilt), sl__law_spoilt⟩)
    (c__law_spoilt : PySem.W.codeIn K cd__law_spoilt "_law_spoilt" = true)
    (k__law_spoilt : PySem.W.keepIn K (.ref f__law_spoilt) = true)
    (a__law_told : PySem.W.nsIn K mainGlobals "_law_told" = some (some (.ref f__law_told)))
    (l__law_told : K.lookup f__law_told = some ⟨oc__law_told, od__law_told, .func (PySem.W.fnOf "_law_told" "_law_told" (defArgs s__law_told) (defBody s__law_told) (defScope s__law_told) .none kV__law_told dc__law_told pm__law_told an__law_told cd__law_told ct__law_told), sl__law_told⟩)
    (c__law_told : PySem.W.codeIn K cd__law_told "_law_told" = true)
    (k__law_told : PySem.W.keepIn K (.ref f__law_told) = true)
    (a_law : PySem.W.nsIn K mainGlobals "law" = some (some (.ref f_law)))
    (l_law : K.lookup f_law = some ⟨oc_law, od_law, .func (PySem.W.fnOf "law" "law" (defArgs s_law) (defBody s_law) (defScope s_law) .none kV_law dc_law pm_law an_law cd_law ct_law), sl_law⟩)
    (c_law : PySem.W.codeIn K cd_law "law" = true)
    (k_law : PySem.W.keepIn K (.ref f_law) = true)
    (z_BELOW_ZERO : PySem.W.nsIn K mainGlobals "BELOW_ZERO" = some (some (.int 2 t_BELOW_ZERO)))
    (z_FROM_ZERO : PySem.W.nsIn K mainGlobals "FROM_ZERO" = some (some (.int 1 t_FROM_ZERO)))
    (z_HIGH_SIGNS : PySem.W.nsIn K mainGlobals "HIGH_SIGNS" = some (some (.str "&'()*+,-./0123456789:;<=>?@ABCDEFGHIJKLMNOPQRSTUVWXYZ[\\]^_`abcdefghijklmnopqrstuvwxyz{|}~" t_HIGH_SIGNS)))
    (z_LOW_SIGNS : PySem.W.nsIn K mainGlobals "LOW_SIGNS" = some (some (.str " !\"#$" t_LOW_SIGNS)))
    (z_MOST_DEPTH : PySem.W.nsIn K mainGlobals "MOST_DEPTH" = some (some (.int 40 t_MOST_DEPTH)))
    (z_MOST_INTEGER : PySem.W.nsIn K mainGlobals "MOST_INTEGER" = some (some (.int 1000000000000000000 t_MOST_INTEGER)))
    (z_NOTHING : PySem.W.nsIn K mainGlobals "NOTHING" = some (some (.int 0 t_NOTHING)))
    (z_TEXT : PySem.W.nsIn K mainGlobals "TEXT" = some (some (.int 3 t_TEXT)))
    (z_TUPLE : PySem.W.nsIn K mainGlobals "TUPLE" = some (some (.int 4 t_TUPLE)))
    (z_ValueError : PySem.W.nsIn K mainGlobals "ValueError" = some none)
    (z_any : PySem.W.nsIn K mainGlobals "any" = some none)
    (z_bool : PySem.W.nsIn K mainGlobals "bool" = some none)
    (z_int : PySem.W.nsIn K mainGlobals "int" = some none)
    (z_isinstance : PySem.W.nsIn K mainGlobals "isinstance" = some none)
    (z_len : PySem.W.nsIn K mainGlobals "len" = some none)
    (z_list : PySem.W.nsIn K mainGlobals "list" = some none)
    (z_ord : PySem.W.nsIn K mainGlobals "ord" = some none)
    (z_range : PySem.W.nsIn K mainGlobals "range" = some none)
    (z_str : PySem.W.nsIn K mainGlobals "str" = some none)
    (z_tuple : PySem.W.nsIn K mainGlobals "tuple" = some none)
    : ∃ fd : FuncData, (∀ (s : Shared) (v : Value), BindsTo s fd ⟨[v], []⟩ [("script", v)]) ∧ ∀ base : Heap, K.In base → base.Ns mainGlobals mg → FnOk l.prog w K mg base CX0 91 fa fd ["script"] (sp_law K) := by
  have e := hfa.symm.trans (PySem.W.mg_of X G a_law)
  cases e
  have F_sign_of := fun_mk (st := s_sign_of) l_sign_of c_sign_of k_sign_of
  have b_sign_of := F_sign_of.binds (ps := ["code"]) fun _ _ _ _ _ _ us hl => match us, hl with | [_], _ => rfl
  have F_unpack := fun_mk (st := s_unpack) l_unpack c_unpack k_unpack
  have b_unpack := F_unpack.binds (ps := ["octets"]) fun _ _ _ _ _ _ us hl => match us, hl with | [_], _ => rfl
  have F__read_whole := fun_mk (st := s__read_whole) l__read_whole c__read_whole k__read_whole
  have b__read_whole := F__read_whole.binds (ps := ["octets", "room"]) fun _ _ _ _ _ _ us hl => match us, hl with | [_, _], _ => rfl
  have F__has_great_integer := fun_mk (st := s__has_great_integer) l__has_great_integer c__has_great_integer k__has_great_integer
  have b__has_great_integer := F__has_great_integer.binds (ps := ["data"]) fun _ _ _ _ _ _ us hl => match us, hl with | [_], _ => rfl
  have F__read_data := fun_mk (st := s__read_data) l__read_data c__read_data k__read_data
  have b__read_data := F__read_data.binds (ps := ["octets", "at", "room"]) fun _ _ _ _ _ _ us hl => match us, hl with | [_, _, _], _ => rfl
  have F__read_integer := fun_mk (st := s__read_integer) l__read_integer c__read_integer k__read_integer
  have b__read_integer := F__read_integer.binds (ps := ["octets", "at"]) fun _ _ _ _ _ _ us hl => match us, hl with | [_, _], _ => rfl
  have F__read_text := fun_mk (st := s__read_text) l__read_text c__read_text k__read_text
  have b__read_text := F__read_text.binds (ps := ["octets", "at"]) fun _ _ _ _ _ _ us hl => match us, hl with | [_, _], _ => rfl
  have F__read_tuple := fun_mk (st := s__read_tuple) l__read_tuple c__read_tuple k__read_tuple
  have b__read_tuple := F__read_tuple.binds (ps := ["octets", "at", "room"]) fun _ _ _ _ _ _ us hl => match us, hl with | [_, _, _], _ => rfl
  have F__read_sevens := fun_mk (st := s__read_sevens) l__read_sevens c__read_sevens k__read_sevens
  have b__read_sevens := F__read_sevens.binds (ps := ["octets", "at"]) fun _ _ _ _ _ _ us hl => match us, hl with | [_, _], _ => rfl
  have F__octet_at := fun_mk (st := s__octet_at) l__octet_at c__octet_at k__octet_at
  have b__octet_at := F__octet_at.binds (ps := ["octets", "at"]) fun _ _ _ _ _ _ us hl => match us, hl with | [_, _], _ => rfl
  have F__law_row := fun_mk (st := s__law_row) l__law_row c__law_row k__law_row
  have b__law_row := F__law_row.binds (ps := ["script", "k"]) fun _ _ _ _ _ _ us hl => match us, hl with | [_, _], _ => rfl
  have F__law_sign := fun_mk (st := s__law_sign) l__law_sign c__law_sign k__law_sign
  have b__law_sign := F__law_sign.binds (ps := ["number"]) fun _ _ _ _ _ _ us hl => match us, hl with | [_], _ => rfl
  have F__law_text := fun_mk (st := s__law_text) l__law_text c__law_text k__law_text
  have b__law_text := F__law_text.binds (ps := ["row", "count"]) fun _ _ _ _ _ _ us hl => match us, hl with | [_, _], _ => rfl
  have F__law_take := fun_mk (st := s__law_take) l__law_take c__law_take k__law_take
  have b__law_take := F__law_take.binds (ps := ["box", "size"]) fun _ _ _ _ _ _ us hl => match us, hl with | [_, _], _ => rfl
  have F__law_integer := fun_mk (st := s__law_integer) l__law_integer c__law_integer k__law_integer
  have b__law_integer := F__law_integer.binds (ps := ["box"]) fun _ _ _ _ _ _ us hl => match us, hl with | [_], _ => rfl
  have F__law_data := fun_mk (st := s__law_data) l__law_data c__law_data k__law_data
  have b__law_data := F__law_data.binds (ps := ["box", "depth"]) fun _ _ _ _ _ _ us hl => match us, hl with | [_, _], _ => rfl
  have F__law_drawn := fun_mk (st := s__law_drawn) l__law_drawn c__law_drawn k__law_drawn
  have b__law_drawn := F__law_drawn.binds (ps := ["row"]) fun _ _ _ _ _ _ us hl => match us, hl with | [_], _ => rfl
  have F__law_sevens := fun_mk (st := s__law_sevens) l__law_sevens c__law_sevens k__law_sevens
  have b__law_sevens := F__law_sevens.binds (ps := ["number"]) fun _ _ _ _ _ _ us hl => match us, hl with | [_], _ => rfl
  have F__law_pack := fun_mk (st := s__law_pack) l__law_pack c__law_pack k__law_pack
  have b__law_pack := F__law_pack.binds (ps := ["data"]) fun _ _ _ _ _ _ us hl => match us, hl with | [_], _ => rfl
  have F__law_alike := fun_mk (st := s__law_alike) l__law_alike c__law_alike k__law_alike
  have b__law_alike := F__law_alike.binds (ps := ["actual", "due"]) fun _ _ _ _ _ _ us hl => match us, hl with | [_, _], _ => rfl
  have F__law_read_sevens := fun_mk (st := s__law_read_sevens) l__law_read_sevens c__law_read_sevens k__law_read_sevens
  have b__law_read_sevens := F__law_read_sevens.binds (ps := ["octets", "at"]) fun _ _ _ _ _ _ us hl => match us, hl with | [_, _], _ => rfl
  have F__law_read := fun_mk (st := s__law_read) l__law_read c__law_read k__law_read
  have b__law_read := F__law_read.binds (ps := ["octets", "at", "depth"]) fun _ _ _ _ _ _ us hl => match us, hl with | [_, _, _], _ => rfl
  have F__law_char := fun_mk (st := s__law_char) l__law_char c__law_char k__law_char
  have b__law_char := F__law_char.binds (ps := ["code"]) fun _ _ _ _ _ _ us hl => match us, hl with | [_], _ => rfl
  have F__law_spoilt := fun_mk (st := s__law_spoilt) l__law_spoilt c__law_spoilt k__law_spoilt
  have b__law_spoilt := F__law_spoilt.binds (ps := ["octets", "box"]) fun _ _ _ _ _ _ us hl => match us, hl with | [_, _], _ => rfl
  have F__law_told := fun_mk (st := s__law_told) l__law_told c__law_told k__law_told
  have b__law_told := F__law_told.binds (ps := ["octets"]) fun _ _ _ _ _ _ us hl => match us, hl with | [_], _ => rfl
  have F_law := fun_mk (st := s_law) l_law c_law k_law
  have b_law := F_law.binds (ps := ["script"]) fun _ _ _ _ _ _ us hl => match us, hl with | [_], _ => rfl
  let T : Txt K mg := ⟨C_CrossError, PySem.W.mg_of X G aC_CrossError, ⟨xb_CrossError, xd_CrossError, xt_CrossError⟩, C_Malformed, PySem.W.mg_of X G aC_Malformed, ⟨xb_Malformed, xd_Malformed, xt_Malformed⟩, C_NoMessage, PySem.W.mg_of X G aC_NoMessage, ⟨xb_NoMessage, xd_NoMessage, xt_NoMessage⟩, C_LinkCut, PySem.W.mg_of X G aC_LinkCut, ⟨xb_LinkCut, xd_LinkCut, xt_LinkCut⟩, f_Mal, ⟨x1_Malformed, x2_Malformed, xb_Malformed, xd_Malformed⟩, ⟨x1_Malformed, x2_Malformed, xb_Malformed, xd_Malformed, x3_Malformed, x4_Malformed, x5_Malformed, x6_Malformed⟩, x7_Malformed, xv_Malformed, xs_Malformed_CrossError, xs_Malformed_NoMessage, xs_Malformed_LinkCut, ⟨xq_NoMessage, xk_NoMessage, xb_NoMessage, xt_NoMessage, ⟨x1_NoMessage, x2_NoMessage, xb_NoMessage, xd_NoMessage, x3_NoMessage, x4_NoMessage, x5_NoMessage, x6_NoMessage⟩, x7_NoMessage⟩, xs_NoMessage_CrossError, xs_NoMessage_Malformed, xs_NoMessage_LinkCut, xv_NoMessage, ⟨xq_LinkCut, xk_LinkCut, xb_LinkCut, xt_LinkCut, ⟨x1_LinkCut, x2_LinkCut, xb_LinkCut, xd_LinkCut, x3_LinkCut, x4_LinkCut, x5_LinkCut, x6_LinkCut⟩, x7_LinkCut⟩, xs_LinkCut_CrossError, xs_LinkCut_Malformed, xs_LinkCut_NoMessage, xv_LinkCut, t_BELOW_ZERO, PySem.W.mg_of X G z_BELOW_ZERO, t_FROM_ZERO, PySem.W.mg_of X G z_FROM_ZERO, t_HIGH_SIGNS, PySem.W.mg_of X G z_HIGH_SIGNS, t_LOW_SIGNS, PySem.W.mg_of X G z_LOW_SIGNS, t_MOST_DEPTH, PySem.W.mg_of X G z_MOST_DEPTH, t_MOST_INTEGER, PySem.W.mg_of X G z_MOST_INTEGER, t_NOTHING, PySem.W.mg_of X G z_NOTHING, t_TEXT, PySem.W.mg_of X G z_TEXT, t_TUPLE, PySem.W.mg_of X G z_TUPLE, f_sign_of, _, F_sign_of, b_sign_of, PySem.W.mg_of X G a_sign_of, f_unpack, _, F_unpack, b_unpack, PySem.W.mg_of X G a_unpack, f__read_whole, _, F__read_whole, b__read_whole, PySem.W.mg_of X G a__read_whole, f__has_great_integer, _, F__has_great_integer, b__has_great_integer, PySem.W.mg_of X G a__has_great_integer, f__read_data, _, F__read_data, b__read_data, PySem.W.mg_of X G a__read_data, f__read_integer, _, F__read_integer, b__read_integer, PySem.W.mg_of X G a__read_integer, f__read_text, _, F__read_text, b__read_text, PySem.W.mg_of X G a__read_text, f__read_tuple, _, F__read_tuple, b__read_tuple, PySem.W.mg_of X G a__read_tuple, f__read_sevens, _, F__read_sevens, b__read_sevens, PySem.W.mg_of X G a__read_sevens, f__octet_at, _, F__octet_at, b__octet_at, PySem.W.mg_of X G a__octet_at, f__law_row, _, F__law_row, b__law_row, PySem.W.mg_of X G a__law_row, f__law_sign, _, F__law_sign, b__law_sign, PySem.W.mg_of X G a__law_sign, f__law_text, _, F__law_text, b__law_text, PySem.W.mg_of X G a__law_text, f__law_take, _, F__law_take, b__law_take, PySem.W.mg_of X G a__law_take, f__law_integer, _, F__law_integer, b__law_integer, PySem.W.mg_of X G a__law_integer, f__law_data, _, F__law_data, b__law_data, PySem.W.mg_of X G a__law_data, f__law_drawn, _, F__law_drawn, b__law_drawn, PySem.W.mg_of X G a__law_drawn, f__law_sevens, _, F__law_sevens, b__law_sevens, PySem.W.mg_of X G a__law_sevens, f__law_pack, _, F__law_pack, b__law_pack, PySem.W.mg_of X G a__law_pack, f__law_alike, _, F__law_alike, b__law_alike, PySem.W.mg_of X G a__law_alike, f__law_read_sevens, _, F__law_read_sevens, b__law_read_sevens, PySem.W.mg_of X G a__law_read_sevens, f__law_read, _, F__law_read, b__law_read, PySem.W.mg_of X G a__law_read, f__law_char, _, F__law_char, b__law_char, PySem.W.mg_of X G a__law_char, f__law_spoilt, _, F__law_spoilt, b__law_spoilt, PySem.W.mg_of X G a__law_spoilt, f__law_told, _, F__law_told, b__law_told, PySem.W.mg_of X G a__law_told, fa, _, F_law, b_law, PySem.W.mg_of X G a_law, PySem.W.mg_none_of X G z_ValueError, PySem.W.mg_none_of X G z_any, PySem.W.mg_none_of X G z_bool, PySem.W.mg_none_of X G z_int, PySem.W.mg_none_of X G z_isinstance, PySem.W.mg_none_of X G z_len, PySem.W.mg_none_of X G z_list, PySem.W.mg_none_of X G z_ord, PySem.W.mg_none_of X G z_range, PySem.W.mg_none_of X G z_str, PySem.W.mg_none_of X G z_tuple⟩
  have M : Xk.MalT l.prog K mg s_Mal C_Malformed f_Mal := ⟨PySem.W.mg_of X G aC_Malformed, ml_k, ⟨_, _, _, _, _, _, _, _, _, _, _, _, _, _, _, ml_cls, mz_bm⟩, ml_i, ml_t, ml_sa, ml_no, xb_Malformed, xv_Malformed, xt_Malformed, ml_mr, ml_ow, ms_sm, PySem.W.mg_none_of X G ml_su, mz_tp, ⟨_, _, _, _, _, _, _, _, _, _, _, ml_fn, ml_cd, ⟨_, _, _, _, _, ml_dT⟩, ⟨_, _, _, ml_cc⟩, _, _, _, _, _, _, ml_co, mz_v2, mz_fl⟩⟩
  exact ⟨PySem.W.fnOf "law" "law" (defArgs s_law) (defBody s_law) (defScope s_law) .none kV_law dc_law pm_law an_law cd_law ct_law, fun s v => .of_eq rfl, fun base _ _ => ok_law T M⟩
end K08
open PySem PySem.W PyProof.Rows
set_option maxRecDepth 100000 in
set_option maxHeartbeats 0 in
theorem PySem.Challenge.cw_crosskeep_k08_malformed_octets_holds : PySem.Challenge.rw_crosskeep_k08_malformed_octets.Holds := by
  w_on; o_law; k_head; (case hw => w_witness2)
  k_fill
  refine L2.walk_of (l := PySem.Challenge.rw_crosskeep_k08_malformed_octets) (n := 63) (k := 91) (x := "script") (CX := fun _ => L2.CX0) (sp := fun w => K08.sp_law _) rfl (by decide) rfl ⟨rfl, by decide, by decide⟩ (fun w h Y => PySem.W.kIn_of Y) ?F (fun _ _ a ns hl _ hS => ⟨a, ns, rfl, hS, hl, fun _ => rfl⟩) (fun _ _ _ _ _ h => h)
  case F =>
    intro w mg fa h KX G hmg
    refine' K08.all_mk KX G hmg ?aC_CrossError ?xb_CrossError ?xd_CrossError ?xt_CrossError ?aC_Malformed ?xb_Malformed ?xd_Malformed ?xt_Malformed ?aC_NoMessage ?xb_NoMessage ?xd_NoMessage ?xt_NoMessage ?aC_LinkCut ?xb_LinkCut ?xd_LinkCut ?xt_LinkCut ?ml_cls ?mz_bm ?ml_k ?ml_i ?ml_t ?ml_sa ?ml_no ?ml_mr ?ml_ow ?ms_sm ?ml_su ?mz_tp ?ml_fn ?ml_cd ?ml_dT ?ml_cc ?ml_co ?mz_v2 ?mz_fl ?x1_Malformed ?x2_Malformed ?x3_Malformed ?x4_Malformed ?x5_Malformed ?x6_Malformed ?x7_Malformed ?xs_Malformed_CrossError ?xs_Malformed_NoMessage ?xs_Malformed_LinkCut ?xv_Malformed ?xq_NoMessage ?xk_NoMessage ?x1_NoMessage ?x2_NoMessage ?x3_NoMessage ?x4_NoMessage ?x5_NoMessage ?x6_NoMessage ?x7_NoMessage ?xs_NoMessage_CrossError ?xs_NoMessage_Malformed ?xs_NoMessage_LinkCut ?xv_NoMessage ?xq_LinkCut ?xk_LinkCut ?x1_LinkCut ?x2_LinkCut ?x3_LinkCut ?x4_LinkCut ?x5_LinkCut ?x6_LinkCut ?x7_LinkCut ?xs_LinkCut_CrossError ?xs_LinkCut_Malformed ?xs_LinkCut_NoMessage ?xv_LinkCut ?a_sign_of ?l_sign_of ?c_sign_of ?k_sign_of ?a_unpack ?l_unpack ?c_unpack ?k_unpack ?a__read_whole ?l__read_whole ?c__read_whole ?k__read_whole ?a__has_great_integer ?l__has_great_integer ?c__has_great_integer ?k__has_great_integer ?a__read_data ?l__read_data ?c__read_data ?k__read_data ?a__read_integer ?l__read_integer ?c__read_integer ?k__read_integer ?a__read_text ?l__read_text ?c__read_text ?k__read_text ?a__read_tuple ?l__read_tuple ?c__read_tuple ?k__read_tuple ?a__read_sevens ?l__read_sevens ?c__read_sevens ?k__read_sevens ?a__octet_at ?l__octet_at ?c__octet_at ?k__octet_at ?a__law_row ?l__law_row ?c__law_row ?k__law_row ?a__law_sign ?l__law_sign ?c__law_sign ?k__law_sign ?a__law_text ?l__law_text ?c__law_text ?k__law_text ?a__law_take ?l__law_take ?c__law_take ?k__law_take ?a__law_integer ?l__law_integer ?c__law_integer ?k__law_integer ?a__law_data ?l__law_data ?c__law_data ?k__law_data ?a__law_drawn ?l__law_drawn ?c__law_drawn ?k__law_drawn ?a__law_sevens ?l__law_sevens ?c__law_sevens ?k__law_sevens ?a__law_pack ?l__law_pack ?c__law_pack ?k__law_pack ?a__law_alike ?l__law_alike ?c__law_alike ?k__law_alike ?a__law_read_sevens ?l__law_read_sevens ?c__law_read_sevens ?k__law_read_sevens ?a__law_read ?l__law_read ?c__law_read ?k__law_read ?a__law_char ?l__law_char ?c__law_char ?k__law_char ?a__law_spoilt ?l__law_spoilt ?c__law_spoilt ?k__law_spoilt ?a__law_told ?l__law_told ?c__law_told ?k__law_told ?a_law ?l_law ?c_law ?k_law ?z_BELOW_ZERO ?z_FROM_ZERO ?z_HIGH_SIGNS ?z_LOW_SIGNS ?z_MOST_DEPTH ?z_MOST_INTEGER ?z_NOTHING ?z_TEXT ?z_TUPLE ?z_ValueError ?z_any ?z_bool ?z_int ?z_isinstance ?z_len ?z_list ?z_ord ?z_range ?z_str ?z_tuple
    (case aC_CrossError => k_is)
    (case xb_CrossError => k_is)
    (case xd_CrossError => k_is)
    (case xt_CrossError => k_is)
    (case aC_Malformed => k_is)
    (case xb_Malformed => k_is)
    (case xd_Malformed => k_is)
    (case xt_Malformed => k_is)
    (case aC_NoMessage => k_is)
    (case xb_NoMessage => k_is)
    (case xd_NoMessage => k_is)
    (case xt_NoMessage => k_is)
    (case aC_LinkCut => k_is)
    (case xb_LinkCut => k_is)
    (case xd_LinkCut => k_is)
    (case xt_LinkCut => k_is)
    (case ml_cls => k_is)
    (case mz_bm => first | rfl | kernel_rfl | decide +kernel)
    (case ml_k => k_is)
    (case ml_i => k_is)
    (case ml_t => k_is)
    (case ml_sa => k_is)
    (case ml_no => k_is)
    (case ml_mr => k_is)
    (case ml_ow => k_is)
    (case ms_sm => ks_is)
    (case ml_su => k_is)
    (case mz_tp => first | rfl | kernel_rfl | decide +kernel)
    (case ml_fn => k_is)
    (case ml_cd => k_is)
    (case ml_dT => k_is)
    (case ml_cc => k_is)
    (case ml_co => k_is)
    (case mz_v2 => first | rfl | kernel_rfl | decide +kernel)
    (case mz_fl => first | rfl | kernel_rfl | decide +kernel)
    (case x1_Malformed => k_is)
    (case x2_Malformed => k_is)
    (case x3_Malformed => k_is)
    (case x4_Malformed => k_is)
    (case x5_Malformed => k_is)
    (case x6_Malformed => k_is)
    (case x7_Malformed => k_is)
    (case xs_Malformed_CrossError => k_is)
    (case xs_Malformed_NoMessage => k_is)
    (case xs_Malformed_LinkCut => k_is)
    (case xv_Malformed => k_is)
    (case xq_NoMessage => k_exc)
    (case xk_NoMessage => k_is)
    (case x1_NoMessage => k_is)
    (case x2_NoMessage => k_is)
    (case x3_NoMessage => k_is)
    (case x4_NoMessage => k_is)
    (case x5_NoMessage => k_is)
    (case x6_NoMessage => k_is)
    (case x7_NoMessage => k_is)
    (case xs_NoMessage_CrossError => k_is)
    (case xs_NoMessage_Malformed => k_is)
    (case xs_NoMessage_LinkCut => k_is)
    (case xv_NoMessage => k_is)
    (case xq_LinkCut => k_exc)
    (case xk_LinkCut => k_is)
    (case x1_LinkCut => k_is)
    (case x2_LinkCut => k_is)
    (case x3_LinkCut => k_is)
    (case x4_LinkCut => k_is)
    (case x5_LinkCut => k_is)
    (case x6_LinkCut => k_is)
    (case x7_LinkCut => k_is)
    (case xs_LinkCut_CrossError => k_is)
    (case xs_LinkCut_Malformed => k_is)
    (case xs_LinkCut_NoMessage => k_is)
    (case xv_LinkCut => k_is)
    (case a_sign_of => k_is)
    (case l_sign_of => k_is)
    (case c_sign_of => k_is)
    (case k_sign_of => k_is)
    (case a_unpack => k_is)
    (case l_unpack => k_is)
    (case c_unpack => k_is)
    (case k_unpack => k_is)
    (case a__read_whole => k_is)
    (case l__read_whole => k_is)
    (case c__read_whole => k_is)
    (case k__read_whole => k_is)
    (case a__has_great_integer => k_is)
    (case l__has_great_integer => k_is)
    (case c__has_great_integer => k_is)
    (case k__has_great_integer => k_is)
    (case a__read_data => k_is)
    (case l__read_data => k_is)
    (case c__read_data => k_is)
    (case k__read_data => k_is)
    (case a__read_integer => k_is)
    (case l__read_integer => k_is)
    (case c__read_integer => k_is)
    (case k__read_integer => k_is)
    (case a__read_text => k_is)
    (case l__read_text => k_is)
    (case c__read_text => k_is)
    (case k__read_text => k_is)
    (case a__read_tuple => k_is)
    (case l__read_tuple => k_is)
    (case c__read_tuple => k_is)
    (case k__read_tuple => k_is)
    (case a__read_sevens => k_is)
    (case l__read_sevens => k_is)
    (case c__read_sevens => k_is)
    (case k__read_sevens => k_is)
    (case a__octet_at => k_is)
    (case l__octet_at => k_is)
    (case c__octet_at => k_is)
    (case k__octet_at => k_is)
    (case a__law_row => k_is)
    (case l__law_row => k_is)
    (case c__law_row => k_is)
    (case k__law_row => k_is)
    (case a__law_sign => k_is)
    (case l__law_sign => k_is)
    (case c__law_sign => k_is)
    (case k__law_sign => k_is)
    (case a__law_text => k_is)
    (case l__law_text => k_is)
    (case c__law_text => k_is)
    (case k__law_text => k_is)
    (case a__law_take => k_is)
    (case l__law_take => k_is)
    (case c__law_take => k_is)
    (case k__law_take => k_is)
    (case a__law_integer => k_is)
    (case l__law_integer => k_is)
    (case c__law_integer => k_is)
    (case k__law_integer => k_is)
    (case a__law_data => k_is)
    (case l__law_data => k_is)
    (case c__law_data => k_is)
    (case k__law_data => k_is)
    (case a__law_drawn => k_is)
    (case l__law_drawn => k_is)
    (case c__law_drawn => k_is)
    (case k__law_drawn => k_is)
    (case a__law_sevens => k_is)
    (case l__law_sevens => k_is)
    (case c__law_sevens => k_is)
    (case k__law_sevens => k_is)
    (case a__law_pack => k_is)
    (case l__law_pack => k_is)
    (case c__law_pack => k_is)
    (case k__law_pack => k_is)
    (case a__law_alike => k_is)
    (case l__law_alike => k_is)
    (case c__law_alike => k_is)
    (case k__law_alike => k_is)
    (case a__law_read_sevens => k_is)
    (case l__law_read_sevens => k_is)
    (case c__law_read_sevens => k_is)
    (case k__law_read_sevens => k_is)
    (case a__law_read => k_is)
    (case l__law_read => k_is)
    (case c__law_read => k_is)
    (case k__law_read => k_is)
    (case a__law_char => k_is)
    (case l__law_char => k_is)
    (case c__law_char => k_is)
    (case k__law_char => k_is)
    (case a__law_spoilt => k_is)
    (case l__law_spoilt => k_is)
    (case c__law_spoilt => k_is)
    (case k__law_spoilt => k_is)
    (case a__law_told => k_is)
    (case l__law_told => k_is)
    (case c__law_told => k_is)
    (case k__law_told => k_is)
    (case a_law => k_is)
    (case l_law => k_is)
    (case c_law => k_is)
    (case k_law => k_is)
    (case z_BELOW_ZERO => k_is)
    (case z_FROM_ZERO => k_is)
    (case z_HIGH_SIGNS => k_is)
    (case z_LOW_SIGNS => k_is)
    (case z_MOST_DEPTH => k_is)
    (case z_MOST_INTEGER => k_is)
    (case z_NOTHING => k_is)
    (case z_TEXT => k_is)
    (case z_TUPLE => k_is)
    (case z_ValueError => k_is)
    (case z_any => k_is)
    (case z_bool => k_is)
    (case z_int => k_is)
    (case z_isinstance => k_is)
    (case z_len => k_is)
    (case z_list => k_is)
    (case z_ord => k_is)
    (case z_range => k_is)
    (case z_str => k_is)
    (case z_tuple => k_is)
#print axioms PySem.Challenge.cw_crosskeep_k08_malformed_octets_holds
